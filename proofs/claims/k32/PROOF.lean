import PyProof.Rows.All
import Wide.All
import OpenK.AllK
import Wide.FinOn
import KE.KStateDown
import HandS.ForMost
import HandS.ForExc
import HandS.Lambda
import HandS.EndTab
import HandS.HeadWalk
import HandS.Head0
import HandS.Head1
import HandS.Head2
import HandS.HeadHook1
import HandS.HeadHook2
import HandS.HeadHook3
import HandS.HeadHook4
import HandS.Property
import HandS.OwnEq
import HandS.Star
import HandS.ClsMeth
import HandS.IsInst
import HandS.ExcIs
import HandS.ExcField
import HandS.ExcOwn
import HandS.FStr
import HandS.Wide
import HandS.StrMore
import HandS.TupMul
import KE.KSuper
import HandS.Exc
import HandS.Codes
import KE.GoesMore
import KE.GoesEnum
import HandS.Zip
import HandS.TupAny
import HandS.SlotsOwn
import HandS.NoneIn
import HandS.SortInts
import HandS.Style
import HandS.Flow
import PyProof.RulesDelMore
import PyProof.DelItemList
import HandS.Nested
import HandS.ExcInit
import KE.KExcSuper
import KE.KExcIs
import KE.KDflt
import HandS.Dict
import KE.KDictKeyed
import HandS.Iter
import HandS.DictComp
import HandS.ListItems
import HandS.Walk
import HandS.Conv
import KE.KDictWalk
import HandS.Set
import HandS.SetFor
import HandS.Strs
import PyProof.SumAny
import HandS.MapSum
import KE.SortData
import HandS.RevRange
import KE.DataFind
import PySem.Challenge.RW_siftchain_k32_whole_opposite_rows
set_option Elab.async false
set_option linter.all false
set_option maxRecDepth 100000
set_option maxHeartbeats 2000000
/-! # Siftchain: what all rows share. Part A: the head's facts by names -/
namespace SC
open PySem PySem.Spec PyProof.Rows L2
/-! ### where defs stand -/
/-- the getter of a property of a class, the def of a classmethod -/
def recA (K : PySem.W.Frag) (p : Addr) (T : String) : Addr := match PySem.W.recIn K p T with
  | some (.ref g :: _) => g
  | _ => 0
def pgA (K : PySem.W.Frag) (C f : Str) : Addr := recA K (He.ma K (He.ga K C) f) "property"
def cmP (K : PySem.W.Frag) (C f : Str) : Addr := match PySem.W.findCls K (.ref (He.ga K C)) (.type "type") f with
  | some (.get _ (.ref p) _ _) => p
  | _ => 0
def cgA (K : PySem.W.Frag) (C f : Str) : Addr := recA K (cmP K C f) "classmethod"
structure DP where
  adr : PySem.W.Frag → Addr
  nm : Str
  qn : Str
  st : Stmt
  /-- the names that it captures -/
  fr : List Str
abbrev Seen : Type := Option (Str × Str × Arguments × FuncBody × Scope × Addr × List Str × Value × Addr)
def seen (K : PySem.W.Frag) (a : Addr) : Seen := match K.lookup a with
  | some ob => (match ob.data with
    | .func q => some (q.name, q.qualname, q.params, q.body, q.scope, q.globals, q.closure.map (·.1), q.defaults, q.builtins)
    | _ => none)
  | none => none
def DP.want (d : DP) : Seen := some (d.nm, d.qn, defArgs d.st, .stmts (defBody d.st), defScope d.st, mainGlobals, d.fr, .none, builtinsNs)
def DP.good (K : PySem.W.Frag) (d : DP) : Bool := match K.lookup (d.adr K) with
  | some ob => (match ob.data with
    | .func q => PySem.W.codeIn K q.code d.qn
    | _ => false)
  | none => false
/-- a def that captures names -/
structure FunC (K : PySem.W.Frag) (x qual : Str) (st : Stmt) (f : Addr) (fr : List Str) (fd : FuncData) : Prop where
  ex : ∃ (oc : Value) (od : Option Addr) (cl : List (Str × Addr)) (kV doc pm : Value) (an : Option Addr) (cdv ct : Value) (osl : Array (Option Value)),
    fd = PySem.W.fnX x qual (defArgs st) (defBody st) (defScope st) cl .none kV doc pm an cdv ct ∧ cl.map (·.1) = fr ∧ K.lookup f = some ⟨oc, od, .func fd, osl⟩ ∧ PySem.W.codeIn K cdv qual = true
  kp : PySem.W.keepIn K (.ref f) = true
theorem DP.toClo {K : PySem.W.Frag} {d : DP} (e : seen K (d.adr K) = d.want) (c : d.good K = true) : ∃ fd, FunC K d.nm d.qn d.st (d.adr K) d.fr fd := by
  unfold seen at e
  unfold DP.good at c
  cases q : K.lookup (d.adr K) with
  | none =>
    rw [q] at c
    cases c
  | some ob =>
    obtain ⟨oc, od, dt, sl⟩ := ob
    rw [q] at c e
    cases dt with
    | func fd =>
      obtain ⟨n1, n2, n3, n4, n5, n6, n7, n8, n9, n10, n11, n12, n13, n14, n15⟩ := fd
      simp only [DP.want, Option.some.injEq, Prod.mk.injEq] at e
      obtain ⟨h1, h2, h3, h4, h5, h6, h7, h8, h9⟩ := e
      subst h1 h2 h3 h4 h5 h6 h8 h9
      refine ⟨_, ⟨oc, od, _, n9, n10, n11, n12, n13, n14, sl, rfl, h7, q, c⟩, ?_⟩
      unfold PySem.W.keepIn
      dsimp only
      rw [q]
    | _ => cases c
theorem DP.toFun {K : PySem.W.Frag} {d : DP} (e : seen K (d.adr K) = d.want) (c : d.good K = true) (hf : d.fr = []) : ∃ fd, Fun K d.nm d.qn d.st (d.adr K) fd := by
  obtain ⟨fd, ⟨oc, od, cl, kV, doc, pm, an, cdv, ct, sl, h, hc, q, c'⟩, kp⟩ := DP.toClo e c
  rw [hf, List.map_eq_nil_iff] at hc
  subst hc
  exact ⟨fd, ⟨oc, od, kV, doc, pm, an, cdv, ct, sl, h, q, c'⟩, kp⟩
/-! ### facts -/
/-- a class: an own one by its name, a built-in one -/
inductive Cn where
  | g (x : Str)
  | t (n : String)
def Cn.v (K : PySem.W.Frag) : Cn → Value
  | .g x => .ref (He.ga K x)
  | .t n => .type n
inductive Fx where
  | fa (f : He.Fa)
  | prop (C f : Str)
  | con (C f : Str) (v : He.Dv)
  | mk0 (C : Str)
  | spec (C m : Str)
  | none_ (C m : Str) (id : String)
  | kit (a b : Cn) (r : Bool)
  | sub (a b : Cn) (r : Bool)
  | isi (C : Str)
  | cls (C : Str)
  | exk (D : Str)
  | cstr (C f z : Str)
  | cint (C f : Str) (i : Int)
  | cmet (C m : Str)
  | slf (C : Str)
  | gen (b : PySem.W.Frag → Bool)
def Fx.ok (K : PySem.W.Frag) : Fx → Bool
  | .fa f => f.ok K
  | .prop C f => He.eqO (PySem.W.findIn K (.ref (He.ga K C)) f) (some (some (.ref (He.ma K (He.ga K C) f)))) && (He.eqO (PySem.W.specialIn K (.ref (He.ma K (He.ga K C) f)) "__get__") (some (some (.builtin "property.__get__"))) &&
      (decide (PySem.W.takesIn K (.ref (He.ma K (He.ga K C) f)) = some true) && (match PySem.W.recIn K (He.ma K (He.ga K C) f) "property" with
        | some (.ref g :: _) => decide (g = pgA K C f)
        | _ => false)))
  | .con C f v => He.conB K C f v
  | .mk0 C => PySem.W.makesIn K (He.ga K C) && (He.eqO (PySem.W.findIn K (.ref (He.ga K C)) "__init__") (some (some (.builtin "object.__init__"))) && PySem.W.keepIn K (.ref (He.ga K C)))
  | .spec C m => He.eqO (PySem.W.findIn K (.ref (He.ga K C)) m) (some (some (.ref (He.ma K (He.ga K C) m)))) && (PySem.W.isFn K (.ref (He.ma K (He.ga K C) m)) && PySem.W.fnIn K (He.ma K (He.ga K C) m))
  | .none_ C m id => He.eqO (PySem.W.findIn K (.ref (He.ga K C)) m) (some (some (.builtin id)))
  | .kit a b r => decide (PySem.W.kitOne K (a.v K) (b.v K) = some r)
  | .sub a b r => decide (PySem.W.subIn K (a.v K) (b.v K) = some r)
  | .isi C => He.eqO (PySem.W.findIn K (.ref (He.ga K C)) "__class__") (some (some (.builtin "object.__class__"))) && (He.eqO (PySem.W.specialIn K (.builtin "object.__class__") "__get__") (some (some (.builtin "getset_descriptor.__get__"))) &&
      (decide (PySem.W.takesIn K (.builtin "object.__class__") = some true) && decide (PySem.W.mroIn K (He.ga K C) (.type "object") = some true)))
  | .cls C => PySem.W.readsIn K (He.ga K C) (.type "type") && He.eqO (PySem.W.specialIn K (.ref (He.ga K C)) "__getattribute__") (some (some (.builtin "type.__getattribute__")))
  | .exk D => He.eqO (PySem.W.findIn K (.ref (He.ga K D)) "__getattribute__") (some (some (.builtin "BaseException.__getattribute__"))) && (He.eqO (PySem.W.findIn K (.ref (He.ga K D)) "__getattr__") (some none) &&
      (decide (PySem.W.subIn K (.ref (He.ga K D)) (.type "BaseException") = some true) && PySem.W.hasDictIn K (He.ga K D)))
  | .cstr C f z => (match PySem.W.findCls K (.ref (He.ga K C)) (.type "type") f with
      | some (.val (.str y _)) => decide (y = z)
      | _ => false)
  | .cint C f i => (match PySem.W.findCls K (.ref (He.ga K C)) (.type "type") f with
      | some (.val (.int j _)) => decide (j = i)
      | _ => false)
  | .cmet C m => (match PySem.W.findCls K (.ref (He.ga K C)) (.type "type") m with
      | some (.get g (.ref p) o c) => decide (g = .builtin "classmethod.__get__" ∧ p = cmP K C m ∧ o = .none ∧ c = .ref (He.ga K C))
      | _ => false) && ((match PySem.W.recIn K (cmP K C m) "classmethod" with
      | some (.ref g :: _) => decide (g = cgA K C m)
      | _ => false) && PySem.W.fnIn K (cgA K C m))
  | .slf C => PySem.W.selfFirst K (He.ga K C)
  | .gen b => b K
section
variable {K : PySem.W.Frag}
open He (ba eqO_ok)
theorem fx_prop {C f : Str} (h : (Fx.prop C f).ok K = true) : PropOf K (He.ga K C) f (He.ma K (He.ga K C) f) (pgA K C f) := by
  obtain ⟨h1, h⟩ := ba h
  obtain ⟨h2, h⟩ := ba h
  obtain ⟨h3, h4⟩ := ba h
  refine ⟨eqO_ok h1, eqO_ok h2, of_decide_eq_true h3, ?_⟩
  split at h4
  · rename_i g r e
    exact ⟨r, by rw [e, of_decide_eq_true h4]⟩
  · cases h4
theorem fx_con {C f : Str} {v : He.Dv} (h : (Fx.con C f v).ok K = true) (hc : PySem.W.copiedNames.contains f = false := by decide) : ∃ u, Con K (He.ga K C) f (v.v K) u := He.conB_ok h hc
theorem fx_cls {C : Str} (h : (Fx.cls C).ok K = true) : ClX.CRead K (He.ga K C) (.type "type") := by
  obtain ⟨h1, h2⟩ := ba h
  exact ⟨h1, eqO_ok h2⟩
theorem fx_cstr {C f z : Str} (h : (Fx.cstr C f z).ok K = true) : ∃ u, ClX.CVal K (He.ga K C) (.type "type") f (.str z) u := by
  have h : (match PySem.W.findCls K (.ref (He.ga K C)) (.type "type") f with
      | some (.val (.str y _)) => decide (y = z)
      | _ => false) = true := h
  split at h
  · rename_i y t e
    rw [of_decide_eq_true h] at e
    exact ⟨_, e, t, rfl⟩
  · cases h
theorem fx_cint {C f : Str} {i : Int} (h : (Fx.cint C f i).ok K = true) : ∃ u, ClX.CVal K (He.ga K C) (.type "type") f (.int i) u := by
  have h : (match PySem.W.findCls K (.ref (He.ga K C)) (.type "type") f with
      | some (.val (.int j _)) => decide (j = i)
      | _ => false) = true := h
  split at h
  · rename_i y t e
    rw [of_decide_eq_true h] at e
    exact ⟨_, e, t, rfl⟩
  · cases h
theorem fx_cmet {C m : Str} (h : (Fx.cmet C m).ok K = true) : ClX.CMet K (He.ga K C) (.type "type") m (cmP K C m) (cgA K C m) := by
  obtain ⟨h1, h⟩ := ba h
  obtain ⟨h2, h3⟩ := ba h
  refine ⟨?_, ?_, h3⟩
  · split at h1
    · rename_i g p o c e
      obtain ⟨e1, e2, e3, e4⟩ := of_decide_eq_true h1
      rw [e, e1, e2, e3, e4]
    · cases h1
  · split at h2
    · rename_i g r e
      exact ⟨r, by rw [e, of_decide_eq_true h2]⟩
    · cases h2
theorem fx_gen {b : PySem.W.Frag → Bool} (h : (Fx.gen b).ok K = true) : b K = true := h
theorem fx_slf {C : Str} (h : (Fx.slf C).ok K = true) : PySem.W.selfFirst K (He.ga K C) = true := h
/-- a class without an __init__ of its own -/
structure Mk0 (K : PySem.W.Frag) (C : Addr) : Prop where
  makes : PySem.W.makesIn K C = true
  init : PySem.W.findIn K (.ref C) "__init__" = some (some (.builtin "object.__init__"))
  kp : PySem.W.keepIn K (.ref C) = true
theorem fx_mk0 {C : Str} (h : (Fx.mk0 C).ok K = true) : Mk0 K (He.ga K C) := by
  obtain ⟨h1, h⟩ := ba h
  obtain ⟨h2, h3⟩ := ba h
  exact ⟨h1, eqO_ok h2, h3⟩
/-- a special method -/
structure Spec (K : PySem.W.Frag) (C : Addr) (m : Str) (f : Addr) : Prop where
  at_ : PySem.W.findIn K (.ref C) m = some (some (.ref f))
  fn : PySem.W.isFn K (.ref f) = true
  fi : PySem.W.fnIn K f = true
theorem fx_spec {C m : Str} (h : (Fx.spec C m).ok K = true) : Spec K (He.ga K C) m (He.ma K (He.ga K C) m) := by
  obtain ⟨h1, h⟩ := ba h
  obtain ⟨h2, h3⟩ := ba h
  exact ⟨eqO_ok h1, h2, h3⟩
theorem fx_none {C m : Str} {id : String} (h : (Fx.none_ C m id).ok K = true) : PySem.W.findIn K (.ref (He.ga K C)) m = some (some (.builtin id)) := eqO_ok h
theorem fx_kit {a b : Cn} {r : Bool} (h : (Fx.kit a b r).ok K = true) : PySem.W.kitOne K (a.v K) (b.v K) = some r := of_decide_eq_true h
theorem fx_sub {a b : Cn} {r : Bool} (h : (Fx.sub a b r).ok K = true) : PySem.W.subIn K (a.v K) (b.v K) = some r := of_decide_eq_true h
/-- what isinstance asks of an instance's class -/
structure Isi (K : PySem.W.Frag) (C : Addr) : Prop where
  ha : PySem.W.findIn K (.ref C) "__class__" = some (some (.builtin "object.__class__"))
  hn : PySem.W.specialIn K (.builtin "object.__class__") "__get__" = some (some (.builtin "getset_descriptor.__get__"))
  ht : PySem.W.takesIn K (.builtin "object.__class__") = some true
  hm : PySem.W.mroIn K C (.type "object") = some true
theorem fx_isi {C : Str} (h : (Fx.isi C).ok K = true) : Isi K (He.ga K C) := by
  obtain ⟨h1, h⟩ := ba h
  obtain ⟨h2, h⟩ := ba h
  obtain ⟨h3, h4⟩ := ba h
  exact ⟨eqO_ok h1, eqO_ok h2, of_decide_eq_true h3, of_decide_eq_true h4⟩
theorem fx_exk {D : Str} (h : (Fx.exk D).ok K = true) (i : (Fx.isi D).ok K = true) : ExcC K (He.ga K D) := by
  obtain ⟨h1, h⟩ := ba h
  obtain ⟨h2, h⟩ := ba h
  obtain ⟨h3, h4⟩ := ba h
  have q := fx_isi i
  exact ⟨eqO_ok h1, eqO_ok h2, of_decide_eq_true h3, h4, q.ha, q.hn, q.ht, q.hm⟩
end
/-! ### the Hook -/
def tabGood (g : Addr → Option Obj) (K : PySem.W.Frag) (tf : List He.Defn) : Bool := He.tabsB g tf K
/-- what the names reach in n steps, and the interpreter's own statics (a class's reading looks there) -/
def asC (g : Addr → Option Obj) (n : Nat) : List Addr := He.asD g n ++ [cStatics]
abbrev Look : Type := List Seen × Bool
def look (n : Nat) (ds : List DP) (fs : List Fx) (tf : List He.Defn) (g : Addr → Option Obj) : Look :=
  (ds.map fun d => seen (He.frT g (asC g n)) (d.adr (He.frT g (asC g n))),
   (ds.all fun d => d.good (He.frT g (asC g n))) && ((fs.all fun f => f.ok (He.frT g (asC g n))) && He.tabsB g tf (He.frT g (asC g n))))
def lookWant (ds : List DP) : Look := (ds.map DP.want, true)
/-- what the head tells: the defs, the facts, the tables (empty, not in K) -/
structure Says (ds : List DP) (fs : List Fx) (tf : List He.Defn) (h : Heap) (K : PySem.W.Frag) : Prop where
  defs : ∀ d ∈ ds, d.fr = [] → ∃ fd, Fun K d.nm d.qn d.st (d.adr K) fd
  clos : ∀ d ∈ ds, ∃ fd, FunC K d.nm d.qn d.st (d.adr K) d.fr fd
  fact : ∀ f ∈ fs, f.ok K = true
  hd : ∀ p ∈ tf, PySem.W.codeHdIn K (He.cT K p).1 (He.cT K p).2 = true
  out : ∀ p ∈ tf, K.lookup (He.cT K p).2 = none
  empty : ∀ p ∈ tf, h.get? (He.cT K p).2 = some { cls := .none, data := .fields #[] }
theorem map_get {α β : Type} {f g : α → β} : ∀ {l : List α}, l.map f = l.map g → ∀ x ∈ l, f x = g x
  | [], _, _, h => by cases h
  | a :: r, e, x, h => by
    rw [List.map_cons, List.map_cons] at e
    injection e with e1 e2
    rcases List.mem_cons.mp h with q | q
    · rw [q]
      exact e1
    · exact map_get e2 x q
theorem says_of {n : Nat} {ds : List DP} {fs : List Fx} {tf : List He.Defn} {h : Heap} (e : look n ds fs tf h.get? = lookWant ds) : Says ds fs tf h (He.frT h.get? (asC h.get? n)) := by
  have e1 : ds.map (fun d => seen (He.frT h.get? (asC h.get? n)) (d.adr (He.frT h.get? (asC h.get? n)))) = ds.map DP.want := congrArg (fun z : Look => z.1) e
  have e2 : ((ds.all fun d => d.good (He.frT h.get? (asC h.get? n))) && ((fs.all fun f => f.ok (He.frT h.get? (asC h.get? n))) && He.tabsB h.get? tf (He.frT h.get? (asC h.get? n)))) = true := congrArg (fun z : Look => z.2) e
  obtain ⟨h1, h2⟩ := He.ba e2
  obtain ⟨h3, h4⟩ := He.ba h2
  generalize asC h.get? n = as at *
  have key : ∀ p ∈ tf, PySem.W.codeHdIn (He.frT h.get? as) (He.cT (He.frT h.get? as) p).1 (He.cT (He.frT h.get? as) p).2 = true ∧ ∃ o, h.get? (He.cT (He.frT h.get? as) p).2 = some o ∧ He.emptyTab o = true := fun p hp => by
    obtain ⟨k1, k2⟩ := He.ba (List.all_eq_true.mp h4 p hp)
    refine ⟨k1, ?_⟩
    cases q : h.get? (He.cT (He.frT h.get? as) p).2 with
    | none =>
      rw [q] at k2
      cases k2
    | some o =>
      rw [q] at k2
      exact ⟨o, rfl, k2⟩
  refine ⟨fun d hd => DP.toFun (map_get e1 d hd) (List.all_eq_true.mp h1 d hd), fun d hd => DP.toClo (map_get e1 d hd) (List.all_eq_true.mp h1 d hd), fun f hf => List.all_eq_true.mp h3 f hf, fun p hp => (key p hp).1, fun p hp => ?_, fun p hp => ?_⟩
  · obtain ⟨_, o, q, z⟩ := key p hp
    exact He.frT_none q z
  · obtain ⟨_, o, q, z⟩ := key p hp
    rw [q, He.emptyTab_eq z]
def hook (n : Nat) (ds : List DP) (fs : List Fx) (tf : List He.Defn) : PySem.W.Hook where
  α := Look
  obs := fun s => look n ds fs tf s.heap.get?
  val := fun _ => lookWant ds
  says := fun _ h => ∃ K : PySem.W.Frag, K.In h ∧ Says ds fs tf h K
  of := fun _ _ e => ⟨_, He.frT_in, says_of e⟩
  keeps := fun _ _ _ ⟨K, hK, c⟩ k => ⟨K, PySem.W.Frag.In.keeps hK k, ⟨c.defs, c.clos, c.fact, c.hd, c.out, fun p hp => k _ _ (c.empty p hp)⟩⟩
theorem look_eq {n : Nat} {ds : List DP} {fs : List Fx} {tf : List He.Defn} {g : Addr → Option Obj} {s : Shared} (h : ∀ a, g a = s.heap.get? a) : look n ds fs tf g = (hook n ds fs tf).obs s := by
  have e : g = s.heap.get? := funext h
  rw [e] <;> rfl
end SC
set_option maxRecDepth 100000
set_option maxHeartbeats 2000000
/-! # Part A3: what the head looks at of errors with a field -/
namespace SC
open PySem PySem.Spec PyProof.Rows L2
open He (ba eqO eqO_ok)
def oexB (K : PySem.W.Frag) (C : Addr) : Bool := (match K.lookup C with
  | some ⟨.type "type", _, .cls cd, sl⟩ => (match cd.mro, sl.toList with
    | .ref C' :: bm, [_, _, _, _, some (.builtin n), _] => C' == C && n == "ValueError.__new__" && !cd.hasDel && cd.hasDict && PySem.HandSPX.refsVE bm
    | _, _ => false)
  | _ => false) && (eqO (PySem.W.findIn K (.ref C) "__setattr__") (some (some (.builtin "object.__setattr__"))) && (decide (PySem.W.subIn K (.ref C) (.type "BaseException") = some true) && (decide (PySem.W.typeIn K (.ref C) = some (.type "type")) && PySem.W.keepIn K (.ref C))))
def codeB (file : Str) (K : PySem.W.Frag) (cv : Value) : Bool := match cv with
  | .ref c => (match K.lookup c with
    | some oc => (match oc.data with
      | .fields vs => (match (vs[2]? : Option Value) with
        | some (.str fl _) => file == fl
        | _ => false)
      | _ => false)
    | none => false)
  | _ => false
def cellB (K : PySem.W.Frag) (C : Addr) (cl : List (Str × Addr)) : Bool := match cl with
  | [(_, cc)] => (match K.lookup cc with
    | some o => (match o.data with
      | .cell (some (.ref a)) => decide (a = C)
      | _ => false)
    | none => false)
  | _ => false
def supB (file x0 : Str) (K : PySem.W.Frag) (f C : Addr) : Bool := (match K.lookup f with
  | some ob => (match ob.data with
    | .func q => (match (q.params.posonlyargs ++ q.params.args).head? with
      | some ar => decide (ar.arg = x0)
      | none => false) && (codeB file K q.code && cellB K C q.closure)
    | _ => false)
  | none => false) && (eqO (PySem.W.nsIn K cStatics "thirdparty.any") (some none) && (eqO (PySem.W.ks_superIn K C C "__init__") (some (some (.builtin "ValueError.__init__"))) && (decide (PySem.W.subIn K (.ref C) (.type "ValueError") = some true) &&
    (decide (PySem.W.subIn K (.ref C) (.ref C) = some true) && (eqO (PySem.W.findIn K (.ref C) "__init__") (some (some (.ref f))) && decide (PySem.W.typeIn K (.ref f) = some (.type "function")))))))
end SC

set_option maxRecDepth 100000
set_option maxHeartbeats 0
namespace SC
open PySem PySem.Spec PyProof.Rows L2
def top0 : Program := PySem.Challenge.pw_siftchain_k32_whole_opposite_rows
def top (i : Nat) : Stmt := PySem.Challenge.pw_siftchain_k32_whole_opposite_rows.main.body.getD i (.Pass ⟨0, 0, 0, 0⟩)
abbrev s_is_within : Stmt := top 10
abbrev s_is_number : Stmt := top 11
abbrev s_check_number : Stmt := top 12
abbrev s_check_index : Stmt := top 13
abbrev s_check_row : Stmt := top 14
abbrev s_check_some : Stmt := top 15
abbrev s_check_count : Stmt := top 19
abbrev s_run_until_repeat : Stmt := top 20
abbrev s_same_tick : Stmt := top 21
abbrev s_times_until : Stmt := top 22
abbrev s_nth_out : Stmt := top 23
abbrev s_held_after : Stmt := top 24
abbrev s_find_cycle : Stmt := top 25
abbrev s_count_out : Stmt := top 26
abbrev s_Cell_call : Stmt := inClass (top 30) 1
abbrev s_Cell_eq : Stmt := inClass (top 30) 2
abbrev s_Cell_neg : Stmt := inClass (top 30) 3
abbrev s_Cell_label : Stmt := inClass (top 30) 4
abbrev s_Last_call : Stmt := inClass (top 31) 1
abbrev s_Last_eq : Stmt := inClass (top 31) 2
abbrev s_Last_neg : Stmt := inClass (top 31) 3
abbrev s_Last_label : Stmt := inClass (top 31) 4
abbrev s_Less_call : Stmt := inClass (top 32) 1
abbrev s_Less_eq : Stmt := inClass (top 32) 2
abbrev s_Less_neg : Stmt := inClass (top 32) 3
abbrev s_Less_label : Stmt := inClass (top 32) 4
abbrev s_Greater_call : Stmt := inClass (top 33) 1
abbrev s_Greater_eq : Stmt := inClass (top 33) 2
abbrev s_Greater_neg : Stmt := inClass (top 33) 3
abbrev s_Greater_label : Stmt := inClass (top 33) 4
abbrev s_Near_init : Stmt := inClass (top 34) 1
abbrev s_Near_call : Stmt := inClass (top 34) 2
abbrev s_Near_eq : Stmt := inClass (top 34) 3
abbrev s_Near_neg : Stmt := inClass (top 34) 4
abbrev s_Near_label : Stmt := inClass (top 34) 5
abbrev s_near_of : Stmt := top 35
abbrev s_cell_of : Stmt := top 36
abbrev s_Chain_init : Stmt := inClass (top 37) 1
abbrev s_Chain_parse : Stmt := inClass (top 37) 2
abbrev s_Chain_text : Stmt := inClass (top 37) 3
abbrev s_Chain_empty : Stmt := inClass (top 37) 4
abbrev s_Chain_step : Stmt := inClass (top 37) 5
abbrev s_Chain_call : Stmt := inClass (top 37) 6
abbrev s_Chain_len : Stmt := inClass (top 37) 7
abbrev s_Chain_getitem : Stmt := inClass (top 37) 8
abbrev s_Chain_iter : Stmt := inClass (top 37) 9
abbrev s_Chain_rshift : Stmt := inClass (top 37) 10
abbrev s_Chain_rrshift : Stmt := inClass (top 37) 11
abbrev s_Chain_neg : Stmt := inClass (top 37) 12
abbrev s_Chain_eq : Stmt := inClass (top 37) 13
abbrev s_is_out : Stmt := top 39
abbrev s_check_held : Stmt := top 40
abbrev s_cell_before : Stmt := top 41
abbrev s_ways_back : Stmt := top 42
abbrev s_earlier : Stmt := top 43
abbrev s__law_random : Stmt := top 45
abbrev s__law_below : Stmt := top 46
abbrev s__law_labels : Stmt := top 47
abbrev s__law_row : Stmt := top 48
abbrev s__law_chain : Stmt := top 49
abbrev s__law_opposite : Stmt := top 50
abbrev s__law_some_tick : Stmt := top 51
abbrev s_law : Stmt := top 52
def d_is_within : DP := ⟨(fun K => He.ga K "is_within"), "is_within", "is_within", s_is_within, []⟩
def d_is_number : DP := ⟨(fun K => He.ga K "is_number"), "is_number", "is_number", s_is_number, []⟩
def d_check_number : DP := ⟨(fun K => He.ga K "check_number"), "check_number", "check_number", s_check_number, []⟩
def d_check_index : DP := ⟨(fun K => He.ga K "check_index"), "check_index", "check_index", s_check_index, []⟩
def d_check_row : DP := ⟨(fun K => He.ga K "check_row"), "check_row", "check_row", s_check_row, []⟩
def d_check_some : DP := ⟨(fun K => He.ga K "check_some"), "check_some", "check_some", s_check_some, []⟩
def d_check_count : DP := ⟨(fun K => He.ga K "check_count"), "check_count", "check_count", s_check_count, []⟩
def d_run_until_repeat : DP := ⟨(fun K => He.ga K "run_until_repeat"), "run_until_repeat", "run_until_repeat", s_run_until_repeat, []⟩
def d_same_tick : DP := ⟨(fun K => He.ga K "same_tick"), "same_tick", "same_tick", s_same_tick, []⟩
def d_times_until : DP := ⟨(fun K => He.ga K "times_until"), "times_until", "times_until", s_times_until, []⟩
def d_nth_out : DP := ⟨(fun K => He.ga K "nth_out"), "nth_out", "nth_out", s_nth_out, []⟩
def d_held_after : DP := ⟨(fun K => He.ga K "held_after"), "held_after", "held_after", s_held_after, []⟩
def d_find_cycle : DP := ⟨(fun K => He.ga K "find_cycle"), "find_cycle", "find_cycle", s_find_cycle, []⟩
def d_count_out : DP := ⟨(fun K => He.ga K "count_out"), "count_out", "count_out", s_count_out, []⟩
def d_Cell_call : DP := ⟨(fun K => He.ma K (He.ga K "Cell") "__call__"), "__call__", "Cell.__call__", s_Cell_call, []⟩
def d_Cell_eq : DP := ⟨(fun K => He.ma K (He.ga K "Cell") "__eq__"), "__eq__", "Cell.__eq__", s_Cell_eq, []⟩
def d_Cell_neg : DP := ⟨(fun K => He.ma K (He.ga K "Cell") "__neg__"), "__neg__", "Cell.__neg__", s_Cell_neg, []⟩
def d_Cell_label : DP := ⟨(fun K => pgA K "Cell" "label"), "label", "Cell.label", s_Cell_label, []⟩
def d_Last_call : DP := ⟨(fun K => He.ma K (He.ga K "Last") "__call__"), "__call__", "Last.__call__", s_Last_call, []⟩
def d_Last_eq : DP := ⟨(fun K => He.ma K (He.ga K "Last") "__eq__"), "__eq__", "Last.__eq__", s_Last_eq, []⟩
def d_Last_neg : DP := ⟨(fun K => He.ma K (He.ga K "Last") "__neg__"), "__neg__", "Last.__neg__", s_Last_neg, []⟩
def d_Last_label : DP := ⟨(fun K => pgA K "Last" "label"), "label", "Last.label", s_Last_label, []⟩
def d_Less_call : DP := ⟨(fun K => He.ma K (He.ga K "Less") "__call__"), "__call__", "Less.__call__", s_Less_call, []⟩
def d_Less_eq : DP := ⟨(fun K => He.ma K (He.ga K "Less") "__eq__"), "__eq__", "Less.__eq__", s_Less_eq, []⟩
def d_Less_neg : DP := ⟨(fun K => He.ma K (He.ga K "Less") "__neg__"), "__neg__", "Less.__neg__", s_Less_neg, []⟩
def d_Less_label : DP := ⟨(fun K => pgA K "Less" "label"), "label", "Less.label", s_Less_label, []⟩
def d_Greater_call : DP := ⟨(fun K => He.ma K (He.ga K "Greater") "__call__"), "__call__", "Greater.__call__", s_Greater_call, []⟩
def d_Greater_eq : DP := ⟨(fun K => He.ma K (He.ga K "Greater") "__eq__"), "__eq__", "Greater.__eq__", s_Greater_eq, []⟩
def d_Greater_neg : DP := ⟨(fun K => He.ma K (He.ga K "Greater") "__neg__"), "__neg__", "Greater.__neg__", s_Greater_neg, []⟩
def d_Greater_label : DP := ⟨(fun K => pgA K "Greater" "label"), "label", "Greater.label", s_Greater_label, []⟩
def d_Near_init : DP := ⟨(fun K => He.ma K (He.ga K "Near") "__init__"), "__init__", "Near.__init__", s_Near_init, []⟩
def d_Near_call : DP := ⟨(fun K => He.ma K (He.ga K "Near") "__call__"), "__call__", "Near.__call__", s_Near_call, []⟩
def d_Near_eq : DP := ⟨(fun K => He.ma K (He.ga K "Near") "__eq__"), "__eq__", "Near.__eq__", s_Near_eq, []⟩
def d_Near_neg : DP := ⟨(fun K => He.ma K (He.ga K "Near") "__neg__"), "__neg__", "Near.__neg__", s_Near_neg, []⟩
def d_Near_label : DP := ⟨(fun K => pgA K "Near" "label"), "label", "Near.label", s_Near_label, []⟩
def d_near_of : DP := ⟨(fun K => He.ga K "near_of"), "near_of", "near_of", s_near_of, []⟩
def d_cell_of : DP := ⟨(fun K => He.ga K "cell_of"), "cell_of", "cell_of", s_cell_of, []⟩
def d_Chain_init : DP := ⟨(fun K => He.ma K (He.ga K "Chain") "__init__"), "__init__", "Chain.__init__", s_Chain_init, []⟩
def d_Chain_parse : DP := ⟨(fun K => cgA K "Chain" "parse"), "parse", "Chain.parse", s_Chain_parse, []⟩
def d_Chain_text : DP := ⟨(fun K => pgA K "Chain" "text"), "text", "Chain.text", s_Chain_text, []⟩
def d_Chain_empty : DP := ⟨(fun K => pgA K "Chain" "empty"), "empty", "Chain.empty", s_Chain_empty, []⟩
def d_Chain_step : DP := ⟨(fun K => He.ma K (He.ga K "Chain") "step"), "step", "Chain.step", s_Chain_step, []⟩
def d_Chain_call : DP := ⟨(fun K => He.ma K (He.ga K "Chain") "__call__"), "__call__", "Chain.__call__", s_Chain_call, []⟩
def d_Chain_len : DP := ⟨(fun K => He.ma K (He.ga K "Chain") "__len__"), "__len__", "Chain.__len__", s_Chain_len, []⟩
def d_Chain_getitem : DP := ⟨(fun K => He.ma K (He.ga K "Chain") "__getitem__"), "__getitem__", "Chain.__getitem__", s_Chain_getitem, []⟩
def d_Chain_iter : DP := ⟨(fun K => He.ma K (He.ga K "Chain") "__iter__"), "__iter__", "Chain.__iter__", s_Chain_iter, []⟩
def d_Chain_rshift : DP := ⟨(fun K => He.ma K (He.ga K "Chain") "__rshift__"), "__rshift__", "Chain.__rshift__", s_Chain_rshift, []⟩
def d_Chain_rrshift : DP := ⟨(fun K => He.ma K (He.ga K "Chain") "__rrshift__"), "__rrshift__", "Chain.__rrshift__", s_Chain_rrshift, []⟩
def d_Chain_neg : DP := ⟨(fun K => He.ma K (He.ga K "Chain") "__neg__"), "__neg__", "Chain.__neg__", s_Chain_neg, []⟩
def d_Chain_eq : DP := ⟨(fun K => He.ma K (He.ga K "Chain") "__eq__"), "__eq__", "Chain.__eq__", s_Chain_eq, []⟩
def d_is_out : DP := ⟨(fun K => He.ga K "is_out"), "is_out", "is_out", s_is_out, []⟩
def d_check_held : DP := ⟨(fun K => He.ga K "check_held"), "check_held", "check_held", s_check_held, []⟩
def d_cell_before : DP := ⟨(fun K => He.ga K "cell_before"), "cell_before", "cell_before", s_cell_before, []⟩
def d_ways_back : DP := ⟨(fun K => He.ga K "ways_back"), "ways_back", "ways_back", s_ways_back, []⟩
def d_earlier : DP := ⟨(fun K => He.ga K "earlier"), "earlier", "earlier", s_earlier, []⟩
def d__law_random : DP := ⟨(fun K => He.ga K "_law_random"), "_law_random", "_law_random", s__law_random, []⟩
def d__law_below : DP := ⟨(fun K => He.ga K "_law_below"), "_law_below", "_law_below", s__law_below, []⟩
def d__law_labels : DP := ⟨(fun K => He.ga K "_law_labels"), "_law_labels", "_law_labels", s__law_labels, []⟩
def d__law_row : DP := ⟨(fun K => He.ga K "_law_row"), "_law_row", "_law_row", s__law_row, []⟩
def d__law_chain : DP := ⟨(fun K => He.ga K "_law_chain"), "_law_chain", "_law_chain", s__law_chain, []⟩
def d__law_opposite : DP := ⟨(fun K => He.ga K "_law_opposite"), "_law_opposite", "_law_opposite", s__law_opposite, []⟩
def d__law_some_tick : DP := ⟨(fun K => He.ga K "_law_some_tick"), "_law_some_tick", "_law_some_tick", s__law_some_tick, []⟩
def d_law : DP := ⟨(fun K => He.ga K "law"), "law", "law", s_law, []⟩
def dps : List DP := [d_is_within, d_is_number, d_check_number, d_check_index, d_check_row, d_check_some, d_check_count, d_run_until_repeat, d_same_tick, d_times_until, d_nth_out, d_held_after, d_find_cycle, d_count_out, d_Cell_call, d_Cell_eq, d_Cell_neg, d_Cell_label, d_Last_call, d_Last_eq, d_Last_neg, d_Last_label, d_Less_call, d_Less_eq, d_Less_neg, d_Less_label, d_Greater_call, d_Greater_eq, d_Greater_neg, d_Greater_label, d_Near_init, d_Near_call, d_Near_eq, d_Near_neg, d_Near_label, d_near_of, d_cell_of, d_Chain_init, d_Chain_parse, d_Chain_text, d_Chain_empty, d_Chain_step, d_Chain_call, d_Chain_len, d_Chain_getitem, d_Chain_iter, d_Chain_rshift, d_Chain_rrshift, d_Chain_neg, d_Chain_eq, d_is_out, d_check_held, d_cell_before, d_ways_back, d_earlier, d__law_random, d__law_below, d__law_labels, d__law_row, d__law_chain, d__law_opposite, d__law_some_tick, d_law]
def fxs : List Fx := [Fx.fa (.free "isinstance"),
  Fx.fa (.free "int"),
  Fx.fa (.free "bool"),
  Fx.fa (.free "abs"),
  Fx.fa (.free "str"),
  Fx.fa (.free "len"),
  Fx.fa (.free "range"),
  Fx.fa (.free "min"),
  Fx.fa (.free "max"),
  Fx.fa (.free "all"),
  Fx.fa (.free "list"),
  Fx.fa (.free "tuple"),
  Fx.fa (.free "ValueError"),
  Fx.fa (.free "enumerate"),
  Fx.fa (.free "zip"),
  Fx.fa (.free "sorted"),
  Fx.fa (.free "sum"),
  Fx.fa (.free "set"),
  Fx.fa (.free "dict"),
  Fx.fa (.free "reversed"),
  Fx.fa (.glo "is_within"),
  Fx.fa (.glo "is_number"),
  Fx.fa (.glo "check_number"),
  Fx.fa (.glo "check_index"),
  Fx.fa (.glo "check_row"),
  Fx.fa (.glo "check_some"),
  Fx.fa (.glo "check_count"),
  Fx.fa (.glo "run_until_repeat"),
  Fx.fa (.glo "same_tick"),
  Fx.fa (.glo "times_until"),
  Fx.fa (.glo "nth_out"),
  Fx.fa (.glo "held_after"),
  Fx.fa (.glo "find_cycle"),
  Fx.fa (.glo "count_out"),
  Fx.fa (.glo "near_of"),
  Fx.fa (.glo "cell_of"),
  Fx.fa (.glo "is_out"),
  Fx.fa (.glo "check_held"),
  Fx.fa (.glo "cell_before"),
  Fx.fa (.glo "ways_back"),
  Fx.fa (.glo "earlier"),
  Fx.fa (.glo "_law_random"),
  Fx.fa (.glo "_law_below"),
  Fx.fa (.glo "_law_labels"),
  Fx.fa (.glo "_law_row"),
  Fx.fa (.glo "_law_chain"),
  Fx.fa (.glo "_law_opposite"),
  Fx.fa (.glo "_law_some_tick"),
  Fx.fa (.glo "law"),
  Fx.fa (.glo "SiftError"),
  Fx.fa (.glo "InvalidNumber"),
  Fx.fa (.glo "InvalidChain"),
  Fx.fa (.glo "UnknownCell"),
  Fx.fa (.glo "InvalidRow"),
  Fx.fa (.glo "InvalidText"),
  Fx.fa (.glo "Cell"),
  Fx.fa (.glo "Last"),
  Fx.fa (.glo "Less"),
  Fx.fa (.glo "Greater"),
  Fx.fa (.glo "Near"),
  Fx.fa (.glo "Chain"),
  Fx.fa (.int "LIMIT" 1000000000),
  Fx.fa (.int "LONGEST_ROW" 1000),
  Fx.fa (.int "LONGEST_REPEATED" 12),
  Fx.fa (.int "MOST_TICKS" 1000000000000000000),
  Fx.fa (.int "MOST_DIGITS" 10),
  Fx.fa (.str "NEAR_START" "near:"),
  Fx.fa (.cls "Cell"),
  Fx.fa (.cls "Last"),
  Fx.fa (.cls "Less"),
  Fx.fa (.cls "Greater"),
  Fx.fa (.cls "Near"),
  Fx.prop "Cell" "label",
  Fx.prop "Last" "label",
  Fx.prop "Less" "label",
  Fx.prop "Greater" "label",
  Fx.prop "Near" "label",
  Fx.spec "Cell" "__call__",
  Fx.spec "Last" "__call__",
  Fx.spec "Less" "__call__",
  Fx.spec "Greater" "__call__",
  Fx.spec "Near" "__call__",
  Fx.spec "Cell" "__eq__",
  Fx.spec "Last" "__eq__",
  Fx.spec "Less" "__eq__",
  Fx.spec "Greater" "__eq__",
  Fx.spec "Near" "__eq__",
  Fx.spec "Cell" "__neg__",
  Fx.spec "Last" "__neg__",
  Fx.spec "Less" "__neg__",
  Fx.spec "Greater" "__neg__",
  Fx.spec "Near" "__neg__",
  Fx.none_ "Cell" "__ne__" "object.__ne__",
  Fx.none_ "Last" "__ne__" "object.__ne__",
  Fx.none_ "Less" "__ne__" "object.__ne__",
  Fx.none_ "Greater" "__ne__" "object.__ne__",
  Fx.none_ "Near" "__ne__" "object.__ne__",
  Fx.isi "Cell",
  Fx.isi "Last",
  Fx.isi "Less",
  Fx.isi "Greater",
  Fx.isi "Near",
  Fx.cls "Cell",
  Fx.cls "Last",
  Fx.cls "Less",
  Fx.cls "Greater",
  Fx.cls "Near",
  Fx.kit (.g "Cell") (.g "Cell") true,
  Fx.kit (.g "Last") (.g "Cell") true,
  Fx.kit (.g "Less") (.g "Cell") true,
  Fx.kit (.g "Greater") (.g "Cell") true,
  Fx.kit (.g "Near") (.g "Cell") true,
  Fx.mk0 "Cell",
  Fx.mk0 "Last",
  Fx.mk0 "Less",
  Fx.mk0 "Greater",
  Fx.fa (.mkr "Near"),
  Fx.fa (.noat "Near" "mark"),
  Fx.con "Cell" "KIND" (.str "first"),
  Fx.con "Last" "KIND" (.str "last"),
  Fx.con "Less" "KIND" (.str "less"),
  Fx.con "Greater" "KIND" (.str "greater"),
  Fx.con "Near" "KIND" (.str "near"),
  Fx.cstr "Cell" "KIND" "first",
  Fx.cstr "Last" "KIND" "last",
  Fx.cstr "Less" "KIND" "less",
  Fx.cstr "Greater" "KIND" "greater",
  Fx.kit (.t "str") (.g "Cell") false,
  Fx.sub (.g "Cell") (.g "Cell") true,
  Fx.sub (.g "Cell") (.g "Last") false,
  Fx.sub (.g "Cell") (.g "Less") false,
  Fx.sub (.g "Cell") (.g "Greater") false,
  Fx.sub (.g "Cell") (.g "Near") false,
  Fx.sub (.g "Last") (.g "Cell") true,
  Fx.sub (.g "Last") (.g "Last") true,
  Fx.sub (.g "Last") (.g "Less") false,
  Fx.sub (.g "Last") (.g "Greater") false,
  Fx.sub (.g "Last") (.g "Near") false,
  Fx.sub (.g "Less") (.g "Cell") true,
  Fx.sub (.g "Less") (.g "Last") false,
  Fx.sub (.g "Less") (.g "Less") true,
  Fx.sub (.g "Less") (.g "Greater") false,
  Fx.sub (.g "Less") (.g "Near") false,
  Fx.sub (.g "Greater") (.g "Cell") true,
  Fx.sub (.g "Greater") (.g "Last") false,
  Fx.sub (.g "Greater") (.g "Less") false,
  Fx.sub (.g "Greater") (.g "Greater") true,
  Fx.sub (.g "Greater") (.g "Near") false,
  Fx.sub (.g "Near") (.g "Cell") true,
  Fx.sub (.g "Near") (.g "Last") false,
  Fx.sub (.g "Near") (.g "Less") false,
  Fx.sub (.g "Near") (.g "Greater") false,
  Fx.sub (.g "Near") (.g "Near") true,
  Fx.sub (.t "str") (.g "Cell") false,
  Fx.sub (.t "str") (.g "Last") false,
  Fx.sub (.t "str") (.g "Less") false,
  Fx.sub (.t "str") (.g "Greater") false,
  Fx.sub (.t "str") (.g "Near") false,
  Fx.fa (.exc "InvalidNumber"),
  Fx.fa (.exc "UnknownCell"),
  Fx.fa (.cls "Chain"),
  Fx.fa (.mkr "Chain"),
  Fx.fa (.noat "Chain" "cells"),
  Fx.con "Chain" "MAX_CELLS" (.int 8),
  Fx.cint "Chain" "MAX_CELLS" 8,
  Fx.cls "Chain",
  Fx.cmet "Chain" "parse",
  Fx.slf "Chain",
  Fx.isi "Chain",
  Fx.kit (.g "Chain") (.g "Chain") true,
  Fx.prop "Chain" "text",
  Fx.prop "Chain" "empty",
  Fx.fa (.meth "Chain" "step"),
  Fx.spec "Chain" "__call__",
  Fx.spec "Chain" "__len__",
  Fx.spec "Chain" "__getitem__",
  Fx.spec "Chain" "__rshift__",
  Fx.spec "Chain" "__neg__",
  Fx.spec "Chain" "__eq__",
  Fx.none_ "Chain" "__ne__" "object.__ne__"]
def tfs : List He.Defn := [("law", none), ("earlier", none)]
abbrev R : PySem.W.OpenRow := PySem.W.OpenLaw.row PySem.Challenge.rw_siftchain_k32_whole_opposite_rows
abbrev hk : PySem.W.Hook := hook 5 dps fxs tfs
def ob (s : PySem.W.SharedT) : Look := look 5 dps fxs tfs (HandSHeadRun.getT s)
theorem ob_eq (s : PySem.W.SharedT) : ob s = hk.obs s.abs := look_eq (HandSHeadRun.getT_eq s)
def loose : List Str := (["SiftError", "InvalidNumber", "InvalidChain", "UnknownCell", "InvalidRow", "InvalidText", "LIMIT", "LONGEST_ROW", "is_within", "is_number", "check_number", "check_index", "check_row", "check_some", "LONGEST_REPEATED", "MOST_TICKS", "check_count", "run_until_repeat", "same_tick", "times_until", "nth_out", "held_after", "find_cycle", "count_out", "MOST_DIGITS", "NEAR_START", "Cell", "Last", "Less", "Greater"] : List Str) ++ (["Near", "near_of", "cell_of", "Chain", "is_out", "check_held", "cell_before", "ways_back", "earlier", "_law_random", "_law_below", "_law_labels", "_law_row", "_law_chain", "_law_opposite", "_law_some_tick"] : List Str)
theorem run (w : World) : HandSHeadRun.RunEq R (PySem.W.view R.prog [52]) hk ob 12000 loose w := by
  intro os
  kernel_rfl
end SC
set_option maxRecDepth 100000
set_option maxHeartbeats 2000000
/-! # Part B: rules of our own: objects without an __init__, cells of five kinds through one rule each -/
namespace SC
open PySem PySem.Spec PyProof.Rows L2
/-! ### C() without an __init__ -/
def tMk0 (C : Addr) : TE := fun _ H Q => ∀ x dx, H x = none → H dx = none → dx ≠ x → Q (.ref x) (upd (upd H dx (.own x)) x (.ins C dx []))
theorem pe_mk0 {X : Cx} {C : Addr} {x : Str} {p pos : Pos} (M : Mk0 X.K C) (hg : Gl X x) (hm : X.mg x = some (.ref C)) (hdb : (x == ("__debug__" : Str)) = false := by decide) : PE X (.Call (.Name x p) [] [] pos) (tMk0 C) := by
  refine ⟨fun pins s σ H Q I h => ?_⟩
  refine wpAny_Call_Name_kw (ld_glob I hg hm ?_ hdb)
  refine PySem.W.callWith_K0 I.kIn M.kp (wpAny_call ?_)
  have J := Inv.made (C := C) I
  have hq := h (s.heap.objs.size + 1) s.heap.objs.size (I.hok.fresh (Nat.le_succ _)) (I.hok.fresh (Nat.le_refl _)) (Nat.ne_of_lt (Nat.lt_succ_self _))
  have at1 : ((s.heap.push PySem.W.emptyDict).push (PySem.W.instObj C s.heap.objs.size)).get? (s.heap.objs.size + 1) = some (PySem.W.instObj C s.heap.objs.size) := by
    have z := Heap.get?_push_size (s.heap.push PySem.W.emptyDict) (o := PySem.W.instObj C s.heap.objs.size) rfl
    rwa [Heap.size_push] at z
  have Y := PySem.W.makes_of (M := model X.prog X.w) I.kIn M.makes
  refine make_map0 I.kIn M.makes M.init (fun self => PySem.W.Looks.of_pure (PySem.W.oi_bind self)) ?_
  have ty : PySem.W.Looks (model X.prog X.w) ((s.heap.push PySem.W.emptyDict).push (PySem.W.instObj C s.heap.objs.size)) (typeOf (.ref (s.heap.objs.size + 1))) (.ref C) := (PySem.W.Looks.ld at1).andThen .now
  have isO : PySem.W.Looks (model X.prog X.w) ((s.heap.push PySem.W.emptyDict).push (PySem.W.instObj C s.heap.objs.size)) (isInstance (.ref (s.heap.objs.size + 1)) (.type "object")) true :=
    ty.andThen (Y.top.keeps fun b o e => Heap.get?_push_of_some _ (Heap.get?_push_of_some _ e))
  refine codeAny_call_builtin PySem.W.oi_plain PySem.W.entry_oi (@PySem.W.check_slot (model X.prog X.w) _ _ _ "object.__init__" "object" "__init__" (.ref (s.heap.objs.size + 1)) [] [] _ PySem.W.oi_kind PySem.W.oi_split isO (PySem.W.oi_args _) ?_)
  rw [PySem.W.oi_run]
  exact wpAny_pure ⟨rfl, .ref (s.heap.objs.size + 1), _, J, rfl, hq⟩
/-! ### rules -/
inductive Kd where
  | first | last | less | greater | near
  deriving DecidableEq
def Kd.cn : Kd → Str
  | .first => "Cell"
  | .last => "Last"
  | .less => "Less"
  | .greater => "Greater"
  | .near => "Near"
def Kd.word : Kd → Str
  | .first => "first"
  | .last => "last"
  | .less => "less"
  | .greater => "greater"
  | .near => "near"
inductive Rule where
  | first | last | less | greater | near (m : Int)
  deriving DecidableEq
def Rule.kd : Rule → Kd
  | .first => .first
  | .last => .last
  | .less => .less
  | .greater => .greater
  | .near _ => .near
def Rule.fs : Rule → List (Str × V)
  | .near m => [("mark", .int m)]
  | _ => []
def Rule.ok : Rule → Prop
  | .near m => -1000000000 ≤ m ∧ m ≤ 1000000000
  | _ => True
def numS (m : Int) : Str := Str.ofString (toString m)
def Rule.label : Rule → Str
  | .near m => ("near:" : Str) ++ numS m
  | r => r.kd.word
def absI (i : Int) : Int := if i < 0 then -i else i
def Rule.keep (r : Rule) (h c : Int) : Int × Int := match r with
  | .first => (h, c)
  | .last => (c, h)
  | .less => if c < h then (c, h) else (h, c)
  | .greater => if h < c then (c, h) else (h, c)
  | .near m => if absI (c - m) < absI (h - m) then (c, h) else (h, c)
def Rule.neg : Rule → Rule
  | .less => .greater
  | .greater => .less
  | .near m => .near (-m)
  | r => r
theorem Rule.neg_ok {r : Rule} (h : r.ok) : r.neg.ok := by
  cases r with
  | near m =>
    obtain ⟨h1, h2⟩ := h
    constructor <;> omega
  | _ => trivial
theorem Rule.neg_neg (r : Rule) : r.neg.neg = r := by
  cases r with
  | near m => show Rule.near (- -m) = Rule.near m; rw [Int.neg_neg]
  | _ => rfl
/-- at a stands a cell of the rule r -/
def CellAt (K : PySem.W.Frag) (H : Hp) (a : Addr) (r : Rule) : Prop := r.ok ∧ ∃ dx, H a = some (.ins (He.ga K r.kd.cn) dx r.fs)
theorem CellAt.same {K : PySem.W.Frag} {H H' : Hp} {a : Addr} {r : Rule} (c : CellAt K H a r) (s : Same H H') : CellAt K H' a r := by
  obtain ⟨h1, dx, h2⟩ := c
  exact ⟨h1, dx, s _ _ h2⟩
theorem CellAt.keep {K : PySem.W.Frag} {H H' : Hp} {a : Addr} {r : Rule} (c : CellAt K H a r) (s : ∀ o, H a = some o → H' a = some o) : CellAt K H' a r := by
  obtain ⟨h1, dx, h2⟩ := c
  exact ⟨h1, dx, s _ h2⟩
/-! ### what each method of a kind promises -/
def spCall (K : PySem.W.Frag) (k : Kd) : Sp := fun vs H Q _ => ∃ (a : Addr) (r : Rule) (h c : Int), vs = [.ref a, .int h, .int c] ∧ r.kd = k ∧ CellAt K H a r ∧ ∀ p, H p = none → Q (.ref p) (upd H p (.tup [.int (r.keep h c).1, .int (r.keep h c).2]))
def spLabel (K : PySem.W.Frag) (k : Kd) : Sp := fun vs H Q _ => ∃ (a : Addr) (r : Rule), vs = [.ref a] ∧ r.kd = k ∧ CellAt K H a r ∧ Q (.str r.label) H
def spNeg (K : PySem.W.Frag) (k : Kd) : Sp := fun vs H Q _ => ∃ (a : Addr) (r : Rule), vs = [.ref a] ∧ r.kd = k ∧ CellAt K H a r ∧ ∀ p H', H p = none → Same H H' → CellAt K H' p r.neg → Q (.ref p) H'
def spEq (K : PySem.W.Frag) (k : Kd) : Sp := fun vs H Q _ => ∃ (a : Addr) (r : Rule) (y : V), vs = [.ref a, y] ∧ r.kd = k ∧ CellAt K H a r ∧
  ((∃ (b : Addr) (r' : Rule), y = .ref b ∧ CellAt K H b r' ∧ Q (.bl (decide (r.label = r'.label))) H) ∨ ∃ z : Str, y = .str z ∧ Q (.bl false) H)
/-- what the written part says of the cells' classes -/
structure Cells (K : PySem.W.Frag) (mg : Str → Option Value) : Prop where
  cls : ∀ k : Kd, Cls K (He.ga K k.cn)
  isi : ∀ k : Kd, Isi K (He.ga K k.cn)
  glo : ∀ k : Kd, mg k.cn = some (.ref (He.ga K k.cn))
  call : ∀ k : Kd, Spec K (He.ga K k.cn) "__call__" (He.ma K (He.ga K k.cn) "__call__")
  eq : ∀ k : Kd, Spec K (He.ga K k.cn) "__eq__" (He.ma K (He.ga K k.cn) "__eq__")
  neg : ∀ k : Kd, Spec K (He.ga K k.cn) "__neg__" (He.ma K (He.ga K k.cn) "__neg__")
  ne : ∀ k : Kd, PySem.W.findIn K (.ref (He.ga K k.cn)) "__ne__" = some (some (.builtin "object.__ne__"))
  prop : ∀ k : Kd, PropOf K (He.ga K k.cn) "label" (He.ma K (He.ga K k.cn) "label") (pgA K k.cn "label")
  kind : ∀ k : Kd, ∃ u, Con K (He.ga K k.cn) "KIND" (.str k.word) u
  sub : ∀ k l : Kd, PySem.W.subIn K (.ref (He.ga K k.cn)) (.ref (He.ga K l.cn)) = some (decide (k = l) || decide (l = .first))
  subS : ∀ k : Kd, PySem.W.subIn K (.type "str") (.ref (He.ga K k.cn)) = some false
  kit : ∀ k : Kd, PySem.W.kitOne K (.ref (He.ga K k.cn)) (.ref (He.ga K "Cell")) = some true
  kitS : PySem.W.kitOne K (.type "str") (.ref (He.ga K "Cell")) = some false
  mk0 : ∀ k : Kd, k ≠ .near → Mk0 K (He.ga K k.cn)
  mkN : Mk K (He.ga K "Near") (He.ma K (He.ga K "Near") "__init__")
  noM : NoAttr K (He.ga K "Near") "mark"
theorem Cells.inj {K : PySem.W.Frag} {mg : Str → Option Value} (T : Cells K mg) {k l : Kd} (e : He.ga K k.cn = He.ga K l.cn) : k = l := by
  have h1 := T.sub k l
  have h2 := T.sub l k
  have h3 := T.sub l l
  have h4 := T.sub k k
  rw [e] at h1 h2 h4
  rw [h3] at h1 h2
  cases k <;> cases l <;> first | rfl | (revert h1 h2; decide)
/-- an instance of a cell's class, by its type -/
theorem CellAt.ty {K : PySem.W.Frag} {mg : Str → Option Value} {H : Hp} {a : Addr} {r : Rule} (T : Cells K mg) (c : CellAt K H a r) : TyX K H (.ref a) (.ref (He.ga K r.kd.cn)) := by
  obtain ⟨_, dx, h⟩ := c
  have q := T.isi r.kd
  exact .base (.ins h (T.cls _) q.ha q.hn q.ht q.hm)
/-- how the methods keep their promises, at level n -/
structure CellsOk (P : Program) (w : World) (K : PySem.W.Frag) (mg : Str → Option Value) (base : Heap) (n : Nat) : Prop where
  t : Cells K mg
  call : ∀ k : Kd, FnR P w K mg base CX0 n (He.ma K (He.ga K k.cn) "__call__") (spCall K k)
  eq : ∀ k : Kd, FnR P w K mg base CX0 n (He.ma K (He.ga K k.cn) "__eq__") (spEq K k)
  neg : ∀ k : Kd, FnR P w K mg base CX0 n (He.ma K (He.ga K k.cn) "__neg__") (spNeg K k)
/-- .. the labels alone (what __eq__ itself leans on) -/
def LabelsOk (P : Program) (w : World) (K : PySem.W.Frag) (mg : Str → Option Value) (base : Heap) (n : Nat) : Prop :=
  ∀ k : Kd, ∃ fd ps, FnOk P w K mg base CX0 n (pgA K k.cn "label") fd ps (spLabel K k) ∧ Binds K fd ps []
section
variable {X : Cx} {n : Nat}
/-! ### e.label -/
def tLabel (K : PySem.W.Frag) (ta : TE) : TE := fun σ H Q => ta σ H fun x H1 => ∃ (a : Addr) (r : Rule), x = .ref a ∧ CellAt K H1 a r ∧ Q (.str r.label) H1
theorem pe_label {e : Expr} {ta : TE} {pos : Pos} (T : Cells X.K X.mg) (L : LabelsOk X.prog X.w X.K X.mg X.base n) (hr : Room (n + 1) X.A) (he : PE X e ta) (hab : attributeBase e "label" X.env (eval e X.env) = eval e X.env := by rfl) :
    PE X (.Attribute e "label" pos) (tLabel X.K ta) := by
  refine ⟨fun pins s σ H Q I h => attr_of hab (thn (he.run pins s σ H _ I h) fun u s1 hh => ?_)⟩
  obtain ⟨x, H1, I1, rx, a, r, ex, ca, q⟩ := hh
  subst ex
  obtain rfl : u = Value.ref a := rx
  obtain ⟨fd, ps, F, hb⟩ := L r.kd
  obtain ⟨hok, dx, ea⟩ := id ca
  exact getprop_ok (dvs := []) (E := E0) I1 ea (T.cls r.kd) (T.prop r.kd) F hr hb .nil pass0 ⟨a, r, rfl, rfl, ca, q⟩
/-! ### e.KIND -/
def tKind (K : PySem.W.Frag) (ta : TE) : TE := fun σ H Q => ta σ H fun x H1 => ∃ (a : Addr) (r : Rule), x = .ref a ∧ CellAt K H1 a r ∧ Q (.str r.kd.word) H1
theorem fs_kind (r : Rule) : r.fs.lookup ("KIND" : Str) = none := by
  cases r with
  | near m =>
    have hk : (("KIND" : Str) == "mark") = false := by decide +kernel
    show List.lookup ("KIND" : Str) [(("mark" : Str), V.int m)] = none
    simp [List.lookup, hk]
  | _ => rfl
theorem pe_kind {e : Expr} {ta : TE} {pos : Pos} (T : Cells X.K X.mg) (he : PE X e ta) (hab : attributeBase e "KIND" X.env (eval e X.env) = eval e X.env := by rfl) : PE X (.Attribute e "KIND" pos) (tKind X.K ta) := by
  refine ⟨fun pins s σ H Q I h => attr_of hab (thn (he.run pins s σ H _ I h) fun u s1 hh => ?_)⟩
  obtain ⟨x, H1, I1, rx, a, r, ex, ⟨_, dx, ea⟩, q⟩ := hh
  subst ex
  obtain rfl : u = Value.ref a := rx
  obtain ⟨u0, k⟩ := T.kind r.kd
  exact getcon_ok I1 ea (T.cls r.kd) k (fs_kind r) fun s2 I2 => ⟨_, H1, I2, k.rel, q⟩
/-! ### e(h, c) -/
def tCellCall (K : PySem.W.Frag) (tf : TE) (t : TA) : TE := fun σ H Q => tf σ H fun y H1 => ∃ a : Addr, y = .ref a ∧ t σ H1 fun vs H2 => ∃ (r : Rule) (h c : Int), vs = [.int h, .int c] ∧ CellAt K H2 a r ∧
  ∀ p, H2 p = none → Q (.ref p) (upd H2 p (.tup [.int (r.keep h c).1, .int (r.keep h c).2]))
theorem pe_cellCall {fe e : Expr} {es : List Expr} {tf : TE} {t : TA} {pos : Pos} (hf : PE X fe tf) (T : CellsOk X.prog X.w X.K X.mg X.base n) (hr : Room n X.A) (ha : PA X (e :: es) t)
    (ht : eval (.Call fe (e :: es) [] pos) X.env = (do callWith pos (← eval fe X.env) [] (backTo pos (starEach (e :: es) X.env)) (backToKw pos (keywordEach [] X.env))) := by rfl)
    (he : starEach (e :: es) X.env = (false, eval e X.env) :: starEach es X.env := by rfl) (hpl : (backTo pos (starEach es X.env)).any (·.1) = false := by rfl) : PE X (.Call fe (e :: es) [] pos) (tCellCall X.K tf t) := by
  refine ⟨fun pins s σ H Q I h => Call_ (thn (hf.run pins s σ H _ I h) fun u s1 hh => ?_) ht⟩
  obtain ⟨y, H1, I1, ry, a, ey, q⟩ := hh
  subst ey
  obtain rfl : u = Value.ref a := ry
  refine StX.callO_with (thn (ha.run pos pins s1 σ H1 _ I1 q) fun us s2 hh2 => ?_) he hpl
  obtain ⟨vs, H2, I2, rv, r, h1, c1, ev, ca, q2⟩ := hh2
  subst ev
  obtain ⟨_, dx, ha2⟩ := id ca
  have hi : StX.InsC X H2 a (He.ga X.K r.kd.cn) := .inr ⟨dx, _, ha2⟩
  obtain ⟨ox, od, J, hd⟩ := StX.insC_at I2 hi
  have sc := T.t.call r.kd
  exact ⟨⟨_, ox, od, J, hd⟩, StX.run_callO (E := E0) ⟨sc.at_, sc.fn, sc.fi⟩ (T.call r.kd) hr pass0 I2 hi rv ⟨a, r, h1, c1, rfl, rfl, ca, q2⟩⟩
/-! ### -e -/
def rNegCell (K : PySem.W.Frag) : V → Hp → VK → Prop := fun x H Q => ∃ (a : Addr) (r : Rule), x = .ref a ∧ CellAt K H a r ∧ ∀ p H', H p = none → Same H H' → CellAt K H' p r.neg → Q (.ref p) H'
theorem un_negCell (T : CellsOk X.prog X.w X.K X.mg X.base n) (hr : Room n X.A) : UnR X (unaryOp .USub) (rNegCell X.K) := by
  intro pins s σ H x v Q I rx h
  obtain ⟨a, r, ex, ca, q⟩ := h
  subst ex
  obtain rfl : v = Value.ref a := rx
  obtain ⟨_, dx, ha⟩ := id ca
  obtain ⟨mA, O, _⟩ := ins_get I.hok ha
  obtain ⟨od, J, _⟩ := O.look
  obtain ⟨m, hF⟩ := I.fr
  have sc := T.t.neg r.kd
  exact PySem.W.ksp_neg hF I.ok.mod.kin J sc.at_ sc.fn (wpAny_call (run_fnR (E := E0) (us := [.ref a]) (vs := [.ref a]) (T.neg r.kd) hr pass0 I (.cons rfl .nil) ⟨a, r, rfl, rfl, ca, q⟩))
end
/-! ### x == y where the right one's class is over the left one's: it is asked first -/
section
open PySem.W
variable {prog : Program} {w : World} {A : Around} {E : Value → Shared → Prop} {s : Shared} {K : Frag} {x y C D L f : Addr} {h₀ : Heap} {m : Str → Option Value} {ox oy : Obj} {od oe : Option Obj} {Q : Value → Shared → Prop}
theorem eq_right (hu : A.units < cLine) (X : K.In s.heap) (I : InstAt s.heap x ox C od) (J : InstAt s.heap y oy D oe) (hne : C ≠ D) (hsub : subIn K (.ref D) (.ref C) = some true)
    (hs : findIn K (.ref D) "__eq__" = some (some (.ref f))) (hf : isFn K (.ref f) = true) (h : wpAny (model prog w) A (call (.ref f) [.ref y, .ref x]) (PySem.W.CmpBack Q) E s) :
    wpAny (model prog w) A (richCompare .Eq (.ref x) (.ref y)) Q E s := by
  have one : wpAny (model prog w) A (tryCompare (.ref y) "__eq__" (.ref x)) (fun r s' => ∃ v, r = some v ∧ Q v s') E s := by
    unfold tryCompare
    refine wpAny_bind (ifBound_K X J hs hf (wpAny_mono h (fun v s1 hv => ?_) fun _ _ e => e))
    cases v <;> first | exact hv.elim | exact wpAny_pure ⟨_, rfl, hv⟩
  have hb : (Value.ref C != Value.ref D) = true := by
    simp only [bne_iff_ne, ne_eq]
    intro z
    exact hne (Value.ref.inj z)
  unfold richCompare
  simp only [oneThing_ref]
  refine wpAny_holding (wpAny_bind (wpAny_cRoomFor hu ?_))
  refine wpAny_bind (I.type.here (wpAny_bind (J.type.here ?_)))
  rw [hb]
  simp only [if_true]
  refine wpAny_bind ((looks_subIn X hsub).here ?_)
  simp only [if_true]
  refine wpAny_bind (wpAny_mono one (fun r s1 z => ?_) fun _ _ e => e)
  obtain ⟨v, rfl, hq⟩ := z
  dsimp only
  first
    | exact wpAny_bind (wpAny_rule (wpAny_pure hq))
    | (wp_walk; exact hq)
/-- x != y by object's own, over the class's == -/
theorem ne_bind (self : Value) : bindSpecial (.builtin "object.__ne__") self = pure (.builtin "object.__ne__", [self]) := PySem.F.cmp_object.ne.bind self
theorem ne_plain : plainId "object.__ne__" = true := PySem.F.cmp_object.ne.plain
theorem ne_own (hu : A.units + 1 < cLine) (X : K.In s.heap) (I : InstAt s.heap x ox C od) (J : InstAt s.heap y oy C oe) (hm : mroIn K C (.type "object") = some true)
    (hn : findIn K (.ref C) "__ne__" = some (some (.builtin "object.__ne__"))) (hs : findIn K (.ref C) "__eq__" = some (some (.ref f))) (hf : isFn K (.ref f) = true)
    (h : wpAny (model prog w) A.in1 (call (.ref f) [.ref x, .ref y]) (fun v s' => ∃ b, v = .bool b ∧ Q (.bool (!b)) s') E s) :
    wpAny (model prog w) A (richCompare .NotEq (.ref x) (.ref y)) Q E s := by
  have inner : wpAny (model prog w) A.in1 (Builtin.«object.__ne__» ⟨[.ref x, .ref y], []⟩) (fun fin s' => ∃ b, fin = .done (.ret (.bool (!b))) ∧ Q (.bool (!b)) s') E s := by
    unfold Builtin.«object.__ne__»
    refine wpAny_bind (wpAny_of_eq (a := ((Value.ref x : Value), [Value.ref y])) (by first | rfl | (simp only [slotArgs]; rfl)) ?_)
    refine wpAny_bind (wpAny_cRoomFor hu ?_)
    refine wpAny_bind (ifBound_K X I hs hf (wpAny_mono h (fun v s1 hv => ?_) fun _ _ e => e))
    obtain ⟨b, rfl, q⟩ := hv
    refine wpAny_bind (wpAny_truthy_bool ?_)
    exact wpAny_pure ⟨b, rfl, q⟩
  have isO : Looks (model prog w) s.heap (isInstance (.ref x) (.type "object")) true := I.type.andThen (looks_mroIn X hm)
  have called : wpAny (model prog w) A (call (.builtin "object.__ne__") [.ref x, .ref y]) (fun v s' => ∃ b, v = .bool (!b) ∧ Q (.bool (!b)) s') E s := by
    refine wpAny_call (codeAny_call_builtin ne_plain PySem.F.cmpEntry_ne (@check_slot (model prog w) _ _ _ "object.__ne__" "object" "__ne__" (.ref x) [.ref y] [] _ PySem.F.cmpKind_ne PySem.F.cmpSplit_ne isO (PySem.F.cmpArgs_ne _ _) ?_))
    refine wpAny_mono inner (fun fin s1 z => ?_) fun _ _ e => e
    obtain ⟨b, rfl, q⟩ := z
    exact ⟨b, rfl, q⟩
  have bound : wpAny (model prog w) A (callSpecialIfBound? (.ref x) "__ne__" [.ref y]) (fun r s' => ∃ b, r = some (.bool (!b)) ∧ Q (.bool (!b)) s') E s := by
    simp only [callSpecialIfBound?, bindSpecialIfBound?]
    refine wpAny_holding (wpAny_bind (wpAny_bind (wpAny_bind (I.type.here ((looks_findIn X hn).here ?_)))))
    refine wpAny_bind (wpAny_askSetting (wpAny_ite ?_))
    have fin : wpAny (model prog w) A (call (.builtin "object.__ne__") ([.ref x] ++ [.ref y]) >>= fun v => pure (some v)) (fun r s' => ∃ b, r = some (.bool (!b)) ∧ Q (.bool (!b)) s') E s :=
      wpAny_bind (wpAny_mono called (fun v s1 z => wpAny_pure (by obtain ⟨b, rfl, q⟩ := z; exact ⟨b, rfl, q⟩)) fun _ _ e => e)
    have lk : Looks (model prog w) s.heap (bindSpecial (.builtin "object.__ne__") (.ref x)) (.builtin "object.__ne__", [.ref x]) := Looks.of_pure (ne_bind _)
    split
    · exact wpAny_bind (lk.here (wpAny_pure (by exact fin)))
    · exact wpAny_tryCatch (wpAny_bind (lk.here (wpAny_pure (by exact fin))))
  unfold richCompare
  simp only [oneThing_ref]
  refine wpAny_holding (wpAny_bind (wpAny_cRoomFor (Nat.lt_of_succ_lt hu) ?_))
  refine wpAny_bind (I.type.here (wpAny_bind (J.type.here ?_)))
  rw [show (Value.ref C != Value.ref C) = false from by simp]
  simp only [Bool.false_eq_true, if_false]
  refine wpAny_bind (wpAny_pure ?_)
  simp only [Bool.false_eq_true, if_false]
  refine wpAny_bind ?_
  unfold tryCompare
  refine wpAny_bind (wpAny_mono bound (fun r s1 z => ?_) fun _ _ e => e)
  obtain ⟨b, rfl, q⟩ := z
  exact wpAny_pure (wpAny_pure q)
end
section
variable {X : Cx} {n : Nat}
/-! ### x == y, x != y of cells -/
def rEqCell (K : PySem.W.Frag) : R2 := fun x y H Q => ∃ (a : Addr) (r : Rule), x = .ref a ∧ CellAt K H a r ∧
  ((∃ (b : Addr) (r' : Rule), y = .ref b ∧ CellAt K H b r' ∧ Q (.bl (decide (r.label = r'.label))) H) ∨ ∃ z : Str, y = .str z ∧ Q (.bl false) H)
def rNeCell (K : PySem.W.Frag) : R2 := fun x y H Q => ∃ (a : Addr) (r : Rule) (b : Addr) (r' : Rule), x = .ref a ∧ y = .ref b ∧ r.kd = r'.kd ∧ CellAt K H a r ∧ CellAt K H b r' ∧ Q (.bl (!decide (r.label = r'.label))) H
theorem cell_inst {pins : List (Addr × Obj)} {σ : L2.St} {H : Hp} {s : Shared} {a : Addr} {r : Rule} (I : Inv X pins σ H s) (c : CellAt X.K H a r) : ∃ ox od, PySem.W.InstAt s.heap a ox (He.ga X.K r.kd.cn) od := by
  obtain ⟨_, dx, ha⟩ := c
  obtain ⟨mA, O, _⟩ := ins_get I.hok ha
  obtain ⟨od, J, _⟩ := O.look
  exact ⟨_, _, J⟩
/-- a bool comes back -/
theorem back_of {pins : List (Addr × Obj)} {σ : L2.St} {H : Hp} {s : Shared} {f : Addr} {sp : Sp} {us : List Value} {vs : List V} {Q : VK} (F : FnR X.prog X.w X.K X.mg X.base CX0 n f sp) (hr : Room n X.A) (I : Inv X pins σ H s) (rv : Vals vs us)
    (h : sp vs H (fun v H' => ∃ b, v = .bl b ∧ Q v H') E0) : wpAny (model X.prog X.w) X.A (call (.ref f) us) (fun v s' => ∃ b, v = .bool b ∧ EP X pins σ Q (.bool b) s') X.xe s := by
  refine wpAny_mono (wpAny_call (run_fnR (E := E0) F hr pass0 I rv h)) (fun v s1 z => ?_) fun _ _ e => e
  obtain ⟨y, H1, I1, r1, b, ey, q⟩ := z
  subst ey
  obtain rfl : v = Value.bool b := r1
  exact ⟨b, rfl, .bl b, H1, I1, rfl, q⟩
theorem op_eqCell (T : CellsOk X.prog X.w X.K X.mg X.base n) (hr : Room n X.A) : OpR X (compareOp .Eq) (rEqCell X.K) := by
  intro pins s σ H x y u v Q I rx ry h
  obtain ⟨a, r, ex, ca, h⟩ := h
  subst ex
  obtain rfl : u = Value.ref a := rx
  obtain ⟨ox, od, J⟩ := cell_inst I ca
  obtain ⟨m, hF⟩ := I.fr
  show wpAny (model X.prog X.w) X.A (richCompare .Eq (.ref a) v) (EP X pins σ Q) X.xe s
  rcases h with ⟨b, r', ey, cb, q⟩ | ⟨z, ey, q⟩
  · subst ey
    obtain rfl : v = Value.ref b := ry
    obtain ⟨oy, oe, J'⟩ := cell_inst I cb
    have left : wpAny (model X.prog X.w) X.A (call (.ref (He.ma X.K (He.ga X.K r.kd.cn) "__eq__")) [.ref a, .ref b]) (PySem.W.CmpBack (EP X pins σ Q)) X.xe s := by
      refine wpAny_mono (back_of (Q := Q) (us := [.ref a, .ref b]) (vs := [.ref a, .ref b]) (T.eq r.kd) hr I (.cons rfl (.cons rfl .nil)) ⟨a, r, .ref b, rfl, rfl, ca, .inl ⟨b, r', rfl, cb, _, rfl, q⟩⟩) (fun v s1 z => ?_) fun _ _ e => e
      obtain ⟨b, rfl, z⟩ := z
      exact z
    have right : wpAny (model X.prog X.w) X.A (call (.ref (He.ma X.K (He.ga X.K r'.kd.cn) "__eq__")) [.ref b, .ref a]) (PySem.W.CmpBack (EP X pins σ Q)) X.xe s := by
      have e : decide (r'.label = r.label) = decide (r.label = r'.label) := by
        by_cases e : r.label = r'.label
        · rw [decide_eq_true e, decide_eq_true e.symm]
        · rw [decide_eq_false e, decide_eq_false (fun z => e z.symm)]
      refine wpAny_mono (back_of (Q := Q) (us := [.ref b, .ref a]) (vs := [.ref b, .ref a]) (T.eq r'.kd) hr I (.cons rfl (.cons rfl .nil)) ⟨b, r', .ref a, rfl, rfl, cb, .inl ⟨a, r, rfl, ca, _, rfl, by rw [e]; exact q⟩⟩) (fun v s1 z => ?_) fun _ _ e => e
      obtain ⟨b, rfl, z⟩ := z
      exact z
    have sc := T.t.eq r.kd
    have sd := T.t.eq r'.kd
    by_cases hk : r.kd = r'.kd
    · refine PySem.W.cmp_K (op := .Eq) (tb := .ref (He.ga X.K r'.kd.cn)) hr.units0 hF I.ok.mod.kin J J'.type (by rw [hk]; simp [PySem.W.notFirst]) sc.at_ sc.fn left
    · by_cases h1 : r.kd = .first
      · refine eq_right hr.units0 I.kIn J J' (fun z => hk (T.t.inj z)) ?_ sd.at_ sd.fn right
        have z := T.t.sub r'.kd r.kd
        rw [decide_eq_true h1, Bool.or_true] at z
        exact z
      · refine PySem.W.cmp_K (op := .Eq) (tb := .ref (He.ga X.K r'.kd.cn)) hr.units0 hF I.ok.mod.kin J J'.type ?_ sc.at_ sc.fn left
        have z := T.t.sub r'.kd r.kd
        rw [decide_eq_false (fun e => hk e.symm), decide_eq_false h1] at z
        unfold PySem.W.notFirst
        rw [z]
        simp
  · subst ey
    obtain ⟨t, rfl⟩ := ry
    have left : wpAny (model X.prog X.w) X.A (call (.ref (He.ma X.K (He.ga X.K r.kd.cn) "__eq__")) [.ref a, .str z t]) (PySem.W.CmpBack (EP X pins σ Q)) X.xe s := by
      refine wpAny_mono (back_of (Q := Q) (us := [.ref a, .str z t]) (vs := [.ref a, .str z]) (T.eq r.kd) hr I (.cons rfl (.cons ⟨t, rfl⟩ .nil)) ⟨a, r, .str z, rfl, rfl, ca, .inr ⟨z, rfl, _, rfl, q⟩⟩) (fun v s1 z => ?_) fun _ _ e => e
      obtain ⟨b, rfl, z⟩ := z
      exact z
    have sc := T.t.eq r.kd
    refine PySem.W.cmp_K (op := .Eq) (tb := .type "str") hr.units0 hF I.ok.mod.kin J (PySem.W.Looks.of_pure rfl) ?_ sc.at_ sc.fn left
    unfold PySem.W.notFirst
    rw [T.t.subS r.kd]
    simp
theorem op_neCell (T : CellsOk X.prog X.w X.K X.mg X.base n) (hr : Room (n + 1) X.A) : OpR X (compareOp .NotEq) (rNeCell X.K) := by
  intro pins s σ H x y u v Q I rx ry h
  obtain ⟨a, r, b, r', ex, ey, hk, ca, cb, q⟩ := h
  subst ex ey
  obtain rfl : u = Value.ref a := rx
  obtain rfl : v = Value.ref b := ry
  obtain ⟨ox, od, J⟩ := cell_inst I ca
  obtain ⟨oy, oe, J'⟩ := cell_inst I cb
  rw [← hk] at J'
  have sc := T.t.eq r.kd
  show wpAny (model X.prog X.w) X.A (richCompare .NotEq (.ref a) (.ref b)) (EP X pins σ Q) X.xe s
  refine ne_own (Nat.lt_of_le_of_lt (Nat.add_le_add_left (by decide : 1 ≤ 64) _) hr.units) I.kIn J J' (T.t.isi r.kd).hm (T.t.ne r.kd) sc.at_ sc.fn ?_
  have I1 := I.env0
  have hsp : spEq X.K r.kd [.ref a, .ref b] H (fun v H' => ∃ b, v = .bl b ∧ Q (.bl (!b)) H') E0 := ⟨a, r, .ref b, rfl, rfl, ca, .inl ⟨b, r', rfl, cb, _, rfl, q⟩⟩
  refine wpAny_call (codeAny_mono (T.eq r.kd X.A.in1 X.stack s H [.ref a, .ref b] [.ref a, .ref b] _ E0 hr.in1 I1.in1 (.cons rfl (.cons rfl .nil)) hsp) fun res s1 hq => ?_)
  cases res with
  | error e => exact False.elim hq
  | ok fl =>
    cases fl with
    | ret u =>
      obtain ⟨v, H1, J1, r1, bb, ev, q1⟩ := I.after hq
      subst ev
      obtain rfl : u = Value.bool bb := r1
      exact ⟨bb, rfl, .bl (!bb), H1, J1, rfl, q1⟩
    | next => exact False.elim hq
    | brk => exact False.elim hq
    | cont => exact False.elim hq
end
end SC
set_option maxRecDepth 100000
set_option maxHeartbeats 2000000
/-! # Part C: built-in names, small values, promises of the program's own helpers -/
namespace SC
open PySem PySem.Spec PyProof.Rows L2
/-- the built-in names are still built-in -/
structure Bln (mg : Str → Option Value) : Prop where
  isinstance : mg "isinstance" = none
  int : mg "int" = none
  bool : mg "bool" = none
  abs : mg "abs" = none
  str : mg "str" = none
  len : mg "len" = none
  range : mg "range" = none
  min : mg "min" = none
  max : mg "max" = none
  all : mg "all" = none
  list : mg "list" = none
  tuple : mg "tuple" = none
theorem boot_isinstance' : bootBuiltins "isinstance" = some (.builtin "isinstance") := by decide +kernel
theorem boot_int' : bootBuiltins "int" = some (.type "int") := by decide +kernel
theorem boot_bool' : bootBuiltins "bool" = some (.type "bool") := by decide +kernel
theorem boot_str' : bootBuiltins "str" = some (.type "str") := by decide +kernel
theorem boot_list' : bootBuiltins "list" = some (.type "list") := by decide +kernel
theorem boot_tuple' : bootBuiltins "tuple" = some (.type "tuple") := by decide +kernel
theorem boot_abs' : bootBuiltins "abs" = some (.builtin "abs") := by decide +kernel
theorem boot_len' : bootBuiltins "len" = some (.builtin "len") := by decide +kernel
theorem boot_min' : bootBuiltins "min" = some (.builtin "min") := by decide +kernel
theorem boot_max' : bootBuiltins "max" = some (.builtin "max") := by decide +kernel
theorem boot_all' : bootBuiltins "all" = some (.builtin "all") := by decide +kernel
/-- a value that is no int, by its type's name -/
def oddT : List String := ["bool", "NoneType", "str", "tuple", "list"]
theorem odd_int {K : PySem.W.Frag} {T : String} (h : T ∈ oddT) (hb : T ≠ "bool") : PySem.W.kitOne K (.type T) (.type "int") = some false := by
  simp only [oddT, List.mem_cons, List.mem_singleton, List.not_mem_nil, or_false] at h
  rcases h with rfl | rfl | rfl | rfl | rfl
  · exact absurd rfl hb
  all_goals exact kit_ty (by decide +kernel)
/-- is_within's promise -/
def spWithin (K : PySem.W.Frag) : Sp := fun vs H Q _ => ∃ (v : V) (lo hi : Int), vs = [v, .int lo, .int hi] ∧
  ((∃ i : Int, v = .int i ∧ Q (.bl (decide (lo ≤ i) && decide (i ≤ hi))) H) ∨ ∃ T : String, T ∈ oddT ∧ TyX K H v (.type T) ∧ Q (.bl false) H)
def spNumber (K : PySem.W.Frag) : Sp := fun vs H Q _ => ∃ v : V, vs = [v] ∧
  ((∃ i : Int, v = .int i ∧ Q (.bl (decide (-1000000000 ≤ i) && decide (i ≤ 1000000000))) H) ∨ ∃ T : String, T ∈ oddT ∧ TyX K H v (.type T) ∧ Q (.bl false) H)
/-- Near.__init__ -/
def numOk (i : Int) : Prop := -1000000000 ≤ i ∧ i ≤ 1000000000
def spNearInit (K : PySem.W.Frag) : Sp := fun vs H Q E => ∃ (a dx : Addr) (v : V), vs = [.ref a, v] ∧ H a = some (.ins (He.ga K "Near") dx []) ∧
  ((∃ i : Int, v = .int i ∧ (numOk i → Q .non (upd H a (.ins (He.ga K "Near") dx [("mark", .int i)]))) ∧ (¬ numOk i → E (.ref (He.ga K "InvalidNumber")) none H)) ∨
    ∃ T : String, T ∈ oddT ∧ TyX K H v (.type T) ∧ E (.ref (He.ga K "InvalidNumber")) none H)
/-- check_number, check_index -/
def spCheckNum (K : PySem.W.Frag) : Sp := fun vs H Q E => ∃ v : V, vs = [v] ∧
  ((∃ i : Int, v = .int i ∧ (numOk i → Q .non H) ∧ (¬ numOk i → E (.ref (He.ga K "InvalidNumber")) none H)) ∨ ∃ T : String, T ∈ oddT ∧ TyX K H v (.type T) ∧ E (.ref (He.ga K "InvalidNumber")) none H)
def spCheckIdx (K : PySem.W.Frag) : Sp := fun vs H Q E => ∃ (v : V) (n : Int), vs = [v, .int n] ∧
  ((∃ i : Int, v = .int i ∧ (0 ≤ i ∧ i < n → Q .non H) ∧ (¬ (0 ≤ i ∧ i < n) → E (.ref (He.ga K "UnknownCell")) none H)) ∨ ∃ T : String, T ∈ oddT ∧ TyX K H v (.type T) ∧ E (.ref (He.ga K "UnknownCell")) none H)
/-- what the written part says of an own error without an __init__ -/
structure Err0 (K : PySem.W.Frag) (mg : Str → Option Value) (x : Str) : Prop where
  ex : PySem.W.excIn K (He.ga K x) He.veBase "ValueError.__new__" = true
  kp : PySem.W.keepIn K (.ref (He.ga K x)) = true
  sb : PySem.W.subIn K (.ref (He.ga K x)) (.type "BaseException") = some true
  ty : PySem.W.typeIn K (.ref (He.ga K x)) = some (.type "type")
  gl : mg x = some (.ref (He.ga K x))
end SC
set_option maxRecDepth 100000
set_option maxHeartbeats 2000000
/-! # Part M: numbers as texts -/
namespace SC
open PySem PySem.Spec PyProof.Rows L2 TL
/-- the signs of a number's text -/
def numZ (m : Int) : List Nat := if m < 0 then 45 :: numL m.natAbs else numL m.natAbs
theorem numS_tl (m : Int) : tl (numS m) = numZ m := by
  cases m with
  | ofNat n =>
    have h : ¬ (Int.ofNat n < 0) := by
      have : (0 : Int) ≤ Int.ofNat n := Int.natCast_nonneg n
      omega
    unfold numZ
    rw [if_neg h]
    exact tl_num n
  | negSucc n =>
    have h : Int.negSucc n < 0 := Int.negSucc_lt_zero n
    unfold numZ
    rw [if_pos h]
    unfold numS
    rw [tl_ofString]
    show (("-" ++ Nat.repr (n + 1)) : String).toList.map Char.toNat = 45 :: numL (n + 1)
    rw [String.toList_append, List.map_append, Nat.toList_repr]
    rfl
theorem numZ_len {m : Int} (h : numOk m) : (numZ m).length ≤ 11 := by
  obtain ⟨h1, h2⟩ := h
  have hn : m.natAbs < 10 ^ 10 := by
    have : m.natAbs ≤ 1000000000 := by omega
    omega
  have l := numL_len (k := 10) (by decide) hn
  unfold numZ
  split
  · rw [List.length_cons]
    omega
  · omega
theorem numS_len {m : Int} (h : numOk m) : (numS m).length ≤ 11 := by
  rw [len_tl, numS_tl]
  exact numZ_len h
theorem numS_log {m : Int} (h : numOk m) : m.natAbs.log2 < 1920 := by
  obtain ⟨h1, h2⟩ := h
  have hn : m.natAbs < 2 ^ 1920 := Nat.lt_of_le_of_lt (show m.natAbs ≤ 2 ^ 30 by omega) (Nat.pow_lt_pow_right (by decide) (by decide))
  exact PySem.Flt.log2_lt_of (by decide) hn
theorem numS_read {m : Int} (h : numOk m) : PySem.intText? (numS m) = some m := by
  have hl := numS_len h
  by_cases hm : m < 0
  · have e : (numS m).cps.toList = 45 :: numL m.natAbs := by
      have z := numS_tl m
      unfold numZ at z
      rw [if_pos hm] at z
      exact z
    rw [intText_neg e (numL_digits _) (numL_ne _) (by omega), numL_val]
    congr 1
    omega
  · have e : (numS m).cps.toList = numL m.natAbs := by
      have z := numS_tl m
      unfold numZ at z
      rw [if_neg hm] at z
      exact z
    rw [intText_digits (by rw [e]; exact numL_digits _) (by rw [e]; exact numL_ne _) (by omega), e, numL_val]
    congr 1
    omega
theorem numS_inj {m n : Int} (hm : numOk m) (hn : numOk n) (e : numS m = numS n) : m = n := by
  have h1 := numS_read hm
  rw [e, numS_read hn] at h1
  exact (Option.some.inj h1).symm
/-! ### labels -/
theorem near_tl (m : Int) : tl (("near:" : Str) ++ numS m) = [110, 101, 97, 114, 58] ++ numZ m := by
  rw [tl_append, numS_tl]
  rfl
theorem label_len {r : Rule} (h : r.ok) : r.label.length ≤ 16 := by
  cases r with
  | near m =>
    show (("near:" : Str) ++ numS m).length ≤ 16
    rw [len_tl, near_tl, List.length_append]
    have := numZ_len (m := m) h
    simp only [List.length_cons, List.length_nil]
    omega
  | _ => decide +kernel
theorem label_inj {r r' : Rule} (h : r.ok) (h' : r'.ok) (e : r.label = r'.label) : r = r' := by
  have key : ∀ (m : Int) (k : Kd), k ≠ .near → ("near:" : Str) ++ numS m ≠ k.word := fun m k hk z => by
    have z2 := congrArg tl z
    rw [near_tl] at z2
    cases k <;> first | exact absurd rfl hk | (have z3 := congrArg (fun l => l[0]?) z2; revert z3; simp [Kd.word]; decide +kernel)
  cases r with
  | near m =>
    cases r' with
    | near n =>
      have z : tl (("near:" : Str) ++ numS m) = tl (("near:" : Str) ++ numS n) := congrArg tl e
      rw [near_tl, near_tl] at z
      have z2 := List.append_cancel_left z
      rw [← numS_tl, ← numS_tl] at z2
      rw [numS_inj h h' (ext_tl z2)]
    | first => exact absurd e (key m .first (by decide))
    | last => exact absurd e (key m .last (by decide))
    | less => exact absurd e (key m .less (by decide))
    | greater => exact absurd e (key m .greater (by decide))
  | first =>
    cases r' with
    | near n => exact absurd e.symm (key n .first (by decide))
    | first => rfl
    | last => revert e; decide +kernel
    | less => revert e; decide +kernel
    | greater => revert e; decide +kernel
  | last =>
    cases r' with
    | near n => exact absurd e.symm (key n .last (by decide))
    | last => rfl
    | first => revert e; decide +kernel
    | less => revert e; decide +kernel
    | greater => revert e; decide +kernel
  | less =>
    cases r' with
    | near n => exact absurd e.symm (key n .less (by decide))
    | less => rfl
    | first => revert e; decide +kernel
    | last => revert e; decide +kernel
    | greater => revert e; decide +kernel
  | greater =>
    cases r' with
    | near n => exact absurd e.symm (key n .greater (by decide))
    | greater => rfl
    | first => revert e; decide +kernel
    | last => revert e; decide +kernel
    | less => revert e; decide +kernel
end SC
set_option maxRecDepth 100000
set_option maxHeartbeats 2000000
/-! # Part D: what the laws' own helpers promise -/
namespace SC
open PySem PySem.Spec PyProof.Rows L2 TL
/-- a source of numbers -/
def DOk (ds : List Int) : Prop := ∃ (s b : Int) (rest : List Int), ds = s :: b :: rest ∧ 0 ≤ s ∧ s < 2147483647 ∧ 0 ≤ b ∧ (∀ z ∈ rest, 0 ≤ z) ∧ rest.length ≤ 63
def spRandom (K : PySem.W.Frag) : Sp := fun vs H Q _ => ∃ (a : Addr) (ns : List Int) (salt : Int), vs = [.ref a, .int salt] ∧ SqL K H a (ns.map V.int) ∧ ns.length ≤ 63 ∧ 0 ≤ salt ∧ salt < 2147483647 ∧
  ∀ (p : Addr) (H' : Hp) (ds : List Int), H p = none → Same H H' → DOk ds → H' p = some (.lst (ds.map V.int)) → Q (.ref p) H'
def spBelow : Sp := fun vs H Q _ => ∃ (a : Addr) (L : Int) (ds : List Int), vs = [.ref a, .int L] ∧ 0 < L ∧ L < 18446744073709551616 ∧ H a = some (.lst (ds.map V.int)) ∧ DOk ds ∧
  ∀ (i : Int) (ds' : List Int), 0 ≤ i → i < L → DOk ds' → Q (.int i) (upd H a (.lst (ds'.map V.int)))
theorem lim_div {i L : Int} (h : 0 < L) (h2 : L < 18446744073709551616) : CDivW i L := wide_div (b := 64) h (by omega) (by decide) (by decide)
theorem iteD1 {c A B : Prop} [Decidable c] (hc : c) (h : A) : if decide c = true then A else B := by
  rw [if_pos (decide_eq_true hc)]
  exact h
theorem iteD0 {c A B : Prop} [Decidable c] (hc : ¬ c) (h : B) : if decide c = true then A else B := by
  rw [if_neg (fun z => hc (of_decide_eq_true z))]
  exact h
theorem ixN_at {n j : Nat} (h : j < n) : ixN n (j : Int) = some j := by
  unfold ixN
  rw [if_pos (Int.natCast_nonneg j), if_pos (by omega)]
  rfl
theorem sx_at {n j : Nat} (h : j < n) : seqIndex? (j : Int) n = some j := (ixN_seq (ixN_at h)).1
theorem map_int_at {ns : List Int} {i : Nat} {y : V} (h : (ns.map V.int)[i]? = some y) : ∃ z, ns[i]? = some z ∧ y = V.int z := by
  rw [List.getElem?_map] at h
  cases e : ns[i]? with
  | none =>
    rw [e] at h
    cases h
  | some z =>
    rw [e] at h
    exact ⟨z, rfl, (Option.some.inj h).symm⟩
theorem same_new {H : Hp} {p : Addr} {o : HO} (h : H p = none) : Same H (upd H p o) := fun b u e => by
  rw [upd_ne (ne_of_none e h)]
  exact e
theorem Same.upd {H H' : Hp} {p : Addr} {o : HO} (s : Same H H') (h : H p = none) : Same H (L2.upd H' p o) := fun b u e => by
  rw [upd_ne (ne_of_none e h)]
  exact s b u e
theorem take_more {α : Type} {l : List α} {i : Nat} {z : α} (h : l[i]? = some z) : l.take (i + 1) = l.take i ++ [z] := by
  rw [List.take_succ, h]
  rfl
/-- all but a is as it was -/
def Fr1 (a : Addr) (H H' : Hp) : Prop := ∀ b o, H b = some o → b ≠ a → H' b = some o
theorem Fr1.refl {a : Addr} {H : Hp} : Fr1 a H H := fun _ _ h _ => h
theorem Fr1.trans {a : Addr} {H H1 H2 : Hp} (x : Fr1 a H H1) (y : Fr1 a H1 H2) : Fr1 a H H2 := fun b o h n => y b o (x b o h n) n
theorem Fr1.at {a : Addr} {H : Hp} {o : HO} : Fr1 a H (L2.upd H a o) := fun b u h n => by
  rw [upd_ne n]
  exact h
theorem Fr1.of {a : Addr} {H H' : Hp} (s : Same H H') : Fr1 a H H' := fun b o h _ => s b o h
theorem Fr1.new {a p : Addr} {H H' : Hp} {o : HO} (x : Fr1 a H H') (h : H' p = none) : Fr1 a H (L2.upd H' p o) := x.trans (Fr1.of (same_new h))
theorem Fr1.upd {a p : Addr} {H H' : Hp} {o : HO} (x : Fr1 a H H') (h : H p = none) : Fr1 a H (L2.upd H' p o) := fun b u e n => by
  rw [upd_ne (ne_of_none e h)]
  exact x b u e n
theorem Fr1.free {a p : Addr} {H H' : Hp} {o : HO} (x : Fr1 a H H') (ha : H' a = some o) (h : H' p = none) : H p = none := by
  cases q : H p with
  | none => rfl
  | some u =>
    by_cases e : p = a
    · rw [e, ha] at h
      cases h
    · rw [x p u q e] at h
      cases h
def spRow : Sp := fun vs H Q _ => ∃ (a : Addr) (M : Int) (ds : List Int), vs = [.ref a, .int M] ∧ 0 ≤ M ∧ M ≤ 10000 ∧ H a = some (.lst (ds.map V.int)) ∧ DOk ds ∧
  ∀ (p : Addr) (H' : Hp) (ns ds' : List Int), H p = none → Fr1 a H H' → DOk ds' → H' a = some (.lst (ds'.map V.int)) → H' p = some (.lst (ns.map V.int)) → (ns.length : Int) ≤ M → (∀ z ∈ ns, numOk z) → Q (.ref p) H'
/-! ### equal data, level by level -/
def EqN (K : PySem.W.Frag) : Nat → Hp → V → V → Prop
  | 0, _, x, y => x = y ∧ flatV x = true
  | n + 1, H, x, y => (x = y ∧ flatV x = true) ∨ ∃ (a b : Addr) (xs ys : List V), x = .ref a ∧ y = .ref b ∧ ((H a = some (.lst xs) ∧ H b = some (.lst ys)) ∨ (H a = some (.tup xs) ∧ H b = some (.tup ys))) ∧
      xs.length = ys.length ∧ xs.length ≤ 100000 ∧ ∀ (i : Nat) (u v : V), xs[i]? = some u → ys[i]? = some v → EqN K n H u v
theorem EqN.same {K : PySem.W.Frag} : ∀ {n : Nat} {H H' : Hp} {x y : V}, EqN K n H x y → Same H H' → EqN K n H' x y
  | 0, _, _, _, _, h, _ => h
  | n + 1, H, H', x, y, h, s => by
    rcases h with h | ⟨a, b, xs, ys, h1, h2, h3, h4, h5, h6⟩
    · exact .inl h
    · refine .inr ⟨a, b, xs, ys, h1, h2, ?_, h4, h5, fun i u v hu hv => EqN.same (h6 i u v hu hv) s⟩
      rcases h3 with ⟨h3, h7⟩ | ⟨h3, h7⟩
      · exact .inl ⟨s _ _ h3, s _ _ h7⟩
      · exact .inr ⟨s _ _ h3, s _ _ h7⟩
theorem EqN.succ {K : PySem.W.Frag} : ∀ {n : Nat} {H : Hp} {x y : V}, EqN K n H x y → EqN K (n + 1) H x y
  | 0, _, _, _, h => .inl h
  | n + 1, H, x, y, h => by
    rcases h with h | ⟨a, b, xs, ys, h1, h2, h3, h4, h5, h6⟩
    · exact .inl h
    · exact .inr ⟨a, b, xs, ys, h1, h2, h3, h4, h5, fun i u v hu hv => EqN.succ (h6 i u v hu hv)⟩
theorem eq0 {K : PySem.W.Frag} {n : Nat} {H : Hp} {x : V} (h : flatV x = true := by rfl) : EqN K n H x x := by
  cases n with
  | zero => exact ⟨rfl, h⟩
  | succ n => exact .inl ⟨rfl, h⟩
def spEqual (K : PySem.W.Frag) (n : Nat) : Sp := fun vs H Q _ => ∃ x y : V, vs = [x, y] ∧ EqN K n H x y ∧ ∀ H', Same H H' → Q (.bl true) H'
/-- an item of a list or a tuple -/
def rIxLT (K : PySem.W.Frag) : R2 := fun x y H Q => rIxL K x y H Q ∨ rIxT K x y H Q
theorem ix_lt {X : Cx} : IxR X (rIxLT X.K) := by
  intro value slice pins s σ H x y v u Q I rx ry h hs
  rcases h with h | h
  · exact ix_list value slice pins s σ H x y v u Q I rx ry h hs
  · exact ix_tup value slice pins s σ H x y v u Q I rx ry h hs
theorem cut_near (m : Int) : cutS (("near:" : Str) ++ numS m) (some 5) none = numS m := by
  apply ext_tl
  have e5 : (some (5 : Int)) = some ((5 : Nat) : Int) := rfl
  have hl : (("near:" : Str) ++ numS m).length = 5 + (numZ m).length := by
    rw [len_tl, near_tl, List.length_append]
    rfl
  show ((tl (("near:" : Str) ++ numS m)).drop _).take _ = tl (numS m)
  rw [e5, HT.sIx_nat, HT.sIx_none, hl, near_tl, Nat.min_eq_left (Nat.le_add_right 5 _), numS_tl]
  show (numZ m).take _ = numZ m
  rw [List.take_of_length_le]
  omega
def spKept : Sp := fun vs H Q _ => ∃ (r : Rule) (h c : Int), vs = [.str r.label, .int h, .int c] ∧ r.ok ∧ ∀ (p : Addr) (H' : Hp), H p = none → Same H H' → H' p = some (.tup [.int (r.keep h c).1, .int (r.keep h c).2]) → Q (.ref p) H'
theorem label_is {r r' : Rule} (h : r.ok) (h' : r'.ok) : decide (V.str r.label = V.str r'.label) = decide (r = r') := by
  by_cases e : r = r'
  · subst e
    rw [decide_eq_true rfl, decide_eq_true rfl]
  · rw [decide_eq_false e]
    exact decide_eq_false fun z => e (label_inj h h' (V.str.inj z))
theorem iteN1 {c A B : Prop} [Decidable c] (hc : ¬ c) (h : A) : if (!decide c) = true then A else B := by
  rw [decide_eq_false hc]
  exact iteT h
theorem near_ne (m : Int) {k : Kd} (hk : k ≠ .near) : ¬ V.str (Rule.near m).label = V.str k.word := fun z => by
  have z2 := congrArg tl (V.str.inj z)
  have z3 : tl (("near:" : Str) ++ numS m) = tl k.word := z2
  rw [near_tl] at z3
  cases k <;> first | exact absurd rfl hk | (have z4 := congrArg (fun l => l[0]?) z3; revert z4; simp [Kd.word]; decide +kernel)
theorem min2 {a b m : Int} (hm : m ∈ [a, b]) (hy : ∀ y ∈ [a, b], m ≤ y) : (a ≤ b → m = a) ∧ (b ≤ a → m = b) := by
  have h1 := hy a (by simp)
  have h3 := hy b (by simp)
  have h2 : m = a ∨ m = b := by simpa using hm
  constructor <;> intro h <;> omega
theorem max2 {a b m : Int} (hm : m ∈ [a, b]) (hy : ∀ y ∈ [a, b], y ≤ m) : (a ≤ b → m = b) ∧ (b ≤ a → m = a) := by
  have h1 := hy a (by simp)
  have h3 := hy b (by simp)
  have h2 : m = a ∨ m = b := by simpa using hm
  constructor <;> intro h <;> omega
end SC
set_option maxRecDepth 100000
set_option maxHeartbeats 2000000
/-! # Part E: errors that are caught and told -/
namespace SC
open PySem PySem.Spec PyProof.Rows L2 TL
theorem pe_never {X : Cx} {e : Expr} : PE X e (fun _ _ _ => False) := ⟨fun _ _ _ _ _ _ h => h.elim⟩
/-- the same rule, its reading said by hand -/
theorem peC {X : Cx} {e : Expr} {t : TE} (t' : TE) (h : PE X e t) (q : t = t' := by rfl) : PE X e t' := q ▸ h
theorem ptC {X : Cx} {e : Expr} {t : TT} (t' : TT) (h : PT X e t) (q : t = t' := by rfl) : PT X e t' := q ▸ h
/-- an error in the air of X stands over X's own slots: their number is known -/
theorem takes_len {X : Cx} {W : WX} (t : Takes X W) : Takes X (fun c d σ H => σ.length = X.N.length → W c d σ H) := fun u s' x => by
  obtain ⟨a, B, sI, pins, σ, H, cls, d, e, I, nb, up, sky, na, os, ag, w⟩ := x
  exact t u s' ⟨a, B, sI, pins, σ, H, cls, d, e, I, nb, up, sky, na, os, ag, w I.len⟩
theorem five {α : Type} {l : List α} (h : l.length = 5) : ∃ a b c d e, l = [a, b, c, d, e] := by
  match l, h with
  | [a, b, c, d, e], _ => exact ⟨a, b, c, d, e, rfl⟩
/-! ### xs.count(y), flat items -/
def rCountF (K : PySem.W.Frag) : V → List V → Hp → VK → Prop := fun x xs H Q => ∃ (a : Addr) (ys : List V) (y : V), x = .ref a ∧ xs = [y] ∧ SqL K H a ys ∧ flatV y = true ∧ ys.all flatV = true ∧ Q (.int ((ys.countP fun z => eqV z y : Nat) : Int)) H
theorem count_vals {y : V} : ∀ {ys : List V} {us : List Value}, Vals ys us → ys.all flatV = true → us.countP (eqU y) = ys.countP fun z => eqV z y
  | [], _, .nil, _ => rfl
  | z :: ys, _, .cons r t, h => by
    rw [List.all_cons] at h
    obtain ⟨h1, h2⟩ := He.ba h
    rw [List.countP_cons, List.countP_cons, count_vals t h2, eqU_of r h1]
theorem mt_countF {X : Cx} : MtR X "list.count" (rCountF X.K) := by
  intro pins s σ H x xs v us Q I rx rxs h
  obtain ⟨a, ys, y, ex, exs, hs, fy, fys, q⟩ := h
  subst ex exs
  obtain rfl : v = Value.ref a := rx
  obtain ⟨uy, eu, ry⟩ := rxs.one
  subst eu
  obtain ⟨its, rv, ⟨⟨cls, dd, data, sl⟩, n, ho, hc, hdn, hd⟩, hlen⟩ := I.list hs
  simp only at hc hd
  subst hc hd
  have ec : its.toArray.toList.countP (eqU y) = ys.countP fun z => eqV z y := count_vals rv fys
  refine call_meets PySem.F.slot_list_count ⟨_, ho, rfl⟩ PySem.F.entry_list_count (PySem.F.args_list_count_2 _ _) (SeqAt.list_countAt a its.toArray n dd sl uy (eqU y)) ⟨ho, fun u' hu' => mem_eqAt ry fy rv fys u' (by simpa using hu'), ?_⟩
  refine ⟨.int ((ys.countP fun z => eqV z y : Nat) : Int), H, I.tok _, ⟨s.toks, ?_⟩, q⟩
  rw [← ec]
/-! ### isinstance(e, c), e the caught error, whatever its class -/
def rIsEP (K : PySem.W.Frag) (a : Addr) (cls : Value) (d : Option Addr) : List V → Hp → VK → Prop := fun xs H Q => ∃ (D : Addr) (c : V) (cv : Value) (b : Bool), cls = .ref D ∧ d = none ∧ ExcC K D ∧ xs = [.ref a, c] ∧ (∀ u, RelV c u → u = cv) ∧ PySem.W.kitOne K (.ref D) cv = some b ∧ Q (.bl b) H
theorem call_isEP {X : Cx} {a : Addr} {oe : Obj} {cls : Value} {d : Option Addr} {pn : List (Addr × Obj)} (hz : Zc cls d oe) (hf : ∃ vs, oe.data = .fields vs) : CallR (X.suite a ((a, oe) :: pn)) (.builtin "isinstance") (rIsEP X.K a cls d) := by
  intro pins s σ H xs us Q I r h
  obtain ⟨D, c, cv, b, ec, ed, C, h⟩ := h
  subst ec ed
  exact call_isE C hz hf pins s σ H xs us Q I r ⟨c, cv, b, h⟩
/-- the errors, their classes and the laws' words for them -/
inductive Er where
  | number | chain | cell | row | text | many | contradiction | name | unknown | operation
  deriving DecidableEq
def Er.cn : Er → Str
  | .number => "InvalidNumber"
  | .chain => "InvalidChain"
  | .cell => "UnknownCell"
  | .row => "InvalidRow"
  | .text => "InvalidText"
  | .many => "TooMany"
  | .contradiction => "Contradiction"
  | .name => "InvalidName"
  | .unknown => "UnknownName"
  | .operation => "InvalidOperation"
def Er.word : Er → Str
  | .number => "number"
  | .chain => "chain"
  | .cell => "cell"
  | .row => "row"
  | .text => "text"
  | .many => "many"
  | .contradiction => "contradiction"
  | .name => "name"
  | .unknown => "unknown"
  | .operation => "operation"
def Er.ix : Er → Nat
  | .number => 0
  | .chain => 1
  | .cell => 2
  | .row => 3
  | .text => 4
  | .many => 5
  | .contradiction => 6
  | .name => 7
  | .unknown => 8
  | .operation => 9
def erBs (e : Er) : List V := [.bl (decide (Er.number = e)), .bl (decide (Er.chain = e)), .bl (decide (Er.cell = e)), .bl (decide (Er.row = e)), .bl (decide (Er.text = e)), .bl (decide (Er.many = e)), .bl (decide (Er.contradiction = e)), .bl (decide (Er.name = e)), .bl (decide (Er.unknown = e)), .bl (decide (Er.operation = e))]
def erWs : List V := [.str "number", .str "chain", .str "cell", .str "row", .str "text", .str "many", .str "contradiction", .str "name", .str "unknown", .str "operation"]
theorem er_at (e : Er) : (erBs e)[e.ix]? = some (.bl true) := by cases e <;> rfl
theorem er_word (e : Er) : erWs[e.ix]? = some (.str e.word) := by cases e <;> rfl
theorem er_first (e : Er) (m : Nat) (z : V) (hm : m < e.ix) (hz : (erBs e)[m]? = some z) : eqV z (.bl true) = false := by
  have q : ((List.range e.ix).all fun m => match (erBs e)[m]? with | some z => !eqV z (.bl true) | none => true) = true := by cases e <;> rfl
  have q2 := List.all_eq_true.mp q m (List.mem_range.mpr hm)
  rw [hz] at q2
  simpa using q2
/-- without a field -/
def Er.bare : Er → Bool
  | .chain | .row | .text | .operation => false
  | _ => true
/-- what _law_error_of makes of a call: its error's word and 0 as a new tuple, None where it goes through (errors without a field) -/
def TErr0 (K : PySem.W.Frag) (S : List Er) : (XK → Hp → VK → Prop) → Hp → VK → Prop := fun tl H Q =>
  tl (fun cls d H' => ∃ e : Er, e ∈ S ∧ e.bare = true ∧ cls = .ref (He.ga K e.cn) ∧ d = none ∧ ∀ (p : Addr) (H'' : Hp), H' p = none → Same H' H'' → H'' p = some (.tup [.str e.word, .int 0]) → Q (.ref p) H'') H (fun _ H' => Q .non H')
/-- what the written part says of the errors -/
structure Errs (K : PySem.W.Frag) (mg : Str → Option Value) : Prop where
  glo : ∀ e : Er, mg e.cn = some (.ref (He.ga K e.cn))
  sift : mg "SiftError" = some (.ref (He.ga K "SiftError"))
  ve : mg "ValueError" = none
/-- .. and of one of them without a field -/
structure ErrT (K : PySem.W.Frag) (e : Er) : Prop where
  exm : PySem.W.exmOne K (.ref (He.ga K e.cn)) (.ref (He.ga K "SiftError")) = some true
  exk : ExcC K (He.ga K e.cn)
  kit : ∀ y : Er, PySem.W.kitOne K (.ref (He.ga K e.cn)) (.ref (He.ga K y.cn)) = some (decide (y = e))
  kitV : PySem.W.kitOne K (.ref (He.ga K e.cn)) (.type "ValueError") = some true
theorem eqLst {K : PySem.W.Frag} {n : Nat} {H : Hp} {a b : Addr} {xs : List V} (h : H a = some (.lst xs)) (h' : H b = some (.lst xs)) (hf : xs.all flatV = true) (hl : xs.length ≤ 100000) : EqN K (n + 1) H (.ref a) (.ref b) := by
  refine .inr ⟨a, b, xs, xs, rfl, rfl, .inl ⟨h, h'⟩, rfl, hl, fun i u v hu hv => ?_⟩
  rw [hu] at hv
  rw [← Option.some.inj hv]
  exact eq0 (List.all_eq_true.mp hf u (List.mem_of_getElem? hu))
theorem eqTup {K : PySem.W.Frag} {n : Nat} {H : Hp} {a b : Addr} {xs : List V} (h : H a = some (.tup xs)) (h' : H b = some (.tup xs)) (hf : xs.all flatV = true) (hl : xs.length ≤ 100000) : EqN K (n + 1) H (.ref a) (.ref b) := by
  refine .inr ⟨a, b, xs, xs, rfl, rfl, .inr ⟨h, h'⟩, rfl, hl, fun i u v hu hv => ?_⟩
  rw [hu] at hv
  rw [← Option.some.inj hv]
  exact eq0 (List.all_eq_true.mp hf u (List.mem_of_getElem? hu))
/-- the tables stand where all but a list is as it was -/
theorem tabs_fr {T : List (Addr × Str)} {d : Addr} {H H' : Hp} {xs : List V} (t : LamX.Tabs T H) (hd : H d = some (.lst xs)) (f : Fr1 d H H') : LamX.Tabs T H' := fun p hp => by
  obtain ⟨ps, h1, h2, h3⟩ := t p hp
  have n1 : p.1 ≠ d := ne_of h1 hd (fun z => by cases z)
  refine ⟨ps, f _ _ h1 n1, h2, fun pos cv hc => ?_⟩
  obtain ⟨c, e1, e2⟩ := h3 pos cv hc
  refine ⟨c, e1, f _ _ e2 (ne_of e2 hd fun z => ?_)⟩
  unfold LamX.CodeO at z
  cases z
theorem CellAt.fr {K : PySem.W.Frag} {H H' : Hp} {a d : Addr} {r : Rule} {xs : List V} (c : CellAt K H a r) (hd : H d = some (.lst xs)) (f : Fr1 d H H') : CellAt K H' a r := by
  obtain ⟨h1, dx, h2⟩ := c
  exact ⟨h1, dx, f _ _ h2 (ne_of h2 hd fun z => by cases z)⟩
theorem made_cell {K : PySem.W.Frag} {H : Hp} {x dx : Addr} {r : Rule} (h : r.ok) : CellAt K (upd (upd H dx (.own x)) x (.ins (He.ga K r.kd.cn) dx r.fs)) x r := ⟨h, dx, upd_same⟩
theorem made_same' {H : Hp} {x dx C : Addr} {fs : List (Str × V)} (h1 : H x = none) (h2 : H dx = none) : Same H (upd (upd H dx (.own x)) x (.ins C dx fs)) := fun b o e => by
  rw [upd_ne (ne_of_none e h1), upd_ne (ne_of_none e h2)]
  exact e
theorem boot_VE : bootBuiltins "ValueError" = some (.type "ValueError") := by decide +kernel
end SC
set_option maxRecDepth 100000
set_option maxHeartbeats 2000000
/-! # Part F: rules of our own for chains: enumerate over tuples, C(*xs), statements that are never reached -/
namespace SC
open PySem PySem.Spec PyProof.Rows L2 TL
/-! ### what is never reached -/
theorem ps_never {X : Cx} {st : Stmt} : PS X st (fun _ _ _ => False) := ⟨fun _ _ _ _ _ _ h => h.elim⟩
theorem pss_never {X : Cx} {b : List Stmt} : PSs X b (fun _ _ _ => False) := ⟨fun _ _ _ _ _ _ h => h.elim⟩
/-! ### enumerate(xs), xs a tuple -/
set_option maxHeartbeats 1000000 in
theorem enumB_meets {v : Value} {ob : Obj} {Hh : Heap → Prop} (B : Begins v ob Hh) : Meets (Builtin.«enumerate.__new__» ⟨[.type "enumerate", v], []⟩) (fun _ R s => Hh s.heap ∧
    R (.ok (.ret (.ref (s.heap.push ob).objs.size))) { s with heap := (s.heap.push ob).push { cls := .type "enumerate", data := .fields #[.none, .bool false, .ref s.heap.objs.size, rawInt 0, .none, .none] } }) :=
  .of_wp fun prog w A R s hin => by
    obtain ⟨hp, g, dd, tk, os⟩ := s
    obtain ⟨hin1, hR⟩ := hin
    have hsub := sub_enumerate
    have qq : ∀ {A' : Around} {E' : Value → Shared → Prop} {Q' : Value → Shared → Prop}, Q' (.ref hp.objs.size) ⟨hp.push ob, g, dd, tk, os⟩ → wpAny (model prog w) A' (pyIter v) Q' E' ⟨hp, g, dd, tk, os⟩ :=
      fun z => B.iter prog w _ _ ⟨hp, g, dd, tk, os⟩ _ hin1 z
    wp_walk using qq
    refine wpAny_stack_any fun stk => wpAny_pure ?_
    split
    · rename_i cc _ _ _ _ _
      cases (cc == Value.type "enumerate") <;> (wp_walk using qq; exact ⟨_, rfl, hR⟩)
    · wp_walk using qq
      exact ⟨_, rfl, hR⟩
theorem call_enumB {prog : Program} {w : World} {A : Around} {E : Value → Shared → Prop} {s : Shared} {v : Value} {ob : Obj} {Hh : Heap → Prop} {Q : Value → Shared → Prop} (B : Begins v ob Hh) (hin : Hh s.heap)
    (hq : ∀ hn, IsEnum hn (s.heap.objs.size + 1) s.heap.objs.size 0 .none → hn.get? s.heap.objs.size = some ob → (∀ b o, s.heap.get? b = some o → hn.get? b = some o) → Q (.ref (s.heap.objs.size + 1)) { s with heap := hn }) :
    wpAny (model prog w) A (call (.type "enumerate") [v]) Q E s := by
  refine callType_new F.called_enumerate (by decide) (F.typeCall_enumerate_1 _) (F.newCall_enumerate_1 _) (fun z => F.args_object_init_2 z _) F.entry_enumerate_new (enumB_meets B) ⟨hin, ?_⟩
  have sz : (s.heap.push ob).objs.size = s.heap.objs.size + 1 := Heap.size_push ..
  show _ ∧ _
  rw [sz]
  have ien : IsEnum ((s.heap.push ob).push { cls := .type "enumerate", data := .fields #[.none, .bool false, .ref s.heap.objs.size, rawInt 0, .none, .none] }) (s.heap.objs.size + 1) s.heap.objs.size 0 .none := by
    have z := Heap.get?_push_size (s.heap.push ob) (o := { cls := .type "enumerate", data := .fields #[.none, .bool false, .ref s.heap.objs.size, rawInt 0, .none, .none] }) rfl
    rw [sz] at z
    exact z
  exact ⟨⟨_, ien, rfl⟩, hq _ ien (Heap.get?_push_of_some _ (Heap.get?_push_size _ B.free)) fun b o z => Heap.get?_push_of_some _ (Heap.get?_push_of_some _ z)⟩
/-- the tuple at a, each item in a new pair -/
def IteT (K : PySem.W.Frag) (a : Addr) : It :=
  ⟨fun i H => ∃ (xs : List V) (x : V), SqT K H a xs ∧ xs[i]? = some x, fun i H v H' => ∃ T x, v = .ref T ∧ H T = none ∧ H' = upd H T (.tup [.int (i : Nat), x]) ∧ ∀ xs, SqT K H a xs → xs[i]? = some x, fun i H => ∃ xs : List V, SqT K H a xs ∧ xs.length = i⟩
theorem turn_enumT {P : Program} {w : World} {K : PySem.W.Frag} {elts : List Expr} {kk : Nat} {tpos : Pos} (a e it : Addr) (hai : a ≠ it) (hae : e ≠ a) :
    Turn P w K (.Tuple elts kk tpos) (IteT K a) [e, it] e (fun i h => (∃ old, IsEnum h e it ((i : Nat) : Int) old) ∧ h.IsTupleIter it a i ∧ e ≠ it) where
  mem := by simp
  obj := fun i h st b hb => by
    obtain ⟨⟨old, ien⟩, ⟨o, ho, hcl, hdt⟩, _⟩ := st
    rcases (show b = e ∨ b = it by simpa using hb) with rfl | rfl
    · exact ⟨_, ien, fun v q => nomatch q⟩
    · refine ⟨o, ho, fun v q => ?_⟩
      rw [hdt] at q
      cases q
  keep := fun i h h' st k => by
    obtain ⟨⟨old, ien⟩, iti, hne⟩ := st
    exact ⟨⟨old, k e (by simp) _ ien⟩, iti.at fun o q => k it (by simp) o q, hne⟩
  item := by
    intro X hP hw hK hc i pins s σ H E I hf st hg
    subst hP hw hK
    obtain ⟨⟨old, ien⟩, iti, hne⟩ := st
    obtain ⟨xs, x, hq, hx⟩ := hg
    obtain ⟨its, rv, tp, _⟩ := I.tuple hq
    obtain ⟨u, hu, ru⟩ := rv.get hx
    have le : e < s.heap.objs.size := Heap.lt_size ien
    have li : it < s.heap.objs.size := by
      obtain ⟨_, q, _⟩ := iti
      exact Heap.lt_size q
    have hiu : its.toArray[i]? = some u := by simpa using hu
    have hlt : i < its.toArray.size := by
      rcases Nat.lt_or_ge i its.toArray.size with z | z
      · exact z
      · rw [Array.getElem?_eq_none z] at hiu
        cases hiu
    refine wpAny_pyNext_enum_itemD (Draws.tuple (show X.A.in1.handled = none from I.ok.hd hc) it a hai its.toArray) ien ⟨iti, tp⟩ hlt hne (by simp [hne, hae]) fun y hn tk hy ieo iti2 hT hsz hk => ?_
    have ey : y = u := by
      rw [hiu] at hy
      exact (Option.some.inj hy).symm
    subst ey
    refine ⟨_, rfl, wpAny_letOwnedTupleGo_enum (s := { s with heap := hn, toks := tk + 1 }) ieo fun hm iem sb => ?_⟩
    have tm : hm.get? s.heap.objs.size = some { cls := .type "tuple", data := .seq #[.int i tk, y] } := (sb.2 _ (Nat.ne_of_gt le)).trans hT
    have new : ObjOk X.prog X.w (upd H s.heap.objs.size (.tup [.int (i : Nat), x])) hm s.heap.objs.size (.tup [.int (i : Nat), x]) :=
      ⟨by show 2 ≤ sizeLine; decide, [.int i tk, y], .cons ⟨_, rfl⟩ (.cons ru .nil), ⟨_, tm, rfl, _, rfl⟩⟩
    have Im : Inv X pins σ (upd H s.heap.objs.size (.tup [.int (i : Nat), x])) { s with heap := hm, toks := tk + 1 } :=
      I.turnedNew (ch := [e, it]) (fun b o hb q => (sb.2 b (fun z => hb (by simp [z]))).trans (hk b o (fun z => hb (by simp [z])) (fun z => hb (by simp [z])) q)) hf (Nat.le_refl _) new
    refine ⟨.ref s.heap.objs.size, _, Im, rfl, ⟨_, x, rfl, I.hok.fresh (Nat.le_refl _), rfl, fun zs hz => by rw [I.tuple_inj hz hq]; exact hx⟩, ⟨⟨y, ?_⟩, iti2.1.at fun o q => (sb.2 it (Ne.symm hne)).trans q, hne⟩, fun b hb => ?_⟩
    · rw [show ((i + 1 : Nat) : Int) = (i : Int) + 1 by omega]
      exact iem
    · have lb : b < s.heap.objs.size := by
        rcases (show b = e ∨ b = it by simpa using hb) with rfl | rfl
        · exact le
        · exact li
      rw [upd_ne (Nat.ne_of_lt lb)]
      exact (hf b hb).1
  done := by
    intro X hP hw hK hc i pins s σ H E I hf st hg
    subst hP hw hK
    obtain ⟨⟨old, ien⟩, iti, hne⟩ := st
    obtain ⟨xs, hq, hx⟩ := hg
    obtain ⟨its, rv, tp, _⟩ := I.tuple hq
    obtain ⟨f0, f1, f2, f3, f4, f5⟩ := hf it (by simp)
    have hl := rv.length
    have D := Draws.tuple (prog := X.prog) (w := X.w) (show X.A.in1.handled = none from I.ok.hd hc) it a hai its.toArray
    have ei : its.toArray.size = i := by
      rw [List.size_toArray]
      omega
    rw [← ei] at iti
    exact wpAny_pyNext_enum_endD D ien ⟨iti, tp⟩ fun hn eb => ⟨rfl, I.turned (t' := s.toks) (fun b o hb q => eb b o hb q) f0 f1 f3 f4 f5⟩
  self := fun A i s Q E st h => by
    obtain ⟨⟨_, ien⟩, _⟩ := st
    exact wpAny_pyIter_enum ien h
def iEnumT (K : PySem.W.Frag) (ta : TA) : TI := fun σ H R => ta σ H fun vs H1 => ∃ a xs, vs = [.ref a] ∧ SqT K H1 a xs ∧ R (IteT K a) H1
theorem pi_enumT {X : Cx} {e : Expr} {ta : TA} {p pos tpos : Pos} {elts : List Expr} {kk : Nat} (hg : Gl X "enumerate") (hm : X.mg "enumerate" = none) (ha : PA X [e] ta) (hs : starEach [e] X.env = [(false, eval e X.env)] := by rfl) :
    PI X (.Tuple elts kk tpos) (.Call (.Name "enumerate" p) [e] [] pos) (iEnumT X.K ta) := by
  refine ⟨fun pins s σ H R I h => Call_ (ld_blt I hg hm boot_enumerate (PyProof.Rows.callWith_type1 (thn (ha.run pos pins s σ H _ I h) fun us s1 hh => ?_) hs rfl))⟩
  obtain ⟨vs, H1, I1, r1, a, xs, ex, hq, q⟩ := hh
  subst ex
  obtain ⟨u, eu, ru⟩ := r1.one
  subst eu
  obtain rfl : u = Value.ref a := ru
  obtain ⟨its, rv, tp, hz⟩ := I1.tuple hq
  have la : a < s1.heap.objs.size := by
    obtain ⟨_, z, _⟩ := id tp
    exact Heap.lt_size z
  refine call_enumB (begins_tuple a its.toArray) tp fun hn ien hit hk => wpAny_pyIter_enum ien ?_
  have I2 : Inv X pins σ H1 { s1 with heap := hn } := I1.kept (t' := s1.toks) hk
  refine ⟨s1.heap.objs.size + 1, [s1.heap.objs.size + 1, s1.heap.objs.size], _, _, H1, rfl, I2, turn_enumT a (s1.heap.objs.size + 1) s1.heap.objs.size (Nat.ne_of_lt la) (Nat.ne_of_gt (Nat.lt_succ_of_lt la)), ⟨⟨.none, ien⟩, ⟨_, hit, rfl, rfl⟩, Nat.succ_ne_self _⟩, fun b hb => ?_, q⟩
  have le : s1.heap.objs.size ≤ b := by
    rcases (show b = s1.heap.objs.size + 1 ∨ b = s1.heap.objs.size by simpa using hb) with z | z
    · rw [z]
      exact Nat.le_add_right _ _
    · rw [z]
      exact Nat.le_refl _
  exact I1.fpOk le (I1.hok.fresh le)
/-- a loop over enumerate of a tuple -/
theorem for_enumT {K : PySem.W.Frag} {a : Addr} {xs : List V} {g : TG} {tb : TS} {D : Ends} {σ : L2.St} {H : Hp} (Pv : Nat → L2.St → Hp → Prop) (h0 : Pv 0 σ H) (hq : ∀ i σ H, Pv i σ H → SqT K H a xs)
    (hs : ∀ (i : Nat) (x : V) (T : Addr) (σ : L2.St) (H : Hp), xs[i]? = some x → Pv i σ H → H T = none → g (.ref T) σ (upd H T (.tup [.int (i : Nat), x])) fun σ2 H2 => tb { D with nx := Pv (i + 1), ct := Pv (i + 1), bk := D.nx } σ2 H2) (hd : ∀ σ H, Pv xs.length σ H → D.nx σ H) :
    ∃ W : Nat → Nat → L2.St → Hp → Prop, (∃ m, W 0 m σ H) ∧ ∀ i m σ H, W i m σ H →
      ((IteT K a).stop i H ∧ D.nx σ H) ∨ ((IteT K a).go i H ∧ ∃ N : L2.St → Hp → Prop, (∀ σ' H', N σ' H' → ∃ m', m' < m ∧ W (i + 1) m' σ' H') ∧ ∀ v H', (IteT K a).yld i H v H' → g v σ H' fun σ2 H2 => tb { D with nx := N, ct := N, bk := D.nx } σ2 H2) := by
  refine ⟨fun i m σ H => m = xs.length - i ∧ i ≤ xs.length ∧ Pv i σ H, ⟨xs.length, rfl, Nat.zero_le _, h0⟩, ?_⟩
  rintro i m σ H ⟨rfl, hi, p⟩
  have qx := hq i σ H p
  by_cases hlt : i < xs.length
  · have hx : xs[i]? = some xs[i] := List.getElem?_eq_getElem hlt
    refine .inr ⟨⟨xs, _, qx, hx⟩, Pv (i + 1), fun σ' H' p' => ⟨xs.length - (i + 1), by omega, rfl, hlt, p'⟩, ?_⟩
    rintro v H' ⟨T, x, rfl, hT, rfl, hy⟩
    exact hs i x T σ H (hy xs qx) p hT
  · have e : i = xs.length := by omega
    subst e
    exact .inl ⟨⟨xs, qx, rfl⟩, hd σ H p⟩
/-- a loop over enumerate of a list -/
theorem for_enumL {K : PySem.W.Frag} {a : Addr} {xs : List V} {g : TG} {tb : TS} {D : Ends} {σ : L2.St} {H : Hp} (Pv : Nat → L2.St → Hp → Prop) (h0 : Pv 0 σ H) (hq : ∀ i σ H, Pv i σ H → SqL K H a xs)
    (hs : ∀ (i : Nat) (x : V) (T : Addr) (σ : L2.St) (H : Hp), xs[i]? = some x → Pv i σ H → H T = none → g (.ref T) σ (upd H T (.tup [.int (i : Nat), x])) fun σ2 H2 => tb { D with nx := Pv (i + 1), ct := Pv (i + 1), bk := D.nx } σ2 H2) (hd : ∀ σ H, Pv xs.length σ H → D.nx σ H) :
    ∃ W : Nat → Nat → L2.St → Hp → Prop, (∃ m, W 0 m σ H) ∧ ∀ i m σ H, W i m σ H →
      ((Ite K a).stop i H ∧ D.nx σ H) ∨ ((Ite K a).go i H ∧ ∃ N : L2.St → Hp → Prop, (∀ σ' H', N σ' H' → ∃ m', m' < m ∧ W (i + 1) m' σ' H') ∧ ∀ v H', (Ite K a).yld i H v H' → g v σ H' fun σ2 H2 => tb { D with nx := N, ct := N, bk := D.nx } σ2 H2) := by
  refine ⟨fun i m σ H => m = xs.length - i ∧ i ≤ xs.length ∧ Pv i σ H, ⟨xs.length, rfl, Nat.zero_le _, h0⟩, ?_⟩
  rintro i m σ H ⟨rfl, hi, p⟩
  have qx := hq i σ H p
  by_cases hlt : i < xs.length
  · have hx : xs[i]? = some xs[i] := List.getElem?_eq_getElem hlt
    refine .inr ⟨⟨xs, _, qx, hx⟩, Pv (i + 1), fun σ' H' p' => ⟨xs.length - (i + 1), by omega, rfl, hlt, p'⟩, ?_⟩
    rintro v H' ⟨T, x, rfl, hT, rfl, hy⟩
    exact hs i x T σ H (hy xs qx) p hT
  · have e : i = xs.length := by omega
    subst e
    exact .inl ⟨⟨xs, qx, Nat.le_refl _⟩, hd σ H p⟩
/-! ### C(*xs) -/
def tMakeS (K : PySem.W.Frag) (C : Addr) (sp : Sp) (E : XK) (te : TE) : TE := fun σ H Q => te σ H fun y H1 => ∃ a xs, y = V.ref a ∧ (SqT K H1 a xs ∨ SqL K H1 a xs) ∧ ∀ x dx, H1 x = Option.none → H1 dx = Option.none → dx ≠ x →
  sp (V.ref x :: xs) (upd (upd H1 dx (.own x)) x (.ins C dx [])) (fun v H2 => v = .non ∧ Q (.ref x) H2) E
theorem pe_makeS {X : Cx} {CX : CXT} {k : Nat} {f C : Addr} {sp : Sp} {E : XK} {x : Str} {e : Expr} {te : TE} {p pos spos : Pos} (M : Mk X.K C f) (F : FnR X.prog X.w X.K X.mg X.base CX k f sp) (hr : Room (k + 1) X.A) (hg : Gl X x) (hm : X.mg x = some (.ref C)) (hx : Passes CX X E) (he : PE X e te)
    (hdb : (x == ("__debug__" : Str)) = false := by decide) (hst : starEach [.Starred e spos] X.env = [(true, eval e X.env)] := by rfl) : PE X (.Call (.Name x p) [.Starred e spos] [] pos) (tMakeS X.K C sp E te) := by
  refine ⟨fun pins s σ H Q I h => wpAny_Call_Name_kw (ld_glob I hg hm ?_ hdb)⟩
  refine PySem.W.callWith_S (h₀ := X.base) I.ok.mod.kin M.kp (thn (he.run pins s σ H _ I h) fun v s1 hh => ?_) hst
  obtain ⟨y, H1, I1, ry, a, xs, ey, hxs, q⟩ := hh
  subst ey
  obtain rfl : v = Value.ref a := ry
  exact StX.star_any I1 hxs fun us s2 I2 rv => ⟨I2.kIn, StX.run_makeR M F hr hx I2 rv q⟩
/-- f(*xs), f an expression that gives the class -/
theorem pe_makeSv {X : Cx} {CX : CXT} {k : Nat} {f C : Addr} {sp : Sp} {E : XK} {fe e : Expr} {tf te : TE} {pos spos : Pos} (M : Mk X.K C f) (F : FnR X.prog X.w X.K X.mg X.base CX k f sp) (hr : Room (k + 1) X.A) (hf : PE X fe tf) (hx : Passes CX X E) (he : PE X e te)
    (ht : eval (.Call fe [.Starred e spos] [] pos) X.env = (do callWith pos (← eval fe X.env) [] (backTo pos (starEach [.Starred e spos] X.env)) (backToKw pos (keywordEach [] X.env))) := by rfl)
    (hst : starEach [.Starred e spos] X.env = [(true, eval e X.env)] := by rfl) : PE X (.Call fe [.Starred e spos] [] pos) (fun σ H Q => tf σ H fun z H1 => z = .ref C ∧ tMakeS X.K C sp E te σ H1 Q) := by
  refine ⟨fun pins s σ H Q I h => Call_ (thn (hf.run pins s σ H _ I h) fun z s1 hz => ?_) ht⟩
  obtain ⟨zv, H1, I1, rz, ez, h1⟩ := hz
  subst ez
  obtain rfl : z = Value.ref C := rz
  refine PySem.W.callWith_S (h₀ := X.base) I1.ok.mod.kin M.kp (thn (he.run pins s1 σ H1 _ I1 h1) fun v s2 hh => ?_) hst
  obtain ⟨y, H2, I2, ry, a, xs, ey, hxs, q⟩ := hh
  subst ey
  obtain rfl : v = Value.ref a := ry
  exact StX.star_any I2 hxs fun us s3 I3 rv => ⟨I3.kIn, StX.run_makeR M F hr hx I3 rv q⟩
end SC
set_option maxRecDepth 100000
set_option maxHeartbeats 2000000
/-! # Part G: chains: what stands in the heap, what they promise -/
namespace SC
open PySem PySem.Spec PyProof.Rows L2 TL
/-! ### (z,) * k -/
theorem tuple_mul1 (l : Addr) (items : Array Value) (n : Nat) (dd : Option Addr) (sl : Array (Option Value)) (u : Tok) :
    Meets (Builtin.«tuple.__mul__» ⟨[.ref l, .int 1 u], []⟩) (fun _ R s => s.heap.get? l = some { cls := .type "tuple", dict := dd, data := .seq items n, slots := sl } ∧ R (.ok (.ret (Value.ref l))) s) :=
  .of_wp fun prog w A R s hin => by
    obtain ⟨hp, g, d, tk, os⟩ := s
    obtain ⟨hl, hR⟩ := hin
    have ii := AutoSeq1.idx_int
    wp_walk using AutoSeq1.wpAny_loadPart' hl
    exact ⟨_, rfl, hR⟩
theorem op_rep1 {X : Cx} : OpR X (binaryOp .Mult) (fun x y H Q => ∃ l xs, x = .ref l ∧ y = .int 1 ∧ SqT X.K H l xs ∧ Q (.ref l) H) := by
  intro pins s σ H x y v u Q I rx ry h
  obtain ⟨l, xs, ex, ey, hT, q⟩ := h
  subst ex ey
  obtain rfl : v = Value.ref l := rx
  obtain ⟨t, rfl⟩ := ry
  obtain ⟨its, r, ⟨⟨cls, dd, data, sl⟩, ho, hc, n, hd⟩, hs⟩ := I.tuple hT
  simp only at hc hd
  subst hc hd
  exact wpAny_binaryOp_repeat_ref (T := "tuple") (U := "int") (by decide) ⟨_, ho, rfl⟩ (fun s' => typeIs_int s' 1 t) noFill_tuple_mul F.fills_int_mul F.slot_int_rmul repeat_tuple F.slot_int_index.lookup
    (call_meets F.slot_int_rmul (typeIs_int s 1 t) F.entry_int_rmul (F.args_int_rmul_2 _ _) (int_rmul_tuple 1 t l its.toArray n dd sl)
      ⟨ho, rfl, ⟨_, ho, rfl⟩, call_meets F.slot_tuple_mul ⟨_, ho, rfl⟩ F.entry_tuple_mul (F.args_tuple_mul_2 _ _) (tuple_mul1 l its.toArray n dd sl t) ⟨ho, .ref l, H, I, rfl, q⟩⟩)
def rRepN (K : PySem.W.Frag) : R2 := fun x y H Q => ∃ l k z, x = .ref l ∧ y = .int k ∧ H l = some (.tup [z]) ∧ 1 ≤ k ∧ k ≤ 1000 ∧ ∀ p H', Same H H' → H' p = some (.tup (List.replicate k.toNat z)) → (p = l ∨ H p = none) → Q (.ref p) H'
theorem op_repN {X : Cx} : OpR X (binaryOp .Mult) (rRepN X.K) := by
  intro pins s σ H x y v u Q I rx ry h
  obtain ⟨l, k, z, ex, ey, hl, h1, h2, q⟩ := h
  by_cases hk : k = 1
  · subst hk
    refine op_rep1 pins s σ H x y v u Q I rx ry ⟨l, [z], ex, ey, SqT.of hl, q l H (fun _ _ h => h) hl (.inl rfl)⟩
  · refine op_repT pins s σ H x y v u Q I rx ry ⟨l, k, [z], ex, ey, SqT.of hl, by simp, by omega, h2, by simp, fun p hp => q p _ (same_new hp) ?_ (.inr hp)⟩
    rw [upd_same]
    congr 2
    generalize k.toNat = m
    induction m with
    | zero => rfl
    | succ m ih => rw [List.replicate_succ, List.replicate_succ, List.flatten_cons, ih]; rfl
/-! ### chains in the heap -/
def Cs (K : PySem.W.Frag) (H : Hp) (as : List Addr) (rs : List Rule) : Prop := as.length = rs.length ∧ ∀ (i : Nat) (a : Addr) (r : Rule), as[i]? = some a → rs[i]? = some r → CellAt K H a r
theorem Cs.same {K : PySem.W.Frag} {H H' : Hp} {as : List Addr} {rs : List Rule} (c : Cs K H as rs) (s : Same H H') : Cs K H' as rs := ⟨c.1, fun i a r h1 h2 => (c.2 i a r h1 h2).same s⟩
theorem Cs.fr {K : PySem.W.Frag} {H H' : Hp} {as : List Addr} {rs : List Rule} {d : Addr} {xs : List V} (c : Cs K H as rs) (hd : H d = some (.lst xs)) (f : Fr1 d H H') : Cs K H' as rs := ⟨c.1, fun i a r h1 h2 => (c.2 i a r h1 h2).fr hd f⟩
theorem Cs.nil {K : PySem.W.Frag} {H : Hp} : Cs K H [] [] := ⟨rfl, fun i a r h _ => by simp at h⟩
theorem Cs.snoc {K : PySem.W.Frag} {H : Hp} {as : List Addr} {rs : List Rule} {a : Addr} {r : Rule} (c : Cs K H as rs) (h : CellAt K H a r) : Cs K H (as ++ [a]) (rs ++ [r]) := by
  refine ⟨by simp [c.1], fun i b q h1 h2 => ?_⟩
  by_cases hi : i < as.length
  · rw [List.getElem?_append_left hi] at h1
    rw [List.getElem?_append_left (by rw [← c.1]; exact hi)] at h2
    exact c.2 i b q h1 h2
  · rw [List.getElem?_append_right (by omega)] at h1
    rw [List.getElem?_append_right (by rw [← c.1]; omega)] at h2
    rw [← c.1] at h2
    cases e : i - as.length with
    | zero =>
      rw [e] at h1 h2
      simp at h1 h2
      subst h1 h2
      exact h
    | succ m =>
      rw [e] at h1
      simp at h1
theorem Cs.app {K : PySem.W.Frag} {H : Hp} {as bs : List Addr} {rs qs : List Rule} (c : Cs K H as rs) (d : Cs K H bs qs) : Cs K H (as ++ bs) (rs ++ qs) := by
  refine ⟨by simp [c.1, d.1], fun i b q h1 h2 => ?_⟩
  by_cases hi : i < as.length
  · rw [List.getElem?_append_left hi] at h1
    rw [List.getElem?_append_left (by rw [← c.1]; exact hi)] at h2
    exact c.2 i b q h1 h2
  · rw [List.getElem?_append_right (by omega)] at h1
    rw [List.getElem?_append_right (by rw [← c.1]; omega), ← c.1] at h2
    exact d.2 _ b q h1 h2
theorem Cs.ok {K : PySem.W.Frag} {H : Hp} {as : List Addr} {rs : List Rule} (c : Cs K H as rs) : ∀ r ∈ rs, r.ok := fun r hr => by
  obtain ⟨i, hi, e⟩ := List.getElem_of_mem hr
  have hi2 : i < as.length := by
    rw [c.1]
    exact hi
  have h1 : as[i]? = some as[i] := List.getElem?_eq_getElem hi2
  exact (c.2 i _ r h1 (by rw [List.getElem?_eq_getElem hi, e])).1
def ChC (K : PySem.W.Frag) : Addr := He.ga K "Chain"
def ChainAt (K : PySem.W.Frag) (H : Hp) (c : Addr) (rs : List Rule) : Prop :=
  ∃ (dx t : Addr) (as : List Addr), H c = some (.ins (ChC K) dx [("cells", .ref t)]) ∧ H t = some (.tup (as.map V.ref)) ∧ Cs K H as rs ∧ 1 ≤ rs.length ∧ rs.length ≤ 8
theorem ChainAt.same {K : PySem.W.Frag} {H H' : Hp} {c : Addr} {rs : List Rule} (x : ChainAt K H c rs) (s : Same H H') : ChainAt K H' c rs := by
  obtain ⟨dx, t, as, h1, h2, h3, h4⟩ := x
  exact ⟨dx, t, as, s _ _ h1, s _ _ h2, h3.same s, h4⟩
theorem ChainAt.fr {K : PySem.W.Frag} {H H' : Hp} {c d : Addr} {xs : List V} {rs : List Rule} (x : ChainAt K H c rs) (hd : H d = some (.lst xs)) (f : Fr1 d H H') : ChainAt K H' c rs := by
  obtain ⟨dx, t, as, h1, h2, h3, h4⟩ := x
  exact ⟨dx, t, as, f _ _ h1 (ne_of h1 hd fun z => by cases z), f _ _ h2 (ne_of h2 hd fun z => by cases z), h3.fr hd f, h4⟩
theorem ChainAt.ok {K : PySem.W.Frag} {H : Hp} {c : Addr} {rs : List Rule} (x : ChainAt K H c rs) : ∀ r ∈ rs, r.ok := by
  obtain ⟨dx, t, as, h1, h2, h3, h4⟩ := x
  exact h3.ok
/-! ### what comes of a number, of a row -/
def ov : Option Int → V
  | none => .non
  | some i => .int i
def stepR : List Rule → List (Option Int) → Option Int → List (Option Int) × Option Int
  | r :: rs, none :: hs, c => ((c :: (stepR rs hs none).1), (stepR rs hs none).2)
  | r :: rs, some h :: hs, some c => ((some (r.keep h c).1 :: (stepR rs hs (some (r.keep h c).2)).1), (stepR rs hs (some (r.keep h c).2)).2)
  | _, hs, c => (hs, c)
def runR (rs : List Rule) : List (Option Int) → List Int → List (Option Int) × List (Option Int)
  | hs, [] => ([], hs)
  | hs, n :: ns => ((stepR rs hs (some n)).2 :: (runR rs (stepR rs hs (some n)).1 ns).1, (runR rs (stepR rs hs (some n)).1 ns).2)
def nones (n : Nat) : List (Option Int) := List.replicate n none
/-- filled from the front -/
def Fill (hs : List (Option Int)) : Prop := ∃ (xs : List Int) (n : Nat), hs = xs.map some ++ nones n
/-! ### what the text's own defs promise -/
def NewCh (K : PySem.W.Frag) (H : Hp) (rs : List Rule) (Q : VK) : Prop := ∀ (x : Addr) (H' : Hp), H x = none → Same H H' → ChainAt K H' x rs → Q (.ref x) H'
def txtOf (rs : List Rule) : Str := Txt.join (" " : Str) (rs.map Rule.label)
def spNear (K : PySem.W.Frag) : Sp := fun vs H Q _ => ∃ m : Int, vs = [.str (Rule.near m).label] ∧ numOk m ∧ ∀ (a : Addr) (H' : Hp), H a = none → Same H H' → CellAt K H' a (.near m) → Q (.ref a) H'
def spCellOf (K : PySem.W.Frag) : Sp := fun vs H Q _ => ∃ r : Rule, vs = [.str r.label] ∧ r.ok ∧ ∀ (a : Addr) (H' : Hp), H a = none → Same H H' → CellAt K H' a r → Q (.ref a) H'
def spCheck (K : PySem.W.Frag) : Sp := fun vs H Q _ => ∃ (a : Addr) (ns : List Int) (L : Int), vs = [.ref a, .int L] ∧ H a = some (.lst (ns.map V.int)) ∧ (ns.length : Int) ≤ L ∧ (∀ z ∈ ns, numOk z) ∧ ∀ H', Same H H' → Q .non H'
def spInitB (K : PySem.W.Frag) : Sp := fun vs H Q _ => ∃ (x dx t : Addr) (as : List Addr) (rs : List Rule), vs = [.ref x, .ref t] ∧ H x = some (.ins (ChC K) dx []) ∧ H t = some (.tup (as.map V.ref)) ∧ Cs K H as rs ∧ x ∉ as ∧ 1 ≤ rs.length ∧ rs.length ≤ 8 ∧ ∀ H', Fr1 x H H' → ChainAt K H' x rs → Q .non H'
def spInit (K : PySem.W.Frag) : Sp := fun vs H Q _ => ∃ (x dx : Addr) (as : List Addr) (rs : List Rule), vs = .ref x :: as.map V.ref ∧ H x = some (.ins (ChC K) dx []) ∧ Cs K H as rs ∧ x ∉ as ∧ 1 ≤ rs.length ∧ rs.length ≤ 8 ∧ ∀ H', Fr1 x H H' → ChainAt K H' x rs → Q .non H'
def spParse (K : PySem.W.Frag) : Sp := fun vs H Q _ => ∃ rs : List Rule, vs = [.ref (ChC K), .str (txtOf rs)] ∧ (∀ r ∈ rs, r.ok) ∧ 1 ≤ rs.length ∧ rs.length ≤ 8 ∧ NewCh K H rs Q
def spText (K : PySem.W.Frag) : Sp := fun vs H Q _ => ∃ (c : Addr) (rs : List Rule), vs = [.ref c] ∧ ChainAt K H c rs ∧ ∀ H', Same H H' → Q (.str (txtOf rs)) H'
def spEmpty (K : PySem.W.Frag) : Sp := fun vs H Q _ => ∃ (c : Addr) (rs : List Rule), vs = [.ref c] ∧ ChainAt K H c rs ∧ ∀ (p : Addr) (H' : Hp), H p = none → Same H H' → H' p = some (.tup ((nones rs.length).map ov)) → Q (.ref p) H'
def spStep (K : PySem.W.Frag) : Sp := fun vs H Q _ => ∃ (c h : Addr) (n : Int) (rs : List Rule) (hs : List (Option Int)), vs = [.ref c, .ref h, .int n] ∧ ChainAt K H c rs ∧ H h = some (.tup (hs.map ov)) ∧ hs.length = rs.length ∧ Fill hs ∧
  ∀ (p k : Addr) (H' : Hp), H p = none → H k = none → p ≠ k → Same H H' → H' p = some (.tup [.ref k, ov (stepR rs hs (some n)).2]) → H' k = some (.tup ((stepR rs hs (some n)).1.map ov)) → Q (.ref p) H'
/-- what a row gives: a new pair of a new list and a new tuple -/
def NewRun (H : Hp) (rs : List Rule) (ns : List Int) (Q : VK) : Prop := ∀ (p o h : Addr) (H' : Hp), H p = none → H o = none → H h = none → Same H H' → H' p = some (.tup [.ref o, .ref h]) →
  H' o = some (.lst ((runR rs (nones rs.length) ns).1.map ov)) → H' h = some (.tup ((runR rs (nones rs.length) ns).2.map ov)) → Q (.ref p) H'
def spChCall (K : PySem.W.Frag) : Sp := fun vs H Q _ => ∃ (c a : Addr) (rs : List Rule) (ns : List Int), vs = [.ref c, .ref a] ∧ ChainAt K H c rs ∧ H a = some (.lst (ns.map V.int)) ∧ ns.length ≤ 1000 ∧ (∀ z ∈ ns, numOk z) ∧ NewRun H rs ns Q
def spLen (K : PySem.W.Frag) : Sp := fun vs H Q _ => ∃ (c : Addr) (rs : List Rule), vs = [.ref c] ∧ ChainAt K H c rs ∧ Q (.int rs.length) H
def spItem (K : PySem.W.Frag) : Sp := fun vs H Q _ => ∃ (c : Addr) (rs : List Rule) (i : Nat) (r : Rule), vs = [.ref c, .int i] ∧ ChainAt K H c rs ∧ rs[i]? = some r ∧ ∀ a, CellAt K H a r → Q (.ref a) H
def spShift (K : PySem.W.Frag) : Sp := fun vs H Q _ => ∃ (c d : Addr) (rs qs : List Rule), vs = [.ref c, .ref d] ∧ ChainAt K H c rs ∧ ChainAt K H d qs ∧ rs.length + qs.length ≤ 8 ∧ NewCh K H (rs ++ qs) Q
def spChNeg (K : PySem.W.Frag) : Sp := fun vs H Q _ => ∃ (c : Addr) (rs : List Rule), vs = [.ref c] ∧ ChainAt K H c rs ∧ NewCh K H (rs.map Rule.neg) Q
def spChEq (K : PySem.W.Frag) : Sp := fun vs H Q _ => ∃ (c d : Addr) (rs qs : List Rule), vs = [.ref c, .ref d] ∧ ChainAt K H c rs ∧ ChainAt K H d qs ∧ Q (.bl (decide (rs = qs))) H
/-- what the written part says of Chain -/
structure Chains (K : PySem.W.Frag) (mg : Str → Option Value) : Prop where
  cls : Cls K (ChC K)
  isi : Isi K (ChC K)
  glo : mg "Chain" = some (.ref (ChC K))
  make : Mk K (ChC K) (He.ma K (ChC K) "__init__")
  noC : NoAttr K (ChC K) "cells"
  maxI : ∃ u, Con K (ChC K) "MAX_CELLS" (.int 8) u
  maxC : ∃ u, ClX.CVal K (ChC K) (.type "type") "MAX_CELLS" (.int 8) u
  rd : ClX.CRead K (ChC K) (.type "type")
  par : ClX.CMet K (ChC K) (.type "type") "parse" (cmP K "Chain" "parse") (cgA K "Chain" "parse")
  slf : PySem.W.selfFirst K (ChC K) = true
  kit : PySem.W.kitOne K (.ref (ChC K)) (.ref (ChC K)) = some true
  text : PropOf K (ChC K) "text" (He.ma K (ChC K) "text") (pgA K "Chain" "text")
  empty : PropOf K (ChC K) "empty" (He.ma K (ChC K) "empty") (pgA K "Chain" "empty")
  step : Meth K (ChC K) "step" (He.ma K (ChC K) "step")
  call : Spec K (ChC K) "__call__" (He.ma K (ChC K) "__call__")
  len : Spec K (ChC K) "__len__" (He.ma K (ChC K) "__len__")
  item : Spec K (ChC K) "__getitem__" (He.ma K (ChC K) "__getitem__")
  shift : Spec K (ChC K) "__rshift__" (He.ma K (ChC K) "__rshift__")
  neg : Spec K (ChC K) "__neg__" (He.ma K (ChC K) "__neg__")
  eq : Spec K (ChC K) "__eq__" (He.ma K (ChC K) "__eq__")
  ne : PySem.W.findIn K (.ref (ChC K)) "__ne__" = some (some (.builtin "object.__ne__"))
theorem ChainAt.ty {K : PySem.W.Frag} {mg : Str → Option Value} {H : Hp} {a : Addr} {rs : List Rule} (T : Chains K mg) (c : ChainAt K H a rs) : TyX K H (.ref a) (.ref (ChC K)) := by
  obtain ⟨dx, t, as, h1, _⟩ := c
  exact .base (.ins h1 T.cls T.isi.ha T.isi.hn T.isi.ht T.isi.hm)
end SC
set_option maxRecDepth 100000
set_option maxHeartbeats 2000000
/-! # Part N: labels read back -/
namespace SC
open PySem PySem.Spec PyProof.Rows L2 TL
theorem rem_hit {x y : Str} {z : List Nat} (e : tl x = tl y ++ z) (hy : tl y ≠ []) : tl (Txt.removeprefix x y) = z := by
  have hs : PySem.Builtin.Str.subAt x y 0 = true := by
    rw [PySem.StrLaws.subAt_eq, List.drop_zero]
    show ((tl x).take y.length == tl y) = true
    rw [e, len_tl y, List.take_left]
    simp
  have l1 : x.length = y.length + z.length := by
    rw [len_tl x, e, List.length_append, len_tl y]
  have l2 : 0 < y.length := by
    rw [len_tl y]
    exact List.length_pos_iff.mpr hy
  have e1 : Txt.removeprefix x y = PySem.Builtin.Str.strSub x y.length x.length := by
    unfold Txt.removeprefix
    rw [if_pos hs]
    unfold Txt.affix
    dsimp only
    rw [if_neg (by simp; omega)]
  rw [e1, tl_strSub_end, e, len_tl y, List.drop_left]
theorem rem_miss {x y : Str} (h : (tl x).take (tl y).length ≠ tl y) : Txt.removeprefix x y = x := by
  have hs : PySem.Builtin.Str.subAt x y 0 = false := by
    rw [PySem.StrLaws.subAt_eq, List.drop_zero]
    show ((tl x).take y.length == tl y) = false
    rw [len_tl y]
    simpa using h
  unfold Txt.removeprefix
  rw [hs]
  rfl
theorem minus_tl : tl ("-" : Str) = [45] := by decide +kernel
theorem nearS_tl : tl ("near:" : Str) = [110, 101, 97, 114, 58] := by decide +kernel
theorem rem_near (m : Int) : Txt.removeprefix (Rule.near m).label ("near:" : Str) = numS m := by
  apply ext_tl
  rw [numS_tl]
  refine rem_hit ?_ (by rw [nearS_tl]; simp)
  rw [nearS_tl]
  exact near_tl m
/-- the digits behind the sign -/
theorem rem_minus (m : Int) : tl (Txt.removeprefix (numS m) ("-" : Str)) = numL m.natAbs := by
  by_cases h : m < 0
  · refine rem_hit ?_ (by rw [minus_tl]; simp)
    rw [minus_tl, numS_tl]
    unfold numZ
    rw [if_pos h]
    rfl
  · have e : numZ m = numL m.natAbs := if_neg h
    rw [rem_miss, numS_tl, e]
    rw [numS_tl, e, minus_tl]
    intro z
    have hd := numL_digits m.natAbs
    have hm : (45 : Nat) ∈ numL m.natAbs := by
      have : (45 : Nat) ∈ (numL m.natAbs).take [45].length := by
        rw [z]
        simp
      exact List.mem_of_mem_take this
    have := hd 45 hm
    omega
theorem digit_all {x : Str} {n : Nat} (e : tl x = numL n) : Txt.isascii x = true ∧ Txt.isdigit x = true := by
  have hd := numL_digits n
  have key : ∀ p : Nat → Bool, (∀ c, 48 ≤ c → c ≤ 57 → p c = true) → x.cps.all p = true := fun p hp => by
    rw [← Array.all_toList]
    show (tl x).all p = true
    rw [e, List.all_eq_true]
    intro c hc
    exact hp c (hd c hc).1 (hd c hc).2
  constructor
  · exact key _ fun c h1 h2 => decide_eq_true (by omega)
  · unfold Txt.isdigit
    rw [key _ fun c h1 h2 => ?_]
    · have hl : 0 < x.length := by
        rw [len_tl x, e]
        exact List.length_pos_iff.mpr (numL_ne n)
      simpa using hl
    · rw [PyProof.Rows.cls_isdigit c (by omega)]
      have : c = 48 ∨ c = 49 ∨ c = 50 ∨ c = 51 ∨ c = 52 ∨ c = 53 ∨ c = 54 ∨ c = 55 ∨ c = 56 ∨ c = 57 := by omega
      rcases this with rfl | rfl | rfl | rfl | rfl | rfl | rfl | rfl | rfl | rfl <;> decide +kernel
theorem digit_len {x : Str} {m : Int} (e : tl x = numL m.natAbs) (h : numOk m) : x.length ≤ 10 := by
  rw [len_tl x, e]
  obtain ⟨h1, h2⟩ := h
  exact numL_len (k := 10) (by decide) (by omega)
theorem starts_near (m : Int) : Txt.startswith (Rule.near m).label ("near:" : Str) = true := by
  have l : (Rule.near m).label.length = 5 + (numZ m).length := by
    show (("near:" : Str) ++ numS m).length = _
    rw [len_tl, near_tl, List.length_append]
    rfl
  have hs : PySem.Builtin.Str.subAt (Rule.near m).label ("near:" : Str) 0 = true := by
    rw [PySem.StrLaws.subAt_eq, List.drop_zero]
    show ((tl (("near:" : Str) ++ numS m)).take ("near:" : Str).length == tl ("near:" : Str)) = true
    rw [near_tl, len_tl ("near:" : Str), nearS_tl]
    simp
  unfold Txt.startswith
  rw [hs, l, len_tl ("near:" : Str), nearS_tl]
  simp
theorem space_tl : tl (" " : Str) = [32] := by decide +kernel
theorem label_free {r : Rule} (h : r.ok) : 32 ∉ tl r.label := by
  cases r with
  | near m =>
    show 32 ∉ tl (("near:" : Str) ++ numS m)
    rw [near_tl]
    intro z
    rcases List.mem_append.mp z with z | z
    · simp at z
    · have hd := numL_digits m.natAbs
      unfold numZ at z
      split at z
      · rcases List.mem_cons.mp z with z | z
        · cases z
        · have := hd 32 z
          omega
      · have := hd 32 z
        omega
  | _ => decide +kernel
theorem split_txt {rs : List Rule} (hn : 1 ≤ rs.length) (h : ∀ r ∈ rs, r.ok) : Txt.split (txtOf rs) (" " : Str) = rs.map Rule.label := by
  unfold txtOf
  refine TL.split_join (s := 32) (S := []) space_tl (by decide +kernel) ?_ ?_
  · intro z
    have z2 : rs = [] := List.map_eq_nil_iff.mp z
    rw [z2] at hn
    simp at hn
  · intro p hp
    obtain ⟨r, hr, rfl⟩ := List.mem_map.mp hp
    exact label_free (h r hr)
end SC
set_option maxRecDepth 100000
set_option maxHeartbeats 2000000
/-! # Part P: what chains do, as plain mathematics -/
namespace SC
open PySem PySem.Spec PyProof.Rows L2 TL
theorem step_none : ∀ (rs : List Rule) (hs : List (Option Int)), stepR rs hs none = (hs, none)
  | [], _ => by unfold stepR; rfl
  | _ :: _, [] => by unfold stepR; rfl
  | r :: rs, none :: hs => by
    unfold stepR
    rw [step_none rs hs]
  | r :: rs, some h :: hs => by unfold stepR; rfl
theorem step_cn {r : Rule} {rs : List Rule} {hs : List (Option Int)} {c : Option Int} : stepR (r :: rs) (none :: hs) c = (c :: hs, none) := by
  show (c :: (stepR rs hs none).1, (stepR rs hs none).2) = _
  rw [step_none]
theorem step_cs {r : Rule} {rs : List Rule} {h : Int} {hs : List (Option Int)} {c : Int} : stepR (r :: rs) (some h :: hs) (some c) = (some (r.keep h c).1 :: (stepR rs hs (some (r.keep h c).2)).1, (stepR rs hs (some (r.keep h c).2)).2) := by
  conv => lhs; unfold stepR
theorem step_nil {hs : List (Option Int)} {c : Option Int} : stepR [] hs c = (hs, c) := by unfold stepR; rfl
theorem step_len : ∀ (rs : List Rule) (hs : List (Option Int)) (c : Option Int), (stepR rs hs c).1.length = hs.length
  | [], hs, c => by rw [step_nil]
  | r :: rs, [], c => by cases c <;> (unfold stepR; rfl)
  | r :: rs, none :: hs, c => by rw [step_cn]; rfl
  | r :: rs, some h :: hs, none => by rw [step_none]
  | r :: rs, some h :: hs, some c => by
    rw [step_cs, List.length_cons, step_len rs hs, List.length_cons]
theorem step_app : ∀ (rs : List Rule) (hs : List (Option Int)) (c : Option Int) (rs' : List Rule) (hs' : List (Option Int)), rs.length = hs.length →
    stepR (rs ++ rs') (hs ++ hs') c = ((stepR rs hs c).1 ++ (stepR rs' hs' (stepR rs hs c).2).1, (stepR rs' hs' (stepR rs hs c).2).2)
  | [], [], c, rs', hs', _ => by rw [step_nil, List.nil_append, List.nil_append]; rfl
  | r :: rs, none :: hs, c, rs', hs', _ => by
    rw [List.cons_append, List.cons_append, step_cn, step_cn, step_none]
    rfl
  | r :: rs, some h :: hs, none, rs', hs', _ => by
    rw [step_none, step_none, step_none]
  | r :: rs, some h :: hs, some c, rs', hs', e => by
    rw [List.cons_append, List.cons_append, step_cs, step_cs, step_app rs hs _ rs' hs' (by simpa using e)]
    rfl
  | [], _ :: _, _, _, _, e => by simp at e
  | _ :: _, [], _, _, _, e => by simp at e
/-- all cells hold a number: one comes out -/
theorem step_full : ∀ (rs : List Rule) (xs : List Int) (c : Int), rs.length = xs.length → ∃ (ys : List Int) (d : Int), stepR rs (xs.map some) (some c) = (ys.map some, some d) ∧ ys.length = xs.length
  | [], [], c, _ => ⟨[], c, step_nil, rfl⟩
  | r :: rs, x :: xs, c, e => by
    obtain ⟨ys, d, e1, e2⟩ := step_full rs xs (r.keep x c).2 (by simpa using e)
    refine ⟨(r.keep x c).1 :: ys, d, ?_, by rw [List.length_cons, e2, List.length_cons]⟩
    rw [List.map_cons, step_cs, e1]
    rfl
  | [], _ :: _, _, e => by simp at e
  | _ :: _, [], _, e => by simp at e
/-- an empty cell behind: none comes out, one more cell holds a number -/
theorem step_more {rs : List Rule} {xs : List Int} {n : Nat} {c : Int} (e : rs.length = xs.length + (n + 1)) : ∃ ys : List Int, stepR rs (xs.map some ++ nones (n + 1)) (some c) = (ys.map some ++ nones n, none) ∧ ys.length = xs.length + 1 := by
  obtain ⟨ys, d, e1, e2⟩ := step_full (rs.take xs.length) xs c (by rw [List.length_take]; omega)
  have er : rs = rs.take xs.length ++ rs.drop xs.length := (List.take_append_drop _ _).symm
  cases ed : rs.drop xs.length with
  | nil =>
    have := congrArg List.length ed
    rw [List.length_drop] at this
    simp at this
    omega
  | cons r rest =>
    rw [ed] at er
    rw [er, step_app _ _ _ _ _ (by rw [List.length_take, List.length_map]; omega), e1]
    refine ⟨ys ++ [d], ?_, by rw [List.length_append, e2]; rfl⟩
    show ((ys.map some) ++ (stepR (r :: rest) (none :: nones n) (some d)).1, (stepR (r :: rest) (none :: nones n) (some d)).2) = _
    rw [step_cn, List.map_append]
    simp
theorem step_fill {rs : List Rule} {hs : List (Option Int)} {c : Int} (f : Fill hs) (e : hs.length = rs.length) : Fill (stepR rs hs (some c)).1 := by
  obtain ⟨xs, n, rfl⟩ := f
  rw [List.length_append, List.length_map, nones, List.length_replicate] at e
  cases n with
  | zero =>
    obtain ⟨ys, d, e1, _⟩ := step_full rs xs c (by omega)
    have e0 : xs.map some ++ nones 0 = xs.map some := List.append_nil _
    rw [e0, e1]
    exact ⟨ys, 0, (List.append_nil _).symm⟩
  | succ n =>
    obtain ⟨ys, e1, _⟩ := step_more (rs := rs) (xs := xs) (n := n) (c := c) (by omega)
    rw [e1]
    exact ⟨ys, n, rfl⟩
theorem fill_nones (n : Nat) : Fill (nones n) := ⟨[], n, rfl⟩
theorem nones_len (n : Nat) : (nones n).length = n := List.length_replicate
theorem run_len (rs : List Rule) : ∀ (ns : List Int) (hs : List (Option Int)), (runR rs hs ns).1.length = ns.length ∧ (runR rs hs ns).2.length = hs.length
  | [], hs => ⟨rfl, rfl⟩
  | n :: ns, hs => by
    obtain ⟨h1, h2⟩ := run_len rs ns (stepR rs hs (some n)).1
    constructor
    · show ((stepR rs hs (some n)).2 :: (runR rs (stepR rs hs (some n)).1 ns).1).length = _
      rw [List.length_cons, h1, List.length_cons]
    · show (runR rs (stepR rs hs (some n)).1 ns).2.length = _
      rw [h2, step_len]
theorem run_app (rs : List Rule) : ∀ (ns ms : List Int) (hs : List (Option Int)), runR rs hs (ns ++ ms) = ((runR rs hs ns).1 ++ (runR rs (runR rs hs ns).2 ms).1, (runR rs (runR rs hs ns).2 ms).2)
  | [], ms, hs => rfl
  | n :: ns, ms, hs => by
    show ((stepR rs hs (some n)).2 :: (runR rs (stepR rs hs (some n)).1 (ns ++ ms)).1, (runR rs (stepR rs hs (some n)).1 (ns ++ ms)).2) = _
    rw [run_app rs ns ms]
    rfl
/-- first nothing comes out, then all -/
theorem run_shape (rs : List Rule) : ∀ (ns : List Int) (xs : List Int) (n : Nat), rs.length = xs.length + n → ∃ ds : List Int, (runR rs (xs.map some ++ nones n) ns).1 = nones (min n ns.length) ++ ds.map some ∧ ds.length = ns.length - n
  | [], xs, n, _ => ⟨[], by rw [List.length_nil, Nat.min_zero]; rfl, by simp⟩
  | m :: ns, xs, 0, e => by
    obtain ⟨ys, d, e1, e2⟩ := step_full rs xs m (by omega)
    obtain ⟨ds, e3, e4⟩ := run_shape rs ns ys 0 (by omega)
    refine ⟨d :: ds, ?_, by simp [e4]⟩
    have e0 : xs.map some ++ nones 0 = xs.map some := List.append_nil _
    have e5 : ys.map some ++ nones 0 = ys.map some := List.append_nil _
    rw [e5] at e3
    rw [e0]
    show (stepR rs (xs.map some) (some m)).2 :: (runR rs (stepR rs (xs.map some) (some m)).1 ns).1 = _
    rw [e1, e3]
    simp [nones]
  | m :: ns, xs, n + 1, e => by
    obtain ⟨ys, e1, e2⟩ := step_more (rs := rs) (xs := xs) (n := n) (c := m) e
    obtain ⟨ds, e3, e4⟩ := run_shape rs ns ys n (by omega)
    refine ⟨ds, ?_, by simp [e4]⟩
    show (stepR rs (xs.map some ++ nones (n + 1)) (some m)).2 :: (runR rs (stepR rs (xs.map some ++ nones (n + 1)) (some m)).1 ns).1 = _
    rw [e1, e3, List.length_cons, Nat.add_min_add_right]
    rfl
/-- what one chain lets out goes into the next one -/
def weave : List (Option Int) → List (Option Int) → List (Option Int)
  | none :: o, q => none :: weave o q
  | some _ :: o, z :: q => z :: weave o q
  | _, _ => []
theorem run_comp (rs qs : List Rule) : ∀ (ns : List Int) (hs ks : List (Option Int)), rs.length = hs.length →
    runR (rs ++ qs) (hs ++ ks) ns = (weave (runR rs hs ns).1 (runR qs ks ((runR rs hs ns).1.filterMap id)).1, (runR rs hs ns).2 ++ (runR qs ks ((runR rs hs ns).1.filterMap id)).2)
  | [], hs, ks, _ => rfl
  | n :: ns, hs, ks, e => by
    show ((stepR (rs ++ qs) (hs ++ ks) (some n)).2 :: (runR (rs ++ qs) (stepR (rs ++ qs) (hs ++ ks) (some n)).1 ns).1, (runR (rs ++ qs) (stepR (rs ++ qs) (hs ++ ks) (some n)).1 ns).2) = _
    have er : (runR rs hs (n :: ns)) = ((stepR rs hs (some n)).2 :: (runR rs (stepR rs hs (some n)).1 ns).1, (runR rs (stepR rs hs (some n)).1 ns).2) := rfl
    rw [step_app rs hs (some n) qs ks e, er]
    have el : rs.length = (stepR rs hs (some n)).1.length := by rw [step_len]; exact e
    cases ed : (stepR rs hs (some n)).2 with
    | none =>
      rw [step_none, run_comp rs qs ns _ _ el]
      rfl
    | some d =>
      rw [run_comp rs qs ns _ _ el]
      rfl
theorem weave_front : ∀ (m : Nat) (ds : List Int) (o : List (Option Int)), o.length = ds.length → weave (nones m ++ ds.map some) o = nones m ++ o
  | 0, [], [], _ => rfl
  | 0, d :: ds, z :: o, e => by
    have h := weave_front 0 ds o (by simpa using e)
    show z :: weave (ds.map some) o = z :: o
    rw [show weave (ds.map some) o = o from h]
  | m + 1, ds, o, e => by
    have h := weave_front m ds o e
    show none :: weave (nones m ++ ds.map some) o = none :: (nones m ++ o)
    rw [h]
  | 0, [], _ :: _, e => by simp at e
  | 0, _ :: _, [], e => by simp at e
theorem filter_front (m : Nat) (ds : List Int) : (nones m ++ ds.map some).filterMap id = ds := by
  rw [List.filterMap_append]
  have h1 : (nones m).filterMap id = [] := by
    induction m with
    | zero => rfl
    | succ m ih =>
      show (none :: nones m).filterMap id = []
      simpa using ih
  have h2 : (ds.map some).filterMap id = ds := by simp
  rw [h1, h2]
  rfl
end SC
set_option maxRecDepth 100000
set_option maxHeartbeats 2000000
/-! # Part Q: tuples of cells, equal or not; a chain's own operators -/
namespace SC
open PySem PySem.Spec PyProof.Rows L2 TL
section
variable {prog : Program} {w : World} {A : Around} {R : Result → Shared → Prop}
/-- == of two tuples, whatever comes out: J i s: the first i items were equal -/
theorem tuple_eqB (l b : Addr) (xs ys : Array Value) (n n2 : Nat) (dd dd2 : Option Addr) (sl sl2 : Array (Option Value)) (J : Nat → Shared → Prop) (Bd : Shared → Prop)
    (turn : ∀ i (h1 : i < xs.size) (h2 : i < ys.size) s, J i s → wpAny (model prog w) A.in1 (eqBool xs[i] ys[i]) (fun r s' => (r = true ∧ J (i + 1) s') ∨ (r = false ∧ Bd s')) (fun e s' => R (.error e) s') s)
    (fin : ∀ s, J (min xs.size ys.size) s → R (.ok (.ret (.bool (xs.size == ys.size)))) s) (bad : ∀ s, Bd s → R (.ok (.ret (.bool false))) s)
    {s : Shared} (hl : s.heap.get? l = some { cls := .type "tuple", dict := dd, data := .seq xs n, slots := sl }) (hb : s.heap.get? b = some { cls := .type "tuple", dict := dd2, data := .seq ys n2, slots := sl2 }) (h : J 0 s) :
    wpAny (model prog w) A.in1 (Builtin.«tuple.__eq__» ⟨[.ref l, .ref b], []⟩) (GQ.FinOf prog w A R) (fun e s' => R (.error e) s') s := by
  have ss := AutoSeq1.sub_tuple_tuple
  have hZ : (xs.toList.zip ys.toList).length = min xs.size ys.size := by simp
  have hJ := h
  obtain ⟨hp, g, d, tk, os⟩ := s
  wp_walk using AutoSeq1.wpAny_loadPart' hl, AutoSeq1.wpAny_loadPart' hb, wpAny_forIn_list _ (fun rest z s' => z.1 = none ∧ ∃ i, rest = (xs.toList.zip ys.toList).drop i ∧ i ≤ min xs.size ys.size ∧ J i s') _
  case turn =>
    rintro ⟨y, x⟩ rest z s' ⟨hz1, i, hz, hi, hI⟩
    have hlt : i < (xs.toList.zip ys.toList).length := by
      rcases Nat.lt_or_ge i (xs.toList.zip ys.toList).length with q | q
      · exact q
      · rw [List.drop_of_length_le q] at hz
        cases hz
    have h1 : i < xs.size := by rw [hZ] at hlt; omega
    have h2 : i < ys.size := by rw [hZ] at hlt; omega
    rw [List.drop_eq_getElem_cons hlt] at hz
    injection hz with hyx hrest
    have hy : y = xs[i] := by simpa using congrArg Prod.fst hyx
    have hx : x = ys[i] := by simpa using congrArg Prod.snd hyx
    subst hy hx
    refine wpAny_bind (wpAny_mono (turn i h1 h2 s' hI) (fun r s2 q2 => ?_) fun _ _ e => e)
    rcases q2 with ⟨hr, q2⟩ | ⟨hr, q2⟩
    · subst hr
      wp_walk
      exact ⟨rfl, i + 1, hrest, by omega, q2⟩
    · subst hr
      wp_walk
      exact bad s2 q2
  case fin =>
    rintro ⟨z1, z2⟩ s' ⟨hz1, i, hz, hi, hI⟩
    simp only at hz1
    subst hz1
    have hge : min xs.size ys.size ≤ i := by
      rcases Nat.lt_or_ge i (xs.toList.zip ys.toList).length with q | q
      · rw [List.drop_eq_getElem_cons q] at hz
        cases hz
      · exact hZ ▸ q
    have ei : i = min xs.size ys.size := by omega
    have hR := fin s' (ei ▸ hI)
    wp_walk
    simpa [Builtin.Tuple.tupleCompareSizes] using hR
  case h => exact ⟨rfl, 0, rfl, Nat.zero_le _, hJ⟩
end
section
variable {X : Cx} {n : Nat}
/-- two cells at one place have one rule -/
theorem CellAt.uniq {K : PySem.W.Frag} {mg : Str → Option Value} {H : Hp} {a : Addr} {r r' : Rule} (T : Cells K mg) (c : CellAt K H a r) (c' : CellAt K H a r') : r = r' := by
  obtain ⟨_, dx, h1⟩ := c
  obtain ⟨_, dy, h2⟩ := c'
  rw [h1] at h2
  have z := Option.some.inj h2
  injection z with z1 z2 z3
  have hk : r.kd = r'.kd := T.inj z1
  cases r with
  | near m =>
    cases r' with
    | near m' =>
      have z4 : [(("mark" : Str), V.int m)] = [(("mark" : Str), V.int m')] := z3
      injection z4 with z5 _
      injection z5 with _ z6
      rw [V.int.inj z6]
    | _ => cases hk
  | _ => cases r' <;> first | rfl | cases hk
theorem env_at {pins : List (Addr × Obj)} {σ : L2.St} {H : Hp} {s : Shared} {A : Around} (sb : Sub X n A) (I : Inv X pins σ H s) : Env0 X.prog X.w X.K X.mg X.base A X.stack s H := by
  have e := I.env0
  exact ⟨by rw [sb.fr]; exact e.frames, e.mod, e.bs, e.bsz, e.funs, e.frf, e.hok, e.bare⟩
/-- == of two cells, below the running body -/
theorem cell_rc {A : Around} {pins : List (Addr × Obj)} {σ : L2.St} {H : Hp} {s : Shared} {a b : Addr} {r r' : Rule} (T : CellsOk X.prog X.w X.K X.mg X.base n) (sb : Sub X n A) (I : Inv X pins σ H s) (ca : CellAt X.K H a r) (cb : CellAt X.K H b r') :
    wpAny (model X.prog X.w) A (richCompare .Eq (.ref a) (.ref b)) (fun v s' => v = .bool (decide (r.label = r'.label)) ∧ Inv X pins σ H s') X.xe s := by
  obtain ⟨ox, od, J⟩ := cell_inst I ca
  obtain ⟨oy, oe, J'⟩ := cell_inst I cb
  obtain ⟨m, hF⟩ := I.fr
  have one : ∀ {x y : Addr} {p q : Rule}, CellAt X.K H x p → CellAt X.K H y q → decide (p.label = q.label) = decide (r.label = r'.label) →
      wpAny (model X.prog X.w) A (call (.ref (He.ma X.K (He.ga X.K p.kd.cn) "__eq__")) [.ref x, .ref y]) (PySem.W.CmpBack (fun v s' => v = .bool (decide (r.label = r'.label)) ∧ Inv X pins σ H s')) X.xe s := fun {x y p q} cx cy e => by
    have hsp : spEq X.K p.kd [.ref x, .ref y] H (fun v H' => v = .bl (decide (p.label = q.label)) ∧ H' = H) E0 := ⟨x, p, .ref y, rfl, rfl, cx, .inl ⟨y, q, rfl, cy, rfl, rfl⟩⟩
    refine wpAny_mono (wpAny_call (SlX.run_at (us := [.ref x, .ref y]) (ws := [.ref x, .ref y]) (T.eq p.kd) sb.room (env_at sb I) pass0 I (.cons rfl (.cons rfl .nil)) hsp)) (fun v s1 z => ?_) fun _ _ e => e
    obtain ⟨yv, H1, I1, r1, ey, eH⟩ := z
    subst ey eH
    obtain rfl : v = Value.bool _ := r1
    rw [e]
    exact ⟨rfl, I1⟩
  have left := one ca cb rfl
  have right := one cb ca (by
    by_cases e : r.label = r'.label
    · rw [decide_eq_true e, decide_eq_true e.symm]
    · rw [decide_eq_false e, decide_eq_false fun z => e z.symm])
  have sc := T.t.eq r.kd
  have sd := T.t.eq r'.kd
  by_cases hk : r.kd = r'.kd
  · exact PySem.W.cmp_K (op := .Eq) (tb := .ref (He.ga X.K r'.kd.cn)) sb.room.units0 hF I.ok.mod.kin J J'.type (by rw [hk]; simp [PySem.W.notFirst]) sc.at_ sc.fn left
  · by_cases h1 : r.kd = .first
    · refine eq_right sb.room.units0 I.kIn J J' (fun z => hk (T.t.inj z)) ?_ sd.at_ sd.fn right
      have z := T.t.sub r'.kd r.kd
      rw [decide_eq_true h1, Bool.or_true] at z
      exact z
    · refine PySem.W.cmp_K (op := .Eq) (tb := .ref (He.ga X.K r'.kd.cn)) sb.room.units0 hF I.ok.mod.kin J J'.type ?_ sc.at_ sc.fn left
      have z := T.t.sub r'.kd r.kd
      rw [decide_eq_false (fun e => hk e.symm), decide_eq_false h1] at z
      unfold PySem.W.notFirst
      rw [z]
      simp
theorem cell_eqB {A : Around} {pins : List (Addr × Obj)} {σ : L2.St} {H : Hp} {s : Shared} {a b : Addr} {r r' : Rule} (T : CellsOk X.prog X.w X.K X.mg X.base n) (sb : Sub X n A) (I : Inv X pins σ H s) (ca : CellAt X.K H a r) (cb : CellAt X.K H b r') :
    wpAny (model X.prog X.w) A (eqBool (.ref a) (.ref b)) (fun v s' => v = decide (r = r') ∧ Inv X pins σ H s') X.xe s := by
  by_cases hab : a = b
  · subst hab
    obtain rfl := ca.uniq T.t cb
    rw [decide_eq_true rfl]
    exact SeqAt.EqAt.same (A := A) (s := s) (.ref a) X.prog X.w X.xe _ ⟨rfl, I⟩
  · refine GQ.eqBool_refG hab (wpAny_mono (cell_rc T sb I ca cb) (fun v s1 z => ?_) fun _ _ e => e)
    obtain ⟨ev, I1⟩ := z
    refine ⟨_, ev, ?_, I1⟩
    by_cases e : r = r'
    · rw [decide_eq_true e, decide_eq_true (by rw [e])]
    · rw [decide_eq_false e, decide_eq_false fun z => e (label_inj ca.1 cb.1 z)]
/-- two tuples of cells -/
def rTupC (K : PySem.W.Frag) : R2 := fun x y H Q => ∃ (t u : Addr) (as bs : List Addr) (rs qs : List Rule), x = .ref t ∧ y = .ref u ∧ H t = some (.tup (as.map V.ref)) ∧ H u = some (.tup (bs.map V.ref)) ∧ Cs K H as rs ∧ Cs K H bs qs ∧ Q (.bl (decide (rs = qs))) H
theorem vals_ref : ∀ {as : List Addr} {us : List Value}, Vals (as.map V.ref) us → us = as.map Value.ref
  | [], _, .nil => rfl
  | a :: as, _, .cons r t => by
    rw [vals_ref t]
    obtain rfl := (show _ = Value.ref a from r)
    rfl
theorem op_eqTC (T : CellsOk X.prog X.w X.K X.mg X.base n) (hr : Room (n + 1) X.A) : OpR X (compareOp .Eq) (rTupC X.K) := by
  intro pins s σ H x y v u Q I rx ry h
  obtain ⟨t, t2, as, bs, rs, qs, ex, ey, ht, hu, ca, cb, q⟩ := h
  subst ex ey
  obtain rfl : v = Value.ref t := rx
  obtain rfl : u = Value.ref t2 := ry
  show wpAny (model X.prog X.w) X.A (richCompare .Eq (.ref t) (.ref t2)) (EP X pins σ Q) X.xe s
  obtain ⟨its, r1, ⟨⟨c1, d1, dt1, l1⟩, ho, hc, n1, hd⟩, _⟩ := I.tuple (SqT.of ht)
  obtain ⟨its2, r2, ⟨⟨c2, d2, dt2, l2⟩, ho2, hc2, n2, hd2⟩, _⟩ := I.tuple (SqT.of hu)
  simp only at hc hd hc2 hd2
  subst hc hd hc2 hd2
  obtain rfl := vals_ref r1
  obtain rfl := vals_ref r2
  have sb : Sub X (n + 1) X.A := ⟨hr, rfl⟩
  refine wpAny_richCompare_same_room (op := .Eq) ⟨_, ho, rfl⟩ ⟨_, ho2, rfl⟩ F.slot_tuple_eq (GQ.call_here F.slot_tuple_eq ⟨_, ho, rfl⟩ F.entry_tuple_eq (F.args_tuple_eq_2 _ _) ?_) sb.room.units0
  refine tuple_eqB (R := wants (fun v s' => v ≠ .notImplemented ∧ EP X pins σ Q v s') X.xe) t t2 _ _ n1 n2 d1 d2 l1 l2 (fun i s' => Inv X pins σ H s' ∧ rs.take i = qs.take i ∧ i ≤ rs.length ∧ i ≤ qs.length) (fun s' => Inv X pins σ H s' ∧ rs ≠ qs) (fun i h1 h2 s1 z => ?_) (fun s1 z => ?_) (fun s1 z => ?_) ho ho2 ⟨I, rfl, Nat.zero_le _, Nat.zero_le _⟩
  · obtain ⟨I1, et, l1, l2⟩ := z
    have k1 : i < as.length := by simpa using h1
    have k2 : i < bs.length := by simpa using h2
    have m1 : as[i]? = some as[i] := List.getElem?_eq_getElem k1
    have m2 : bs[i]? = some bs[i] := List.getElem?_eq_getElem k2
    have j1 : i < rs.length := by rw [← ca.1]; exact k1
    have j2 : i < qs.length := by rw [← cb.1]; exact k2
    have o1 : rs[i]? = some rs[i] := List.getElem?_eq_getElem j1
    have o2 : qs[i]? = some qs[i] := List.getElem?_eq_getElem j2
    have g1 : (as.map Value.ref).toArray[i] = Value.ref as[i] := by simp
    have g2 : (bs.map Value.ref).toArray[i] = Value.ref bs[i] := by simp
    rw [g1, g2]
    refine wpAny_mono (cell_eqB T sb.in1 I1 (ca.2 i _ _ m1 o1) (cb.2 i _ _ m2 o2)) (fun r s2 z => ?_) fun _ _ e => e
    obtain ⟨er, I2⟩ := z
    by_cases e : rs[i] = qs[i]
    · rw [decide_eq_true e] at er
      refine .inl ⟨er, I2, ?_, by omega, by omega⟩
      rw [take_more o1, take_more o2, et, e]
    · rw [decide_eq_false e] at er
      refine .inr ⟨er, I2, fun z => e ?_⟩
      subst z
      rfl
  · obtain ⟨I1, et, l1, l2⟩ := z
    refine ⟨(fun z => nomatch z), .bl _, H, I1, rfl, ?_⟩
    have e : ((as.map Value.ref).toArray.size == (bs.map Value.ref).toArray.size) = decide (rs = qs) := by
      have s1 : (as.map Value.ref).toArray.size = rs.length := by simp [ca.1]
      have s2 : (bs.map Value.ref).toArray.size = qs.length := by simp [cb.1]
      rw [s1, s2] at et l1 l2 ⊢
      by_cases e : rs.length = qs.length
      · rw [e, Nat.min_self] at et
        rw [← e, List.take_length] at et
        rw [e, List.take_length] at et
        rw [et]
        simp
      · rw [decide_eq_false fun z => e (by rw [z])]
        simpa using e
    rw [e]
    exact q
  · obtain ⟨I1, e⟩ := z
    refine ⟨(fun z => nomatch z), .bl false, H, I1, rfl, ?_⟩
    rw [decide_eq_false e] at q
    exact q
/-! ### what a chain's methods promise, at level n; its operators -/
structure ChainOk (P : Program) (w : World) (K : PySem.W.Frag) (mg : Str → Option Value) (base : Heap) (n : Nat) : Prop where
  t : Chains K mg
  text : ∃ fd ps, FnOk P w K mg base CX0 n (pgA K "Chain" "text") fd ps (spText K) ∧ Binds K fd ps []
  empty : ∃ fd ps, FnOk P w K mg base CX0 n (pgA K "Chain" "empty") fd ps (spEmpty K) ∧ Binds K fd ps []
  call : FnR P w K mg base CX0 n (He.ma K (ChC K) "__call__") (spChCall K)
  len : FnR P w K mg base CX0 n (He.ma K (ChC K) "__len__") (spLen K)
  item : FnR P w K mg base CX0 n (He.ma K (ChC K) "__getitem__") (spItem K)
  shift : FnR P w K mg base CX0 n (He.ma K (ChC K) "__rshift__") (spShift K)
  neg : FnR P w K mg base CX0 n (He.ma K (ChC K) "__neg__") (spChNeg K)
  eq : FnR P w K mg base CX0 n (He.ma K (ChC K) "__eq__") (spChEq K)
theorem chain_inst {pins : List (Addr × Obj)} {σ : L2.St} {H : Hp} {s : Shared} {a : Addr} {rs : List Rule} (I : Inv X pins σ H s) (c : ChainAt X.K H a rs) : ∃ ox od, PySem.W.InstAt s.heap a ox (ChC X.K) od := by
  obtain ⟨dx, t, as, ha, _⟩ := c
  obtain ⟨mA, O, _⟩ := ins_get I.hok ha
  obtain ⟨od, J, _⟩ := O.look
  exact ⟨_, _, J⟩
/-- x >> y -/
def rShift (K : PySem.W.Frag) : R2 := fun x y H Q => ∃ (c d : Addr) (rs qs : List Rule), x = .ref c ∧ y = .ref d ∧ ChainAt K H c rs ∧ ChainAt K H d qs ∧ rs.length + qs.length ≤ 8 ∧ NewCh K H (rs ++ qs) Q
theorem op_shift (T : ChainOk X.prog X.w X.K X.mg X.base n) (hr : Room n X.A) : OpR X (binaryOp .RShift) (rShift X.K) := by
  intro pins s σ H x y v u Q I rx ry h
  obtain ⟨c, d, rs, qs, ex, ey, cc, cd, hl, q⟩ := h
  subst ex ey
  obtain rfl : v = Value.ref c := rx
  obtain rfl : u = Value.ref d := ry
  obtain ⟨ox, od, J⟩ := chain_inst I cc
  obtain ⟨oy, oe, J'⟩ := chain_inst I cd
  obtain ⟨m, hF⟩ := I.fr
  refine PySem.W.binop_K (op := .RShift) hF I.ok.mod.kin J J'.type T.t.slf T.t.shift.at_ T.t.shift.fn ?_
  refine wpAny_mono (wpAny_call (run_fnR (E := E0) (us := [.ref c, .ref d]) (vs := [.ref c, .ref d]) T.shift hr pass0 I (.cons rfl (.cons rfl .nil)) ⟨c, d, rs, qs, rfl, cc, cd, hl, q⟩)) (fun v s1 z => ?_) fun _ _ e => e
  obtain ⟨zv, H1, I1, rz, qz⟩ := z
  exact SlX.cmpback rz ⟨zv, H1, I1, rz, qz⟩
/-- -x -/
def rChNeg (K : PySem.W.Frag) : V → Hp → VK → Prop := fun x H Q => ∃ (c : Addr) (rs : List Rule), x = .ref c ∧ ChainAt K H c rs ∧ NewCh K H (rs.map Rule.neg) Q
theorem un_chneg (T : ChainOk X.prog X.w X.K X.mg X.base n) (hr : Room n X.A) : UnR X (unaryOp .USub) (rChNeg X.K) := by
  intro pins s σ H x v Q I rx h
  obtain ⟨c, rs, ex, cc, q⟩ := h
  subst ex
  obtain rfl : v = Value.ref c := rx
  obtain ⟨ox, od, J⟩ := chain_inst I cc
  obtain ⟨m, hF⟩ := I.fr
  exact PySem.W.ksp_neg hF I.ok.mod.kin J T.t.neg.at_ T.t.neg.fn (wpAny_call (run_fnR (E := E0) (us := [.ref c]) (vs := [.ref c]) T.neg hr pass0 I (.cons rfl .nil) ⟨c, rs, rfl, cc, q⟩))
/-- x == y, x != y -/
def rChEq (K : PySem.W.Frag) : R2 := fun x y H Q => ∃ (c d : Addr) (rs qs : List Rule), x = .ref c ∧ y = .ref d ∧ ChainAt K H c rs ∧ ChainAt K H d qs ∧ Q (.bl (decide (rs = qs))) H
theorem op_cheq (T : ChainOk X.prog X.w X.K X.mg X.base n) (hr : Room n X.A) : OpR X (compareOp .Eq) (rChEq X.K) := by
  intro pins s σ H x y v u Q I rx ry h
  obtain ⟨c, d, rs, qs, ex, ey, cc, cd, q⟩ := h
  subst ex ey
  obtain rfl : v = Value.ref c := rx
  obtain rfl : u = Value.ref d := ry
  obtain ⟨ox, od, J⟩ := chain_inst I cc
  obtain ⟨oy, oe, J'⟩ := chain_inst I cd
  obtain ⟨m, hF⟩ := I.fr
  show wpAny (model X.prog X.w) X.A (richCompare .Eq (.ref c) (.ref d)) (EP X pins σ Q) X.xe s
  refine PySem.W.cmp_K (op := .Eq) (tb := .ref (ChC X.K)) hr.units0 hF I.ok.mod.kin J J'.type (by simp [PySem.W.notFirst]) T.t.eq.at_ T.t.eq.fn ?_
  refine wpAny_mono (wpAny_call (run_fnR (E := E0) (us := [.ref c, .ref d]) (vs := [.ref c, .ref d]) T.eq hr pass0 I (.cons rfl (.cons rfl .nil)) ⟨c, d, rs, qs, rfl, cc, cd, q⟩)) (fun v s1 z => ?_) fun _ _ e => e
  obtain ⟨zv, H1, I1, rz, qz⟩ := z
  exact SlX.cmpback rz ⟨zv, H1, I1, rz, qz⟩
def rChNe (K : PySem.W.Frag) : R2 := fun x y H Q => ∃ (c d : Addr) (rs qs : List Rule), x = .ref c ∧ y = .ref d ∧ ChainAt K H c rs ∧ ChainAt K H d qs ∧ Q (.bl (!decide (rs = qs))) H
theorem op_chne (T : ChainOk X.prog X.w X.K X.mg X.base n) (hr : Room (n + 1) X.A) : OpR X (compareOp .NotEq) (rChNe X.K) := by
  intro pins s σ H x y v u Q I rx ry h
  obtain ⟨c, d, rs, qs, ex, ey, cc, cd, q⟩ := h
  subst ex ey
  obtain rfl : v = Value.ref c := rx
  obtain rfl : u = Value.ref d := ry
  obtain ⟨ox, od, J⟩ := chain_inst I cc
  obtain ⟨oy, oe, J'⟩ := chain_inst I cd
  show wpAny (model X.prog X.w) X.A (richCompare .NotEq (.ref c) (.ref d)) (EP X pins σ Q) X.xe s
  refine ne_own (Nat.lt_of_le_of_lt (Nat.add_le_add_left (by decide : 1 ≤ 64) _) hr.units) I.kIn J J' T.t.isi.hm T.t.ne T.t.eq.at_ T.t.eq.fn ?_
  have sb : Sub X n X.A.in1 := ⟨hr.in1, rfl⟩
  have hsp : spChEq X.K [.ref c, .ref d] H (fun v H' => v = .bl (decide (rs = qs)) ∧ Q (.bl (!decide (rs = qs))) H') E0 := ⟨c, d, rs, qs, rfl, cc, cd, rfl, q⟩
  refine wpAny_mono (wpAny_call (SlX.run_at (us := [.ref c, .ref d]) (ws := [.ref c, .ref d]) T.eq sb.room (env_at sb I) pass0 I (.cons rfl (.cons rfl .nil)) hsp)) (fun v s1 z => ?_) fun _ _ e => e
  obtain ⟨yv, H1, I1, r1, ey, qz⟩ := z
  subst ey
  obtain rfl : v = Value.bool _ := r1
  exact ⟨_, rfl, .bl _, H1, I1, rfl, qz⟩
/-- x[i] -/
def rChIx (K : PySem.W.Frag) : R2 := fun x y H Q => ∃ (c : Addr) (rs : List Rule) (i : Nat) (r : Rule), x = .ref c ∧ y = .int i ∧ ChainAt K H c rs ∧ rs[i]? = some r ∧ ∀ a, CellAt K H a r → Q (.ref a) H
theorem pe_ixC {a b : Expr} {ta tb : TE} {pos : Pos} (T : ChainOk X.prog X.w X.K X.mg X.base n) (hr : Room (n + 1) X.A) (ha : PE X a ta) (hb : PE X b tb)
    (hsl : ∀ v u, subscripted b true v u = runValue (.builtin "lifetime.subscript" ⟨[v, u], []⟩) := by intro _ _; with_unfolding_all rfl) : PE X (.Subscript a b pos) (tOp (rChIx X.K) ta tb) := by
  refine ⟨fun pins s0 σ H0 Q I0 h0 => Subscript_ (binT ha hb I0 h0 fun v u s x y H I rx ry h => ?_)⟩
  obtain ⟨c, rs, i, r, ex, ey, cc, hi, q⟩ := h
  subst ex ey
  obtain rfl : v = Value.ref c := rx
  obtain ⟨ox, od, J⟩ := chain_inst I cc
  obtain ⟨m, hF⟩ := I.fr
  have sb : Sub X n X.A.in1 := ⟨hr.in1, rfl⟩
  obtain ⟨tk, rfl⟩ := ry
  refine PySem.W.sub_K hF I.ok.mod.kin J T.t.item.at_ T.t.item.fi T.t.item.fn ?_ (hsl _ _)
  exact wpAny_call (SlX.run_at (us := [.ref c, .int i tk]) (ws := [.ref c, .int i]) T.item sb.room (env_at sb I) pass0 (E := E0) I (.cons rfl (.cons ⟨tk, rfl⟩ .nil)) ⟨c, rs, i, r, rfl, cc, hi, q⟩)
/-- len(x) -/
theorem call_lenC (T : ChainOk X.prog X.w X.K X.mg X.base n) (hr : Room (n + 1) X.A) : CallR X (.builtin "len") (fun xs H Q => ∃ (c : Addr) (rs : List Rule), xs = [.ref c] ∧ ChainAt X.K H c rs ∧ Q (.int rs.length) H) := by
  intro pins s σ H xs us Q I r h
  obtain ⟨c, rs, ex, cc, q⟩ := h
  subst ex
  obtain ⟨u, eu, ru⟩ := r.one
  subst eu
  obtain rfl : u = Value.ref c := ru
  obtain ⟨ox, od, J⟩ := chain_inst I cc
  obtain ⟨m, hF⟩ := I.fr
  have sb : Sub X n X.A.in1 := ⟨hr.in1, rfl⟩
  have h8 : rs.length ≤ 8 := by
    obtain ⟨_, _, _, _, _, _, _, z⟩ := cc
    exact z
  refine PySem.W.len_K hF I.ok.mod.kin J T.t.len.at_ T.t.len.fn ?_
  have hsp : spLen X.K [.ref c] H (fun v H' => v = .int rs.length ∧ Q (.int rs.length) H') E0 := ⟨c, rs, rfl, cc, rfl, q⟩
  refine wpAny_mono (wpAny_call (SlX.run_at (us := [.ref c]) (ws := [.ref c]) T.len sb.room (env_at sb I) pass0 I (.cons rfl .nil) hsp)) (fun v s1 z => ?_) fun _ _ e => e
  obtain ⟨yv, H1, I1, r1, ey, qz⟩ := z
  subst ey
  obtain ⟨tk, rfl⟩ := r1
  exact ⟨⟨by omega, by omega⟩, .int rs.length, H1, I1.tok _, ⟨_, rfl⟩, qz⟩
end
end SC
set_option maxRecDepth 100000
set_option maxHeartbeats 2000000
/-! # Part R: lists and tuples of numbers and None, of labels, compared as data -/
namespace SC
open PySem PySem.Spec PyProof.Rows L2 TL
def oD : Option Int → PyData
  | none => .none
  | some i => .int i
theorem dp_ov {K : PySem.W.Frag} {H : Hp} : ∀ os : List (Option Int), DpAll K H (os.map ov) (os.map oD)
  | [] => .nil
  | none :: os => .cons .non (dp_ov os)
  | some i :: os => .cons (.int i) (dp_ov os)
theorem lay_ov : ∀ os : List (Option Int), PyData.canLayAll0 (os.map oD) = true ∧ PyData.depthAll (os.map oD) = 0
  | [] => ⟨by unfold PyData.canLayAll0; rfl, by unfold PyData.depthAll; rfl⟩
  | o :: os => by
    obtain ⟨h1, h2⟩ := lay_ov os
    have a1 : PyData.canLay0 (oD o) = true := by cases o <;> (unfold oD PyData.canLay0; rfl)
    have a2 : PyData.depth (oD o) = 0 := by cases o <;> (unfold oD PyData.depth; rfl)
    constructor
    · rw [List.map_cons]
      unfold PyData.canLayAll0
      rw [a1, h1]
      rfl
    · rw [List.map_cons]
      unfold PyData.depthAll
      rw [a2, h2]
      rfl
theorem shp_list (os : List (Option Int)) : SeqAt.shaped (.list (os.map oD)) = true := by
  obtain ⟨h1, h2⟩ := lay_ov os
  unfold SeqAt.shaped PyData.canLay0 PyData.depth
  rw [h1, h2]
  rfl
theorem shp_tup (os : List (Option Int)) : SeqAt.shaped (.tuple (os.map oD)) = true := by
  obtain ⟨h1, h2⟩ := lay_ov os
  unfold SeqAt.shaped PyData.canLay0 PyData.depth
  rw [h1, h2]
  rfl
theorem shp_pair (os ps : List (Option Int)) : SeqAt.shaped (.tuple [.list (os.map oD), .tuple (ps.map oD)]) = true := by
  obtain ⟨h1, h2⟩ := lay_ov os
  obtain ⟨h3, h4⟩ := lay_ov ps
  have c : PyData.canLay0 (.tuple [.list (os.map oD), .tuple (ps.map oD)]) = true := by
    simp only [PyData.canLay0, PyData.canLayAll0, h1, h3]
    rfl
  have d : PyData.depth (.tuple [.list (os.map oD), .tuple (ps.map oD)]) = 2 := by
    simp only [PyData.depth, PyData.depthAll, h2, h4]
    rfl
  unfold SeqAt.shaped
  rw [c, d]
  rfl
theorem eqv_self {d : PyData} (h : SeqAt.shaped d = true) : PyData.eqv d d = true := SeqAt.eqv_refl d (SeqAt.canLay_of_shaped h)
/-! ### labels -/
def lD (rs : List Rule) : List PyData := rs.map fun r => .str r.label
theorem dp_lb {K : PySem.W.Frag} {H : Hp} : ∀ rs : List Rule, DpAll K H ((rs.map Rule.label).map V.str) (lD rs)
  | [] => .nil
  | r :: rs => .cons (.str _) (dp_lb rs)
theorem label_small {r : Rule} : PyData.strOk r.label = true := by
  have key : ∀ c ∈ tl r.label, c < 1114112 := by
    cases r with
    | near m =>
      show ∀ c ∈ tl (("near:" : Str) ++ numS m), c < 1114112
      rw [near_tl]
      intro c hc
      rcases List.mem_append.mp hc with z | z
      · simp at z
        omega
      · have hd := numL_digits m.natAbs
        unfold numZ at z
        split at z
        · rcases List.mem_cons.mp z with z | z
          · omega
          · have := hd c z
            omega
        · have := hd c z
          omega
    | _ => decide +kernel
  unfold PyData.strOk
  rw [← Array.all_toList, List.all_eq_true]
  exact fun c hc => decide_eq_true (key c hc)
theorem lay_lb : ∀ rs : List Rule, PyData.canLayAll0 (lD rs) = true ∧ PyData.depthAll (lD rs) = 0
  | [] => ⟨by unfold lD PyData.canLayAll0; rfl, by unfold lD PyData.depthAll; rfl⟩
  | r :: rs => by
    obtain ⟨h1, h2⟩ := lay_lb rs
    constructor
    · show PyData.canLayAll0 (.str r.label :: lD rs) = true
      unfold PyData.canLayAll0 PyData.canLay0
      rw [h1, label_small]
      rfl
    · show PyData.depthAll (.str r.label :: lD rs) = 0
      unfold PyData.depthAll PyData.depth
      rw [h2]
      rfl
theorem shp_lb (rs : List Rule) : SeqAt.shaped (.list (lD rs)) = true := by
  obtain ⟨h1, h2⟩ := lay_lb rs
  unfold SeqAt.shaped PyData.canLay0 PyData.depth
  rw [h1, h2]
  rfl
theorem eqv_lb : ∀ {rs qs : List Rule}, (∀ r ∈ rs, r.ok) → (∀ r ∈ qs, r.ok) → PyData.eqvAll (lD rs) (lD qs) = decide (rs = qs)
  | [], [], _, _ => by unfold lD PyData.eqvAll; rfl
  | [], q :: qs, _, _ => by
    show PyData.eqvAll [] (.str q.label :: lD qs) = _
    unfold PyData.eqvAll
    simp
  | r :: rs, [], _, _ => by
    show PyData.eqvAll (.str r.label :: lD rs) [] = _
    unfold PyData.eqvAll
    simp
  | r :: rs, q :: qs, h, h' => by
    show PyData.eqvAll (.str r.label :: lD rs) (.str q.label :: lD qs) = _
    have ih := eqv_lb (fun z hz => h z (List.mem_cons_of_mem _ hz)) (fun z hz => h' z (List.mem_cons_of_mem _ hz))
    unfold PyData.eqvAll PyData.eqv
    rw [ih]
    by_cases e : r = q
    · subst e
      simp
    · have ne : (r.label == q.label) = false := by
        simp only [beq_eq_false_iff_ne, ne_eq]
        exact fun z => e (label_inj (h r List.mem_cons_self) (h' q List.mem_cons_self) z)
      rw [ne, decide_eq_false fun z => e (List.cons.inj z).1]
      rfl
end SC
set_option maxRecDepth 100000
set_option maxHeartbeats 2000000
/-! # Part S: chains one behind another, as mathematics -/
namespace SC
open PySem PySem.Spec PyProof.Rows L2 TL
/-- the numbers that came out -/
def outsOf (rs : List Rule) (ns : List Int) : List Int := (runR rs (nones rs.length) ns).1.filterMap id
theorem keep_pred {P : Int → Prop} (r : Rule) {h c : Int} (hh : P h) (hc : P c) : P (r.keep h c).1 ∧ P (r.keep h c).2 := by
  cases r with
  | first => exact ⟨hh, hc⟩
  | last => exact ⟨hc, hh⟩
  | less =>
    unfold Rule.keep
    dsimp only
    split
    · exact ⟨hc, hh⟩
    · exact ⟨hh, hc⟩
  | greater =>
    unfold Rule.keep
    dsimp only
    split
    · exact ⟨hc, hh⟩
    · exact ⟨hh, hc⟩
  | near m =>
    unfold Rule.keep
    dsimp only
    split
    · exact ⟨hc, hh⟩
    · exact ⟨hh, hc⟩
theorem step_pred {P : Int → Prop} : ∀ (rs : List Rule) (hs : List (Option Int)) (c : Option Int), (∀ x, some x ∈ hs → P x) → (∀ x, c = some x → P x) →
    (∀ x, some x ∈ (stepR rs hs c).1 → P x) ∧ ∀ x, (stepR rs hs c).2 = some x → P x
  | [], hs, c, h1, h2 => by
    rw [step_nil]
    exact ⟨h1, h2⟩
  | r :: rs, [], c, h1, h2 => by
    have e : stepR (r :: rs) [] c = ([], c) := by cases c <;> (unfold stepR; rfl)
    rw [e]
    exact ⟨h1, h2⟩
  | r :: rs, none :: hs, c, h1, h2 => by
    rw [step_cn]
    refine ⟨fun x hx => ?_, fun x hx => by cases hx⟩
    rcases List.mem_cons.mp hx with z | z
    · exact h2 x z.symm
    · exact h1 x (List.mem_cons_of_mem _ z)
  | r :: rs, some h :: hs, none, h1, h2 => by
    rw [step_none]
    exact ⟨h1, fun x hx => by cases hx⟩
  | r :: rs, some h :: hs, some c, h1, h2 => by
    rw [step_cs]
    have kp := keep_pred (P := P) r (h1 h List.mem_cons_self) (h2 c rfl)
    obtain ⟨a1, a2⟩ := step_pred rs hs (some (r.keep h c).2) (fun x hx => h1 x (List.mem_cons_of_mem _ hx)) (fun x hx => by cases hx; exact kp.2)
    refine ⟨fun x hx => ?_, a2⟩
    rcases List.mem_cons.mp hx with z | z
    · cases z
      exact kp.1
    · exact a1 x z
theorem run_pred {P : Int → Prop} (rs : List Rule) : ∀ (ns : List Int) (hs : List (Option Int)), (∀ x, some x ∈ hs → P x) → (∀ x ∈ ns, P x) → ∀ x, some x ∈ (runR rs hs ns).1 → P x
  | [], hs, _, _, x, hx => by cases hx
  | n :: ns, hs, h1, h2, x, hx => by
    obtain ⟨a1, a2⟩ := step_pred rs hs (some n) h1 (fun y hy => by cases hy; exact h2 n List.mem_cons_self)
    have hx : some x ∈ (stepR rs hs (some n)).2 :: (runR rs (stepR rs hs (some n)).1 ns).1 := hx
    rcases List.mem_cons.mp hx with z | z
    · exact a2 x z.symm
    · exact run_pred rs ns _ a1 (fun y hy => h2 y (List.mem_cons_of_mem _ hy)) x z
theorem outs_num {rs : List Rule} {ns : List Int} (h : ∀ z ∈ ns, numOk z) : ∀ z ∈ outsOf rs ns, numOk z := fun z hz => by
  unfold outsOf at hz
  rw [List.mem_filterMap] at hz
  obtain ⟨o, ho, e⟩ := hz
  have e2 : o = some z := e
  rw [e2] at ho
  refine run_pred (P := numOk) rs ns _ (fun x hx => ?_) h z ho
  unfold nones at hx
  rw [List.mem_replicate] at hx
  cases hx.2
theorem outs_len (rs : List Rule) (ns : List Int) : (outsOf rs ns).length ≤ ns.length := by
  unfold outsOf
  have h := List.length_filterMap_le id (runR rs (nones rs.length) ns).1
  rw [(run_len rs ns (nones rs.length)).1] at h
  exact h
theorem nones_add (m n : Nat) : nones (m + n) = nones m ++ nones n := by
  unfold nones
  rw [List.replicate_append_replicate]
theorem run_join (rs qs : List Rule) (ns : List Int) :
    (runR (rs ++ qs) (nones (rs ++ qs).length) ns).1 = nones (ns.length - (outsOf rs ns).length) ++ (runR qs (nones qs.length) (outsOf rs ns)).1 ∧
    (runR (rs ++ qs) (nones (rs ++ qs).length) ns).2 = (runR rs (nones rs.length) ns).2 ++ (runR qs (nones qs.length) (outsOf rs ns)).2 := by
  obtain ⟨ds, e1, e2⟩ := run_shape rs ns [] rs.length (by simp)
  have e1 : (runR rs (nones rs.length) ns).1 = nones (min rs.length ns.length) ++ ds.map some := e1
  have eo : outsOf rs ns = ds := by
    unfold outsOf
    rw [e1, filter_front]
  have ec := run_comp rs qs ns (nones rs.length) (nones qs.length) (nones_len _).symm
  rw [List.length_append, nones_add, ec]
  have e3 : (runR rs (nones rs.length) ns).1.filterMap id = ds := eo
  rw [e3, eo]
  constructor
  · show weave (runR rs (nones rs.length) ns).1 _ = _
    rw [e1, weave_front _ _ _ (run_len qs ds (nones qs.length)).1, e2]
    congr 2
    omega
  · rfl
theorem run_twice (rs : List Rule) (ns : List Int) : (runR rs (nones rs.length) (ns ++ ns)).1.take ns.length = (runR rs (nones rs.length) ns).1 := by
  rw [run_app]
  have l := (run_len rs ns (nones rs.length)).1
  show ((runR rs (nones rs.length) ns).1 ++ _).take ns.length = _
  rw [← l, List.take_left]
end SC
set_option maxRecDepth 100000
set_option maxHeartbeats 2000000
/-! # Part T: chains of one rule; opposite chains; nothing is lost -/
namespace SC
open PySem PySem.Spec PyProof.Rows L2 TL
/-! ### less: the smallest ones in order -/
def insL (c : Int) : List Int → List Int
  | [] => [c]
  | x :: xs => if c < x then c :: insL x xs else x :: insL c xs
theorem insL_len : ∀ (xs : List Int) (c : Int), (insL c xs).length = xs.length + 1
  | [], c => rfl
  | x :: xs, c => by
    unfold insL
    split
    · rw [List.length_cons, insL_len xs, List.length_cons]
    · rw [List.length_cons, insL_len xs, List.length_cons]
theorem insL_perm : ∀ (xs : List Int) (c : Int), (insL c xs).Perm (c :: xs)
  | [], c => List.Perm.refl _
  | x :: xs, c => by
    unfold insL
    split
    · exact (insL_perm xs x).cons c
    · exact ((insL_perm xs c).cons x).trans (List.Perm.swap c x xs)
theorem insL_low : ∀ (xs : List Int) (c y : Int), y ≤ c → (∀ z ∈ xs, y ≤ z) → ∀ z ∈ insL c xs, y ≤ z := fun xs c y h1 h2 z hz => by
  rcases List.mem_cons.mp ((insL_perm xs c).mem_iff.mp hz) with e | e
  · rw [e]
    exact h1
  · exact h2 z e
theorem insL_rise : ∀ (xs : List Int) (c : Int), xs.Pairwise (· ≤ ·) → (insL c xs).Pairwise (· ≤ ·)
  | [], c, _ => List.pairwise_singleton _ c
  | x :: xs, c, h => by
    obtain ⟨h1, h2⟩ := List.pairwise_cons.mp h
    unfold insL
    split
    · rename_i hc
      exact List.pairwise_cons.mpr ⟨insL_low xs x c (by omega) fun z hz => by have := h1 z hz; omega, insL_rise xs x h2⟩
    · rename_i hc
      exact List.pairwise_cons.mpr ⟨insL_low xs c x (by omega) h1, insL_rise xs c h2⟩
theorem insL_take : ∀ (k : Nat) (xs : List Int) (c : Int), (insL c (xs.take k)).take k = (insL c xs).take k
  | 0, xs, c => by rw [List.take_zero, List.take_zero]
  | k + 1, [], c => rfl
  | k + 1, x :: xs, c => by
    rw [List.take_succ_cons]
    unfold insL
    split
    · rw [List.take_succ_cons, List.take_succ_cons, insL_take k xs x]
    · rw [List.take_succ_cons, List.take_succ_cons, insL_take k xs c]
def heldL (k : Nat) (xs : List Int) : List (Option Int) := (xs.take k).map some ++ nones (k - xs.length)
theorem step_less : ∀ (k : Nat) (xs : List Int) (c : Int), (stepR (List.replicate k Rule.less) (heldL k xs) (some c)).1 = heldL k (insL c xs)
  | 0, xs, c => by
    rw [List.replicate_zero, step_nil]
    unfold heldL
    rw [List.take_zero, List.take_zero, Nat.zero_sub, Nat.zero_sub]
  | k + 1, [], c => by
    have e1 : heldL (k + 1) [] = none :: nones k := rfl
    have e2 : heldL (k + 1) [c] = some c :: nones k := by
      unfold heldL
      simp
    rw [e1, List.replicate_succ, step_cn]
    show some c :: nones k = heldL (k + 1) [c]
    rw [e2]
  | k + 1, x :: xs, c => by
    have e1 : heldL (k + 1) (x :: xs) = some x :: heldL k xs := by
      unfold heldL
      rw [List.take_succ_cons, List.length_cons, Nat.add_sub_add_right]
      rfl
    rw [e1, List.replicate_succ, step_cs]
    unfold insL
    split
    · rename_i hc
      have ek : Rule.less.keep x c = (c, x) := if_pos hc
      rw [ek]
      dsimp only
      rw [step_less k xs x]
      unfold heldL
      rw [List.take_succ_cons, List.length_cons, Nat.add_sub_add_right]
      rfl
    · rename_i hc
      have ek : Rule.less.keep x c = (x, c) := if_neg hc
      rw [ek]
      dsimp only
      rw [step_less k xs c]
      unfold heldL
      rw [List.take_succ_cons, List.length_cons, Nat.add_sub_add_right]
      rfl
def sortL (ns : List Int) : List Int := ns.foldl (fun xs c => insL c xs) []
theorem run_less (k : Nat) : ∀ (ns xs : List Int), (runR (List.replicate k Rule.less) (heldL k xs) ns).2 = heldL k (ns.foldl (fun xs c => insL c xs) xs)
  | [], xs => rfl
  | n :: ns, xs => by
    show (runR _ (stepR (List.replicate k Rule.less) (heldL k xs) (some n)).1 ns).2 = _
    rw [step_less, run_less k ns]
    rfl
theorem sort_perm : ∀ (ns xs : List Int), (ns.foldl (fun xs c => insL c xs) xs).Perm (ns ++ xs)
  | [], xs => List.Perm.refl _
  | n :: ns, xs => by
    show (ns.foldl (fun xs c => insL c xs) (insL n xs)).Perm _
    refine (sort_perm ns (insL n xs)).trans ?_
    refine ((insL_perm xs n).append_left ns).trans ?_
    exact List.perm_middle
theorem sort_rise : ∀ (ns xs : List Int), xs.Pairwise (· ≤ ·) → (ns.foldl (fun xs c => insL c xs) xs).Pairwise (· ≤ ·)
  | [], xs, h => h
  | n :: ns, xs, h => sort_rise ns (insL n xs) (insL_rise xs n h)
/-- two rising lists of the same numbers are one -/
theorem rise_one : ∀ {xs ys : List Int}, xs.Perm ys → xs.Pairwise (· ≤ ·) → ys.Pairwise (· ≤ ·) → xs = ys
  | [], ys, p, _, _ => p.nil_eq
  | x :: xs, [], p, _, _ => by
    have := p.length_eq
    simp at this
  | x :: xs, y :: ys, p, h1, h2 => by
    obtain ⟨a1, a2⟩ := List.pairwise_cons.mp h1
    obtain ⟨b1, b2⟩ := List.pairwise_cons.mp h2
    have e : x = y := by
      have m1 : x ∈ y :: ys := p.mem_iff.mp List.mem_cons_self
      have m2 : y ∈ x :: xs := p.mem_iff.mpr List.mem_cons_self
      rcases List.mem_cons.mp m1 with z | z
      · exact z
      · rcases List.mem_cons.mp m2 with u | u
        · exact u.symm
        · have := b1 x z
          have := a1 y u
          omega
    subst e
    rw [rise_one (p.cons_inv) a2 b2]
/-- a chain of `less` holds the smallest numbers in order -/
theorem less_holds {k : Nat} {ns ms : List Int} (p : ms.Perm ns) (h : ms.Pairwise (· ≤ ·)) : (runR (List.replicate k Rule.less) (nones k) ns).2 = (ms.take k).map some ++ nones (k - ms.length) := by
  have e0 : heldL k [] = nones k := by
    unfold heldL
    simp
  have r := run_less k ns []
  rw [e0] at r
  have q := sort_perm ns []
  rw [List.append_nil] at q
  rw [r, rise_one (q.trans p.symm) (sort_rise ns [] List.Pairwise.nil) h]
  rfl
/-! ### opposite chains -/
def ng : Option Int → Option Int
  | none => none
  | some i => some (-i)
theorem keep_neg (r : Rule) (h c : Int) : r.neg.keep (-h) (-c) = (-(r.keep h c).1, -(r.keep h c).2) := by
  cases r with
  | first => rfl
  | last => rfl
  | less =>
    show (if -h < -c then (-c, -h) else (-h, -c)) = (-(if c < h then (c, h) else (h, c)).1, -(if c < h then (c, h) else (h, c)).2)
    by_cases e : c < h
    · rw [if_pos e, if_pos (by omega)]
    · rw [if_neg e, if_neg (by omega)]
  | greater =>
    show (if -c < -h then (-c, -h) else (-h, -c)) = (-(if h < c then (c, h) else (h, c)).1, -(if h < c then (c, h) else (h, c)).2)
    by_cases e : h < c
    · rw [if_pos e, if_pos (by omega)]
    · rw [if_neg e, if_neg (by omega)]
  | near m =>
    show (if absI (-c - -m) < absI (-h - -m) then (-c, -h) else (-h, -c)) = (-(if absI (c - m) < absI (h - m) then (c, h) else (h, c)).1, -(if absI (c - m) < absI (h - m) then (c, h) else (h, c)).2)
    have ab : ∀ i j : Int, absI (-i - -j) = absI (i - j) := fun i j => by
      unfold absI
      split <;> split <;> omega
    rw [ab, ab]
    by_cases e : absI (c - m) < absI (h - m)
    · rw [if_pos e, if_pos e]
    · rw [if_neg e, if_neg e]
theorem step_neg : ∀ (rs : List Rule) (hs : List (Option Int)) (c : Option Int), stepR (rs.map Rule.neg) (hs.map ng) (ng c) = ((stepR rs hs c).1.map ng, ng (stepR rs hs c).2)
  | [], hs, c => by
    rw [List.map_nil, step_nil, step_nil]
  | r :: rs, [], c => by
    cases c <;> (unfold stepR; rfl)
  | r :: rs, none :: hs, c => by
    rw [List.map_cons, List.map_cons, step_cn]
    show stepR (r.neg :: rs.map Rule.neg) (none :: hs.map ng) (ng c) = _
    rw [step_cn]
    rfl
  | r :: rs, some h :: hs, none => by
    show stepR _ _ none = _
    rw [step_none, step_none]
    rfl
  | r :: rs, some h :: hs, some c => by
    rw [List.map_cons, List.map_cons, step_cs]
    show stepR (r.neg :: rs.map Rule.neg) (some (-h) :: hs.map ng) (some (-c)) = _
    rw [step_cs, keep_neg]
    have ih := step_neg rs hs (some (r.keep h c).2)
    have ih : stepR (rs.map Rule.neg) (hs.map ng) (some (-(r.keep h c).2)) = _ := ih
    dsimp only
    rw [ih]
    rfl
theorem run_neg (rs : List Rule) : ∀ (ns : List Int) (hs : List (Option Int)), runR (rs.map Rule.neg) (hs.map ng) (ns.map fun z => -z) = ((runR rs hs ns).1.map ng, (runR rs hs ns).2.map ng)
  | [], hs => rfl
  | n :: ns, hs => by
    have s := step_neg rs hs (some n)
    have s : stepR (rs.map Rule.neg) (hs.map ng) (some (-n)) = _ := s
    show ((stepR (rs.map Rule.neg) (hs.map ng) (some (-n))).2 :: (runR (rs.map Rule.neg) (stepR (rs.map Rule.neg) (hs.map ng) (some (-n))).1 (ns.map fun z => -z)).1, (runR (rs.map Rule.neg) (stepR (rs.map Rule.neg) (hs.map ng) (some (-n))).1 (ns.map fun z => -z)).2) = _
    rw [s]
    dsimp only
    rw [run_neg rs ns]
    rfl
theorem nones_ng (n : Nat) : (nones n).map ng = nones n := by
  unfold nones
  rw [List.map_replicate]
  rfl
end SC
set_option maxRecDepth 100000
set_option maxHeartbeats 2000000
/-! # Part U: nothing is lost; `greater`, `last` and `first` -/
namespace SC
open PySem PySem.Spec PyProof.Rows L2 TL
/-! ### nothing is lost -/
def opL : Option Int → List Int
  | none => []
  | some i => [i]
def fl (os : List (Option Int)) : List Int := os.filterMap id
theorem fl_cons (o : Option Int) (os : List (Option Int)) : fl (o :: os) = opL o ++ fl os := by
  cases o <;> rfl
theorem fl_app (os ps : List (Option Int)) : fl (os ++ ps) = fl os ++ fl ps := List.filterMap_append
theorem keep_perm (r : Rule) (h c : Int) : [(r.keep h c).1, (r.keep h c).2].Perm [h, c] := by
  have key : r.keep h c = (h, c) ∨ r.keep h c = (c, h) := by
    cases r with
    | first => exact .inl rfl
    | last => exact .inr rfl
    | less =>
      by_cases e : c < h
      · exact .inr (if_pos e)
      · exact .inl (if_neg e)
    | greater =>
      by_cases e : h < c
      · exact .inr (if_pos e)
      · exact .inl (if_neg e)
    | near m =>
      by_cases e : absI (c - m) < absI (h - m)
      · exact .inr (if_pos e)
      · exact .inl (if_neg e)
  rcases key with e | e
  · rw [e]
  · rw [e]
    exact List.Perm.swap h c []
theorem step_perm : ∀ (rs : List Rule) (hs : List (Option Int)) (c : Option Int), (fl (stepR rs hs c).1 ++ opL (stepR rs hs c).2).Perm (fl hs ++ opL c)
  | [], hs, c => by
    rw [step_nil]
  | r :: rs, [], c => by
    have e : stepR (r :: rs) [] c = ([], c) := by cases c <;> (unfold stepR; rfl)
    rw [e]
  | r :: rs, none :: hs, c => by
    rw [step_cn, fl_cons, fl_cons]
    show (opL c ++ fl hs ++ []).Perm ([] ++ fl hs ++ opL c)
    rw [List.append_nil, List.nil_append]
    exact List.perm_append_comm
  | r :: rs, some h :: hs, none => by
    rw [step_none]
  | r :: rs, some h :: hs, some c => by
    rw [step_cs, fl_cons, fl_cons]
    have ih := step_perm rs hs (some (r.keep h c).2)
    show ((r.keep h c).1 :: (fl (stepR rs hs (some (r.keep h c).2)).1 ++ opL (stepR rs hs (some (r.keep h c).2)).2)).Perm (h :: (fl hs ++ [c]))
    refine (ih.cons _).trans ?_
    show ((r.keep h c).1 :: (fl hs ++ [(r.keep h c).2])).Perm (h :: (fl hs ++ [c]))
    have k := keep_perm r h c
    have a1 : ((r.keep h c).1 :: (fl hs ++ [(r.keep h c).2])).Perm ([(r.keep h c).1, (r.keep h c).2] ++ fl hs) := List.Perm.cons _ List.perm_append_comm
    have a2 : ([h, c] ++ fl hs).Perm (h :: (fl hs ++ [c])) := List.Perm.cons _ List.perm_append_comm
    exact (a1.trans (k.append_right _)).trans a2
theorem run_perm (rs : List Rule) : ∀ (ns : List Int) (hs : List (Option Int)), (fl (runR rs hs ns).1 ++ fl (runR rs hs ns).2).Perm (ns ++ fl hs)
  | [], hs => List.Perm.refl _
  | n :: ns, hs => by
    have s := step_perm rs hs (some n)
    have ih := run_perm rs ns (stepR rs hs (some n)).1
    show (fl ((stepR rs hs (some n)).2 :: (runR rs (stepR rs hs (some n)).1 ns).1) ++ fl (runR rs (stepR rs hs (some n)).1 ns).2).Perm (n :: ns ++ fl hs)
    rw [fl_cons, List.append_assoc]
    refine (ih.append_left _).trans ?_
    have b1 : (opL (stepR rs hs (some n)).2 ++ (ns ++ fl (stepR rs hs (some n)).1)).Perm (ns ++ (fl (stepR rs hs (some n)).1 ++ opL (stepR rs hs (some n)).2)) := by
      refine List.perm_append_comm.trans ?_
      rw [List.append_assoc]
    refine b1.trans ((s.append_left ns).trans ?_)
    show (ns ++ (fl hs ++ [n])).Perm (n :: (ns ++ fl hs))
    rw [← List.append_assoc]
    exact List.perm_append_comm
theorem fl_nones (n : Nat) : fl (nones n) = [] := by
  induction n with
  | zero => rfl
  | succ n ih =>
    show fl (none :: nones n) = []
    rw [fl_cons, ih]
    rfl
/-! ### greater -/
theorem neg_ng (os : List (Option Int)) : (os.map ng).map ng = os := by
  rw [List.map_map]
  have e : (ng ∘ ng) = id := funext fun o => by
    cases o with
    | none => rfl
    | some i => show some (- -i) = some i; rw [Int.neg_neg]
  rw [e, List.map_id]
theorem greater_holds {k : Nat} {ns ms : List Int} (p : ms.Perm ns) (h : ms.Pairwise (· ≤ ·)) : (runR (List.replicate k Rule.greater) (nones k) ns).2 = (ms.reverse.take k).map some ++ nones (k - ms.length) := by
  have e1 : (List.replicate k Rule.greater).map Rule.neg = List.replicate k Rule.less := by
    rw [List.map_replicate]
    rfl
  have r := run_neg (List.replicate k Rule.greater) ns (nones k)
  rw [e1, nones_ng] at r
  have pm : (ms.reverse.map fun z => -z).Perm (ns.map fun z => -z) := ((List.reverse_perm ms).trans p).map _
  have hm : (ms.reverse.map fun z => -z).Pairwise (· ≤ ·) := by
    rw [List.pairwise_map, List.pairwise_reverse]
    exact h.imp fun hab => by omega
  have l := less_holds (k := k) pm hm
  rw [r] at l
  have l2 := congrArg (List.map ng) l
  rw [neg_ng] at l2
  rw [l2, List.map_append, nones_ng, ← List.map_take, List.map_map, List.map_map, List.length_map, List.length_reverse]
  congr 1
  refine List.map_congr_left fun z _ => ?_
  show some (- -z) = some z
  rw [Int.neg_neg]
/-! ### last -/
theorem step_last : ∀ (k : Nat) (xs : List Int) (c : Int), 0 < k → stepR (List.replicate k Rule.last) (heldL k xs) (some c) = (heldL k (c :: xs), xs[k - 1]?)
  | 0, _, _, h => by omega
  | k + 1, [], c, _ => by
    have e1 : heldL (k + 1) [] = none :: nones k := rfl
    rw [e1, List.replicate_succ, step_cn]
    unfold heldL
    simp
  | 1, x :: xs, c, _ => by
    have e1 : heldL 1 (x :: xs) = [some x] := by
      unfold heldL
      simp [nones]
    have e2 : heldL 1 (c :: x :: xs) = [some c] := by
      unfold heldL
      simp [nones]
    rw [e1, e2, List.replicate_succ, step_cs]
    show (some c :: (stepR [] [] (some x)).1, (stepR [] [] (some x)).2) = _
    rw [step_nil]
    rfl
  | k + 2, x :: xs, c, _ => by
    have e1 : ∀ ys : List Int, heldL (k + 2) (x :: ys) = some x :: heldL (k + 1) ys := fun ys => by
      unfold heldL
      rw [List.take_succ_cons, List.length_cons, show k + 2 - (ys.length + 1) = k + 1 - ys.length by omega]
      rfl
    have e2 : heldL (k + 2) (c :: x :: xs) = some c :: heldL (k + 1) (x :: xs) := by
      unfold heldL
      rw [List.take_succ_cons, List.length_cons (a := c), show k + 2 - ((x :: xs).length + 1) = k + 1 - (x :: xs).length by omega]
      rfl
    rw [e1, e2, List.replicate_succ, step_cs]
    show (some c :: (stepR (List.replicate (k + 1) Rule.last) (heldL (k + 1) xs) (some x)).1, (stepR (List.replicate (k + 1) Rule.last) (heldL (k + 1) xs) (some x)).2) = _
    rw [step_last (k + 1) xs x (by omega)]
    rfl
theorem heldL_nil (k : Nat) : heldL k [] = nones k := by
  unfold heldL
  simp
theorem run_last {k : Nat} (hk : 0 < k) : ∀ (m : Nat) (ns : List Int), ns.length = m → runR (List.replicate k Rule.last) (nones k) ns = (nones (min k ns.length) ++ (ns.take (ns.length - k)).map some, heldL k ns.reverse)
  | 0, ns, e => by
    have : ns = [] := List.eq_nil_of_length_eq_zero e
    subst this
    show (([] : List (Option Int)), nones k) = _
    rw [List.reverse_nil, heldL_nil]
    simp [nones]
  | m + 1, ns, e => by
    have hne : ns ≠ [] := fun z => by
      rw [z] at e
      simp at e
    have es : ns = ns.dropLast ++ [ns.getLast hne] := (List.dropLast_concat_getLast hne).symm
    generalize hd : ns.dropLast = ds at es
    generalize ns.getLast hne = c at es
    have ld : ds.length = m := by
      rw [← hd, List.length_dropLast, e]
      rfl
    subst es
    rw [run_app, run_last hk m ds ld]
    show (_ ++ [(stepR (List.replicate k Rule.last) (heldL k ds.reverse) (some c)).2], (stepR (List.replicate k Rule.last) (heldL k ds.reverse) (some c)).1) = _
    rw [step_last k ds.reverse c hk]
    have e2 : (ds ++ [c]).reverse = c :: ds.reverse := by simp
    rw [e2]
    congr 1
    show nones (min k ds.length) ++ (ds.take (ds.length - k)).map some ++ [ds.reverse[k - 1]?] = nones (min k (ds ++ [c]).length) ++ ((ds ++ [c]).take ((ds ++ [c]).length - k)).map some
    rw [List.length_append, List.length_singleton]
    by_cases hlt : ds.length < k
    · have a1 : ds.reverse[k - 1]? = none := List.getElem?_eq_none (by rw [List.length_reverse]; omega)
      rw [a1, show ds.length - k = 0 by omega, show ds.length + 1 - k = 0 by omega, List.take_zero, List.take_zero, Nat.min_eq_right (by omega), Nat.min_eq_right (by omega), nones_add]
      simp [nones]
    · have hk1 : ds.length - k < ds.length := by omega
      have a1 : ds.reverse[k - 1]? = some ds[ds.length - k] := by
        rw [List.getElem?_reverse (by omega), show ds.length - 1 - (k - 1) = ds.length - k by omega, List.getElem?_eq_getElem hk1]
      rw [a1, show ds.length + 1 - k = (ds.length - k) + 1 by omega, Nat.min_eq_left (by omega), Nat.min_eq_left (by omega), List.append_assoc]
      congr 1
      rw [List.take_append_of_le_length (by omega), take_more (List.getElem?_eq_getElem hk1), List.map_append]
      rfl
end SC
set_option maxRecDepth 100000
set_option maxHeartbeats 2000000
/-! # Part V: what laws over rows share (K31Law has its own copy of these) -/
namespace SC
open PySem PySem.Spec PyProof.Rows L2 TL
/-- what a row gave: a pair of a list and a tuple -/
def Res (H : Hp) (p : Addr) (rs : List Rule) (ns : List Int) : Prop := ∃ o h : Addr, H p = some (.tup [.ref o, .ref h]) ∧ H o = some (.lst ((runR rs (nones rs.length) ns).1.map ov)) ∧ H h = some (.tup ((runR rs (nones rs.length) ns).2.map ov))
theorem Res.same {H H' : Hp} {p : Addr} {rs : List Rule} {ns : List Int} (r : Res H p rs ns) (s : Same H H') : Res H' p rs ns := by
  obtain ⟨o, h, h1, h2, h3⟩ := r
  exact ⟨o, h, s _ _ h1, s _ _ h2, s _ _ h3⟩
theorem rep_flat {α : Type} (z : α) : ∀ m : Nat, (List.replicate m [z]).flatten = List.replicate m z
  | 0 => rfl
  | m + 1 => by
    rw [List.replicate_succ, List.replicate_succ, List.flatten_cons, rep_flat z m]
    rfl
theorem cut_take (xs : List V) (n : Nat) : cutV xs none (some (n : Int)) = xs.take n := by
  unfold cutV
  rw [HT.sIx_none, HT.sIx_nat, List.drop_zero, Nat.sub_zero, List.take_eq_take_iff]
  omega
theorem ChainAt.ins {X : Cx} {K : PySem.W.Frag} {H : Hp} {c : Addr} {rs : List Rule} (k : ChainAt K H c rs) : StX.InsC X H c (ChC K) := by
  obtain ⟨dx, t, as, h, _⟩ := k
  exact .inr ⟨dx, _, h⟩
theorem filter_take {os : List (Option Int)} {i : Nat} {z : Option Int} (h : os[i]? = some z) : ((os.take (i + 1)).filterMap id) = (os.take i).filterMap id ++ (match z with | some x => [x] | none => []) := by
  rw [take_more h, List.filterMap_append]
  cases z <;> rfl
/-- the shape of what comes out: first nothing, then all -/
theorem outs_shape (rs : List Rule) (ns : List Int) : ∃ ds : List Int, (runR rs (nones rs.length) ns).1 = nones (min rs.length ns.length) ++ ds.map some ∧ ds.length = ns.length - rs.length := run_shape rs ns [] rs.length (by simp)
theorem outs_take (rs : List Rule) (ns : List Int) : (runR rs (nones rs.length) ns).1.take rs.length = nones (min rs.length ns.length) := by
  obtain ⟨ds, e1, e2⟩ := outs_shape rs ns
  rw [e1]
  by_cases h : rs.length ≤ ns.length
  · rw [Nat.min_eq_left h, List.take_append_of_le_length (by rw [nones_len]; omega), List.take_of_length_le (by rw [nones_len]; omega)]
  · have e3 : ds = [] := List.eq_nil_of_length_eq_zero (by omega)
    subst e3
    rw [Nat.min_eq_right (by omega), List.map_nil, List.append_nil, List.take_of_length_le (by rw [nones_len]; omega)]
theorem outs_drop (rs : List Rule) (ns : List Int) : ∃ ds : List Int, (runR rs (nones rs.length) ns).1.drop rs.length = ds.map some := by
  obtain ⟨ds, e1, e2⟩ := outs_shape rs ns
  rw [e1]
  by_cases h : rs.length ≤ ns.length
  · refine ⟨ds, ?_⟩
    rw [Nat.min_eq_left h]
    have := List.drop_left (l₁ := nones rs.length) (l₂ := ds.map some)
    rw [nones_len] at this
    exact this
  · have e3 : ds = [] := List.eq_nil_of_length_eq_zero (by omega)
    subst e3
    refine ⟨[], ?_⟩
    rw [List.map_nil, List.append_nil, List.drop_of_length_le (by rw [nones_len]; omega)]
end SC
set_option maxRecDepth 100000
set_option maxHeartbeats 2000000
/-! # Part X: data. What stands in the heap, as one value; readings of expressions that only look and make new things -/
namespace SC
open PySem PySem.Spec PyProof.Rows L2 TL
inductive D where
  | non | bl (b : Bool) | int (i : Int) | str (s : Str) | lst (l : List D) | tup (l : List D) | chain (rs : List Rule) | cell (r : Rule) | dic (l : List (Int × Int)) | ktup (l : List D)
/-- the entries of a dict of numbers -/
def kvI (l : List (Int × Int)) : List (Key × V) := l.map fun p => (Sum.inl p.1, V.int p.2)
mutual
def Rp (K : PySem.W.Frag) (H : Hp) : D → V → Prop
  | .non, v => v = .non
  | .bl b, v => v = .bl b
  | .int i, v => v = .int i
  | .str s, v => v = .str s
  | .lst l, v => ∃ a vs, v = .ref a ∧ H a = some (.lst vs) ∧ RpL K H l vs
  | .tup l, v => ∃ a vs, v = .ref a ∧ H a = some (.tup vs) ∧ RpL K H l vs
  | .chain rs, v => ∃ a, v = .ref a ∧ ChainAt K H a rs
  | .cell r, v => ∃ a, v = .ref a ∧ CellAt K H a r
  | .dic l, v => ∃ a o, v = .ref a ∧ H a = some (.frz o (.dK (kvI l)))
  | .ktup l, v => ∃ a o vs, v = .ref a ∧ H a = some (.frz o (.tup vs)) ∧ o.dict = none ∧ RpL K H l vs
def RpL (K : PySem.W.Frag) (H : Hp) : List D → List V → Prop
  | [], vs => vs = []
  | d :: ds, vs => ∃ v vs', vs = v :: vs' ∧ Rp K H d v ∧ RpL K H ds vs'
end
section
variable {K : PySem.W.Frag} {H H' : Hp}
mutual
theorem Rp.same (s : Same H H') : ∀ (d : D) {v : V}, Rp K H d v → Rp K H' d v
  | .non, _, h => h
  | .bl _, _, h => h
  | .int _, _, h => h
  | .str _, _, h => h
  | .lst l, _, h => by
    obtain ⟨a, vs, h1, h2, h3⟩ := h
    exact ⟨a, vs, h1, s _ _ h2, RpL.same s l h3⟩
  | .tup l, _, h => by
    obtain ⟨a, vs, h1, h2, h3⟩ := h
    exact ⟨a, vs, h1, s _ _ h2, RpL.same s l h3⟩
  | .chain rs, _, h => by
    obtain ⟨a, h1, h2⟩ := h
    exact ⟨a, h1, h2.same s⟩
  | .cell r, _, h => by
    obtain ⟨a, h1, h2⟩ := h
    exact ⟨a, h1, h2.same s⟩
  | .dic l, _, h => by
    obtain ⟨a, o, h1, h2⟩ := h
    exact ⟨a, o, h1, s _ _ h2⟩
  | .ktup l, _, h => by
    obtain ⟨a, o, vs, h1, h2, h3, h4⟩ := h
    exact ⟨a, o, vs, h1, s _ _ h2, h3, RpL.same s l h4⟩
theorem RpL.same (s : Same H H') : ∀ (l : List D) {vs : List V}, RpL K H l vs → RpL K H' l vs
  | [], _, h => h
  | d :: ds, _, h => by
    obtain ⟨v, vs', h1, h2, h3⟩ := h
    exact ⟨v, vs', h1, Rp.same s d h2, RpL.same s ds h3⟩
end
theorem RpL.len : ∀ {l : List D} {vs : List V}, RpL K H l vs → vs.length = l.length
  | [], _, h => by cases h; rfl
  | d :: ds, _, h => by
    obtain ⟨v, vs', rfl, h2, h3⟩ := h
    rw [List.length_cons, List.length_cons, h3.len]
theorem RpL.get : ∀ {l : List D} {vs : List V} {i : Nat} {d : D}, RpL K H l vs → l[i]? = some d → ∃ v, vs[i]? = some v ∧ Rp K H d v
  | [], _, _, _, _, e => by simp at e
  | d :: ds, _, 0, _, h, e => by
    obtain ⟨v, vs', rfl, h2, h3⟩ := h
    simp at e
    subst e
    exact ⟨v, rfl, h2⟩
  | d :: ds, _, i + 1, x, h, e => by
    obtain ⟨v, vs', rfl, h2, h3⟩ := h
    obtain ⟨u, e1, e2⟩ := RpL.get (i := i) (d := x) h3 (by simpa using e)
    exact ⟨u, by simpa using e1, e2⟩
theorem RpL.get' {l : List D} {vs : List V} {i : Nat} {v : V} (h : RpL K H l vs) (e : vs[i]? = some v) : ∃ d, l[i]? = some d ∧ Rp K H d v := by
  have hi : i < l.length := by
    rw [← h.len]
    rcases Nat.lt_or_ge i vs.length with z | z
    · exact z
    · rw [List.getElem?_eq_none z] at e
      cases e
  obtain ⟨u, e1, e2⟩ := h.get (List.getElem?_eq_getElem hi)
  rw [e] at e1
  cases e1
  exact ⟨_, List.getElem?_eq_getElem hi, e2⟩
theorem RpL.app : ∀ {l m : List D} {vs us : List V}, RpL K H l vs → RpL K H m us → RpL K H (l ++ m) (vs ++ us)
  | [], _, _, _, h, g => by cases h; exact g
  | d :: ds, m, _, us, h, g => by
    obtain ⟨v, vs', rfl, h2, h3⟩ := h
    exact ⟨v, vs' ++ us, rfl, h2, h3.app g⟩
theorem RpL.one {d : D} {v : V} (h : Rp K H d v) : RpL K H [d] [v] := ⟨v, [], rfl, h, rfl⟩
theorem RpL.snoc {l : List D} {vs : List V} {d : D} {v : V} (h : RpL K H l vs) (g : Rp K H d v) : RpL K H (l ++ [d]) (vs ++ [v]) := h.app (.one g)
theorem RpL.drop : ∀ (n : Nat) {l : List D} {vs : List V}, RpL K H l vs → RpL K H (l.drop n) (vs.drop n)
  | 0, _, _, h => h
  | n + 1, [], _, h => by cases h; exact rfl
  | n + 1, d :: ds, _, h => by
    obtain ⟨v, vs', rfl, h2, h3⟩ := h
    exact h3.drop n
theorem RpL.take : ∀ (n : Nat) {l : List D} {vs : List V}, RpL K H l vs → RpL K H (l.take n) (vs.take n)
  | 0, l, vs, h => by rw [List.take_zero, List.take_zero]; exact rfl
  | n + 1, [], _, h => by cases h; exact rfl
  | n + 1, d :: ds, _, h => by
    obtain ⟨v, vs', rfl, h2, h3⟩ := h
    exact ⟨v, vs'.take n, rfl, h2, h3.take n⟩
theorem RpL.rev : ∀ {l : List D} {vs : List V}, RpL K H l vs → RpL K H l.reverse vs.reverse
  | [], _, h => by cases h; exact rfl
  | d :: ds, _, h => by
    obtain ⟨v, vs', rfl, h2, h3⟩ := h
    rw [List.reverse_cons, List.reverse_cons]
    exact h3.rev.snoc h2
theorem RpL.rep {l : List D} {vs : List V} (h : RpL K H l vs) : ∀ n : Nat, RpL K H (List.replicate n l).flatten (List.replicate n vs).flatten
  | 0 => rfl
  | n + 1 => by
    rw [List.replicate_succ, List.replicate_succ, List.flatten_cons, List.flatten_cons]
    exact h.app (RpL.rep h n)
/-- ints, texts, numbers or None -/
def dO : Option Int → D
  | none => .non
  | some i => .int i
theorem rp_dO {o : Option Int} {v : V} : Rp K H (dO o) v ↔ v = ov o := by
  cases o <;> exact Iff.rfl
theorem rp_ints : ∀ {ns : List Int} {vs : List V}, RpL K H (ns.map D.int) vs ↔ vs = ns.map V.int
  | [], vs => Iff.rfl
  | n :: ns, vs => by
    constructor
    · rintro ⟨v, vs', rfl, h2, h3⟩
      rw [rp_ints.mp h3]
      cases h2
      rfl
    · rintro rfl
      exact ⟨_, _, rfl, rfl, rp_ints.mpr rfl⟩
theorem rp_strs : ∀ {ns : List Str} {vs : List V}, RpL K H (ns.map D.str) vs ↔ vs = ns.map V.str
  | [], vs => Iff.rfl
  | n :: ns, vs => by
    constructor
    · rintro ⟨v, vs', rfl, h2, h3⟩
      rw [rp_strs.mp h3]
      cases h2
      rfl
    · rintro rfl
      exact ⟨_, _, rfl, rfl, rp_strs.mpr rfl⟩
theorem rp_opts : ∀ {ns : List (Option Int)} {vs : List V}, RpL K H (ns.map dO) vs ↔ vs = ns.map ov
  | [], vs => Iff.rfl
  | n :: ns, vs => by
    constructor
    · rintro ⟨v, vs', rfl, h2, h3⟩
      rw [rp_opts.mp h3, rp_dO.mp h2]
      rfl
    · rintro rfl
      exact ⟨_, _, rfl, rp_dO.mpr rfl, rp_opts.mpr rfl⟩
end
/-! ### what may change stands apart -/
def wo (M : List Addr) (H : Hp) : Hp := fun b => if b ∈ M then none else H b
/-- what may change: no tuple, no chain, no cell -/
def Mut (K : PySem.W.Frag) : HO → Prop
  | .tup _ => False
  | .ins C _ _ => C ≠ ChC K ∧ ∀ k : Kd, C ≠ He.ga K k.cn
  | _ => True
def Gd (K : PySem.W.Frag) (M : List Addr) (H : Hp) : Prop := ∀ m ∈ M, ∃ o, H m = some o ∧ Mut K o
section
variable {K : PySem.W.Frag} {M : List Addr} {H H1 H2 : Hp}
theorem wo_le : Same (wo M H) H := fun b o h => by
  unfold wo at h
  split at h
  · cases h
  · exact h
theorem wo_at {b : Addr} (h : b ∉ M) : wo M H b = H b := if_neg h
theorem wo_some {b : Addr} {o : HO} (h : wo M H b = some o) : b ∉ M ∧ H b = some o := by
  by_cases e : b ∈ M
  · unfold wo at h
    rw [if_pos e] at h
    cases h
  · rw [wo_at e] at h
    exact ⟨e, h⟩
theorem swo (s : Same H H1) : Same (wo M H) (wo M H1) := fun b o h => by
  obtain ⟨e, h⟩ := wo_some h
  rw [wo_at e]
  exact s _ _ h
theorem Gd.same (g : Gd K M H) (s : Same H H1) : Gd K M H1 := fun m hm => by
  obtain ⟨o, h1, h2⟩ := g m hm
  exact ⟨o, s _ _ h1, h2⟩
theorem Gd.out (g : Gd K M H) {p : Addr} (h : H p = none) : p ∉ M := fun hp => by
  obtain ⟨o, h1, _⟩ := g p hp
  rw [h] at h1
  cases h1
theorem Gd.nil : Gd K [] H := fun m hm => by cases hm
theorem Gd.cons {m : Addr} {o : HO} (g : Gd K M H) (h : H m = some o) (ho : Mut K o) : Gd K (m :: M) H := fun x hx => by
  rcases List.mem_cons.mp hx with rfl | hx
  · exact ⟨o, h, ho⟩
  · exact g x hx
theorem Gd.lst {m : Addr} {xs : List V} (g : Gd K M H) (h : H m = some (.lst xs)) : Gd K (m :: M) H := g.cons h trivial
theorem Gd.tl {m : Addr} (g : Gd K (m :: M) H) : Gd K M H := fun x hx => g x (List.mem_cons_of_mem _ hx)
theorem Gd.at {m : Addr} {o : HO} (g : Gd K M H) (ho : Mut K o) : Gd K M (upd H m o) := fun x hx => by
  by_cases e : x = m
  · rw [e]
    exact ⟨o, upd_same, ho⟩
  · rw [upd_ne e]
    exact g x hx
theorem cell_wo {a : Addr} {r : Rule} (g : Gd K M H) (c : CellAt K H a r) : CellAt K (wo M H) a r := by
  obtain ⟨h1, dx, h2⟩ := c
  refine ⟨h1, dx, ?_⟩
  rw [wo_at]
  · exact h2
  · intro hm
    obtain ⟨o, e1, e2⟩ := g a hm
    rw [h2] at e1
    cases e1
    exact e2.2 _ rfl
theorem chain_wo {a : Addr} {rs : List Rule} (g : Gd K M H) (c : ChainAt K H a rs) : ChainAt K (wo M H) a rs := by
  obtain ⟨dx, t, as, h1, h2, h3, h4⟩ := c
  refine ⟨dx, t, as, ?_, ?_, ⟨h3.1, fun i b r e1 e2 => cell_wo g (h3.2 i b r e1 e2)⟩, h4⟩
  · rw [wo_at]
    · exact h1
    · intro hm
      obtain ⟨o, e1, e2⟩ := g a hm
      rw [h1] at e1
      cases e1
      exact e2.1 rfl
  · rw [wo_at]
    · exact h2
    · intro hm
      obtain ⟨o, e1, e2⟩ := g t hm
      rw [h2] at e1
      cases e1
      exact e2
theorem wo_upd {m : Addr} {o : HO} (h : m ∈ M) : wo M (upd H m o) = wo M H := by
  funext b
  by_cases e : b ∈ M
  · unfold wo
    rw [if_pos e, if_pos e]
  · rw [wo_at e, wo_at e, upd_ne (fun z => e (by rw [z]; exact h))]
/-- all but what may change is as it was -/
def Fm (M : List Addr) (H H' : Hp) : Prop := Same (wo M H) (wo M H')
theorem Fm.of (s : Same H H1) : Fm M H H1 := (swo s)
theorem Fm.refl : Fm M H H := Same.refl _
theorem Fm.trans (a : Fm M H H1) (b : Fm M H1 H2) : Fm M H H2 := Same.trans a b
theorem Fm.at {m : Addr} {o : HO} (h : m ∈ M) : Fm M H (upd H m o) := by
  unfold Fm
  rw [wo_upd h]
  exact Same.refl _
theorem Fm.of1 {d : Addr} (h : d ∈ M) (f : Fr1 d H H1) : Fm M H H1 := fun b o e => by
  obtain ⟨e1, e2⟩ := wo_some e
  rw [wo_at e1]
  exact f b o e2 (fun z => e1 (by rw [z]; exact h))
theorem Rp.fm {d : D} {v : V} (r : Rp K (wo M H) d v) (f : Fm M H H1) : Rp K (wo M H1) d v := Rp.same f d r
theorem Rp.here {d : D} {v : V} (r : Rp K (wo M H) d v) : Rp K H d v := Rp.same wo_le d r
theorem wo_sub {N : List Addr} (h : ∀ x ∈ N, x ∈ M) : Same (wo M H) (wo N H) := fun b o e => by
  obtain ⟨e1, e2⟩ := wo_some e
  rw [wo_at (fun z => e1 (h b z))]
  exact e2
end
/-! ### readings that give one value -/
def Rd (K : PySem.W.Frag) (M : List Addr) (t : TE) (σ : L2.St) (H : Hp) (d : D) : Prop :=
  ∀ H1, Same H H1 → Gd K M H1 → ∀ Q : VK, (∀ v H2, Same H1 H2 → Gd K M H2 → Rp K (wo M H2) d v → Q v H2) → t σ H1 Q
def RdA (K : PySem.W.Frag) (M : List Addr) (t : TA) (σ : L2.St) (H : Hp) (ds : List D) : Prop :=
  ∀ H1, Same H H1 → Gd K M H1 → ∀ Q : List V → Hp → Prop, (∀ vs H2, Same H1 H2 → Gd K M H2 → RpL K (wo M H2) ds vs → Q vs H2) → t σ H1 Q
def RdT (K : PySem.W.Frag) (M : List Addr) (t : TT) (σ : L2.St) (H : Hp) (b : Bool) : Prop :=
  ∀ H1, Same H H1 → Gd K M H1 → ∀ Q : Bool → Hp → Prop, (∀ H2, Same H1 H2 → Gd K M H2 → Q b H2) → t σ H1 Q
def RdO (K : PySem.W.Frag) (M : List Addr) (t : TO) (σ : L2.St) (H : Hp) (o : Option Int) : Prop :=
  ∀ H1, Same H H1 → Gd K M H1 → ∀ Q : Option Int → Hp → Prop, (∀ H2, Same H1 H2 → Gd K M H2 → Q o H2) → t σ H1 Q
section
variable {K : PySem.W.Frag} {M : List Addr} {σ : L2.St} {H : Hp} {t ta tb tc : TE} {d da db : D}
theorem Rd.up (h : Rd K M t σ H d) {H' : Hp} (s : Same H H') : Rd K M t σ H' d := fun H1 s1 => h H1 (s.trans s1)
theorem RdT.up {t : TT} {b : Bool} (h : RdT K M t σ H b) {H' : Hp} (s : Same H H') : RdT K M t σ H' b := fun H1 s1 => h H1 (s.trans s1)
theorem rd_var {i : Nat} {v : V} (e : σ[i]? = some (some v)) (r : Rp K (wo M H) d v) : Rd K M (tVar i) σ H d := fun H1 s1 g Q k => ⟨v, e, k v H1 (Same.refl _) g (Rp.same (swo s1) d r)⟩
theorem rd_int {i : Int} : Rd K M (tC (.int i)) σ H (.int i) := fun H1 s1 g Q k => k _ H1 (Same.refl _) g rfl
theorem rd_str {s : Str} : Rd K M (tC (.str s)) σ H (.str s) := fun H1 s1 g Q k => k _ H1 (Same.refl _) g rfl
theorem rd_bl {b : Bool} : Rd K M (tC (.bl b)) σ H (.bl b) := fun H1 s1 g Q k => k _ H1 (Same.refl _) g rfl
theorem rd_non : Rd K M (tC .non) σ H .non := fun H1 s1 g Q k => k _ H1 (Same.refl _) g rfl
/-- two parts, then what is made of them -/
theorem rd_op {r : R2} (ha : Rd K M ta σ H da) (hb : Rd K M tb σ H db) (hr : ∀ x y H1 Q, Gd K M H1 → Rp K (wo M H1) da x → Rp K (wo M H1) db y → (∀ v H2, Same H1 H2 → Gd K M H2 → Rp K (wo M H2) d v → Q v H2) → r x y H1 Q) : Rd K M (tOp r ta tb) σ H d :=
  fun H1 s1 g Q k => ha H1 s1 g _ fun x H2 s2 g2 rx => hb H2 (s1.trans s2) g2 _ fun y H3 s3 g3 ry => hr x y H3 Q g3 (Rp.same (swo s3) da rx) ry fun v H4 s4 g4 r4 => k v H4 ((s2.trans s3).trans s4) g4 r4
theorem rd_cb {r : List V → Hp → VK → Prop} {t : TA} {ds : List D} (ha : RdA K M t σ H ds) (hr : ∀ xs H1 Q, Gd K M H1 → RpL K (wo M H1) ds xs → (∀ v H2, Same H1 H2 → Gd K M H2 → Rp K (wo M H2) d v → Q v H2) → r xs H1 Q) : Rd K M (tCB r t) σ H d :=
  fun H1 s1 g Q k => ha H1 s1 g _ fun xs H2 s2 g2 rx => hr xs H2 Q g2 rx fun v H3 s3 g3 r3 => k v H3 (s2.trans s3) g3 r3
theorem rda_nil : RdA K M tNil σ H [] := fun H1 s1 g Q k => k [] H1 (Same.refl _) g rfl
theorem rda_cons {t : TE} {u : TA} {ds : List D} (h : Rd K M t σ H d) (hu : RdA K M u σ H ds) : RdA K M (tCons t u) σ H (d :: ds) :=
  fun H1 s1 g Q k => h H1 s1 g _ fun v H2 s2 g2 r2 => hu H2 (s1.trans s2) g2 _ fun vs H3 s3 g3 r3 => k (v :: vs) H3 (s2.trans s3) g3 ⟨v, vs, rfl, Rp.same (swo s3) d r2, r3⟩
theorem rda_one (h : Rd K M t σ H d) : RdA K M (tCons t tNil) σ H [d] := rda_cons h rda_nil
theorem rda_two {u : TE} {e : D} (h : Rd K M t σ H d) (hu : Rd K M u σ H e) : RdA K M (tCons t (tCons u tNil)) σ H [d, e] := rda_cons h (rda_one hu)
/-- a new object -/
theorem new_lst {H1 : Hp} {Q : VK} {l : List D} {vs : List V} {p : Addr} (g : Gd K M H1) (hp : H1 p = none) (r : RpL K (wo M H1) l vs) (k : ∀ v H2, Same H1 H2 → Gd K M H2 → Rp K (wo M H2) (.lst l) v → Q v H2) : Q (.ref p) (upd H1 p (.lst vs)) := by
  have s : Same H1 (upd H1 p (.lst vs)) := same_new hp
  refine k _ _ s (g.same s) ⟨p, vs, rfl, ?_, RpL.same (swo s) l r⟩
  rw [wo_at (g.out hp), upd_same]
theorem new_tup {H1 : Hp} {Q : VK} {l : List D} {vs : List V} {p : Addr} (g : Gd K M H1) (hp : H1 p = none) (r : RpL K (wo M H1) l vs) (k : ∀ v H2, Same H1 H2 → Gd K M H2 → Rp K (wo M H2) (.tup l) v → Q v H2) : Q (.ref p) (upd H1 p (.tup vs)) := by
  have s : Same H1 (upd H1 p (.tup vs)) := same_new hp
  refine k _ _ s (g.same s) ⟨p, vs, rfl, ?_, RpL.same (swo s) l r⟩
  rw [wo_at (g.out hp), upd_same]
theorem rd_i0 {f : Int → Int → V} {i j : Int} (hf : ∀ H v, v = f i j → Rp K H d v) (ha : Rd K M ta σ H (.int i)) (hb : Rd K M tb σ H (.int j)) : Rd K M (tOp (rI0 f) ta tb) σ H d :=
  rd_op ha hb fun x y H1 Q g hx hy k => ⟨i, j, hx, hy, k _ H1 (Same.refl _) g (hf _ _ rfl)⟩
theorem rd_add {i j : Int} (ha : Rd K M ta σ H (.int i)) (hb : Rd K M tb σ H (.int j)) : Rd K M (tOp (rI0 fun i j => .int (i + j)) ta tb) σ H (.int (i + j)) := rd_i0 (fun _ _ e => e) ha hb
theorem rd_sub {i j : Int} (ha : Rd K M ta σ H (.int i)) (hb : Rd K M tb σ H (.int j)) : Rd K M (tOp (rI0 fun i j => .int (i - j)) ta tb) σ H (.int (i - j)) := rd_i0 (fun _ _ e => e) ha hb
theorem rd_lt {i j : Int} (ha : Rd K M ta σ H (.int i)) (hb : Rd K M tb σ H (.int j)) : Rd K M (tOp (rI0 fun i j => .bl (decide (i < j))) ta tb) σ H (.bl (decide (i < j))) := rd_i0 (fun _ _ e => e) ha hb
theorem rd_le {i j : Int} (ha : Rd K M ta σ H (.int i)) (hb : Rd K M tb σ H (.int j)) : Rd K M (tOp (rI0 fun i j => .bl (decide (i ≤ j))) ta tb) σ H (.bl (decide (i ≤ j))) := rd_i0 (fun _ _ e => e) ha hb
theorem rd_gt {i j : Int} (ha : Rd K M ta σ H (.int i)) (hb : Rd K M tb σ H (.int j)) : Rd K M (tOp (rI0 fun i j => .bl (decide (j < i))) ta tb) σ H (.bl (decide (j < i))) := rd_i0 (fun _ _ e => e) ha hb
theorem rd_ge {i j : Int} (ha : Rd K M ta σ H (.int i)) (hb : Rd K M tb σ H (.int j)) : Rd K M (tOp (rI0 fun i j => .bl (decide (j ≤ i))) ta tb) σ H (.bl (decide (j ≤ i))) := rd_i0 (fun _ _ e => e) ha hb
theorem rd_rI {C : Int → Int → Prop} {f : Int → Int → V} {i j : Int} (hc : C i j) (hf : ∀ H v, v = f i j → Rp K H d v) (ha : Rd K M ta σ H (.int i)) (hb : Rd K M tb σ H (.int j)) : Rd K M (tOp (rI C f) ta tb) σ H d :=
  rd_op ha hb fun x y H1 Q g hx hy k => ⟨i, j, hx, hy, hc, k _ H1 (Same.refl _) g (hf _ _ rfl)⟩
theorem rd_mul {i j : Int} (hc : CMul i j) (ha : Rd K M ta σ H (.int i)) (hb : Rd K M tb σ H (.int j)) : Rd K M (tOp (rI CMul fun i j => .int (i * j)) ta tb) σ H (.int (i * j)) := rd_rI hc (fun _ _ e => e) ha hb
theorem rd_pow {i j : Int} (hc : CPow i j) (ha : Rd K M ta σ H (.int i)) (hb : Rd K M tb σ H (.int j)) : Rd K M (tOp (rI CPow fun i j => .int (i ^ j.toNat)) ta tb) σ H (.int (i ^ j.toNat)) := rd_rI hc (fun _ _ e => e) ha hb
theorem rd_mod {i j : Int} (hc : 0 < j) (ha : Rd K M ta σ H (.int i)) (hb : Rd K M tb σ H (.int j)) : Rd K M (tOp (rI (fun _ j => 0 < j) fun i j => .int (i % j)) ta tb) σ H (.int (i % j)) := rd_rI hc (fun _ _ e => e) ha hb
theorem rd_eqF (hf : ∀ H x y, Rp K H da x → Rp K H db y → flatV x = true ∧ flatV y = true) {b : Bool} (h : ∀ H x y, Rp K H da x → Rp K H db y → ∀ H1 Q, Q (.bl b) H1 → rEq x y H1 Q) (ha : Rd K M ta σ H da) (hb : Rd K M tb σ H db) : Rd K M (tOp rEq ta tb) σ H (.bl b) :=
  rd_op ha hb fun x y H1 Q g hx hy k => h _ x y hx hy H1 Q (k _ H1 (Same.refl _) g rfl)
/-- lists -/
theorem rd_cat {l m : List D} (hl : l.length + m.length ≤ sizeLine) (ha : Rd K M ta σ H (.lst l)) (hb : Rd K M tb σ H (.lst m)) : Rd K M (tOp rCat ta tb) σ H (.lst (l ++ m)) :=
  rd_op ha hb fun x y H1 Q g hx hy k => by
    obtain ⟨a, vs, rfl, h1, r1⟩ := hx
    obtain ⟨b, us, rfl, h2, r2⟩ := hy
    refine ⟨a, b, vs, us, rfl, rfl, wo_le _ _ h1, wo_le _ _ h2, by rw [r1.len, r2.len]; exact hl, fun p hp => new_lst g hp (r1.app r2) k⟩
theorem rd_rep {l : List D} {n : Int} (h1 : -(2 ^ 63) ≤ n) (h2 : n < 2 ^ 63) (hl : l.length * n.toNat ≤ sizeLine) (ha : Rd K M ta σ H (.lst l)) (hb : Rd K M tb σ H (.int n)) : Rd K M (tOp rRep ta tb) σ H (.lst (List.replicate n.toNat l).flatten) :=
  rd_op ha hb fun x y H1 Q g hx hy k => by
    obtain ⟨a, vs, rfl, e1, r1⟩ := hx
    exact ⟨a, n, vs, rfl, hy, wo_le _ _ e1, h1, h2, by rw [r1.len]; exact hl, fun p hp => new_lst g hp (r1.rep _) k⟩
theorem rd_lst {t : TA} {ds : List D} (hl : ds.length ≤ sizeLine) (h : RdA K M t σ H ds) : Rd K M (tLst t) σ H (.lst ds) :=
  fun H1 s1 g Q k => h H1 s1 g _ fun vs H2 s2 g2 r2 => ⟨by rw [r2.len]; exact hl, fun p hp => new_lst g2 hp r2 fun v H3 s3 => k v H3 (s2.trans s3)⟩
theorem rd_tup {t : TA} {ds : List D} (hl : ds.length ≤ sizeLine) (h : RdA K M t σ H ds) : Rd K M (tTup t) σ H (.tup ds) :=
  fun H1 s1 g Q k => h H1 s1 g _ fun vs H2 s2 g2 r2 => ⟨by rw [r2.len]; exact hl, fun p hp => new_tup g2 hp r2 fun v H3 s3 => k v H3 (s2.trans s3)⟩
theorem rd_ixL {l : List D} {i : Int} (hi : atI l i = some d) (ha : Rd K M ta σ H (.lst l)) (hb : Rd K M tb σ H (.int i)) : Rd K M (tOp (rIxL K) ta tb) σ H d :=
  rd_op ha hb fun x y H1 Q g hx hy k => by
    obtain ⟨a, vs, rfl, e1, r1⟩ := hx
    unfold atI at hi
    cases e : ixN l.length i with
    | none => rw [e] at hi; cases hi
    | some j =>
      rw [e] at hi
      obtain ⟨v, ev, rv⟩ := r1.get hi
      refine ⟨a, vs, i, v, rfl, hy, SqL.of (wo_le _ _ e1), ?_, k v H1 (Same.refl _) g rv⟩
      unfold atI
      rw [r1.len, e]
      exact ev
theorem rd_ixT {l : List D} {i : Int} (hi : atI l i = some d) (ha : Rd K M ta σ H (.tup l)) (hb : Rd K M tb σ H (.int i)) : Rd K M (tOp (rIxT K) ta tb) σ H d :=
  rd_op ha hb fun x y H1 Q g hx hy k => by
    obtain ⟨a, vs, rfl, e1, r1⟩ := hx
    unfold atI at hi
    cases e : ixN l.length i with
    | none => rw [e] at hi; cases hi
    | some j =>
      rw [e] at hi
      obtain ⟨v, ev, rv⟩ := r1.get hi
      refine ⟨a, vs, i, v, rfl, hy, SqT.of (wo_le _ _ e1), ?_, k v H1 (Same.refl _) g rv⟩
      unfold atI
      rw [r1.len, e]
      exact ev
/-- parts of a list -/
def cutD (l : List D) (lo hi : Option Int) : List D := (l.drop (HT.sIx l.length 0 lo)).take (HT.sIx l.length l.length hi - HT.sIx l.length 0 lo)
theorem RpL.cut {l : List D} {vs : List V} {lo hi : Option Int} (h : RpL K H l vs) : RpL K H (cutD l lo hi) (cutV vs lo hi) := by
  unfold cutD cutV
  rw [h.len]
  exact (h.drop _).take _
theorem rdo_none : RdO K M tNoPart σ H none := fun H1 s1 g Q k => k H1 (Same.refl _) g
theorem rdo_some {i : Int} (h : Rd K M t σ H (.int i)) : RdO K M (tPart t) σ H (some i) := fun H1 s1 g Q k => h H1 s1 g _ fun v H2 s2 g2 r2 => ⟨i, r2, k H2 s2 g2⟩
theorem rd_slL {l : List D} {tl th : TO} {lo hi : Option Int} (ha : Rd K M ta σ H (.lst l)) (h1 : RdO K M tl σ H lo) (h2 : RdO K M th σ H hi) : Rd K M (tSl (rSlL K) ta tl th) σ H (.lst (cutD l lo hi)) :=
  fun H1 s1 g Q k => ha H1 s1 g _ fun x H2 s2 g2 rx => h1 H2 (s1.trans s2) g2 _ fun H3 s3 g3 => h2 H3 ((s1.trans s2).trans s3) g3 _ fun H4 s4 g4 => by
    obtain ⟨a, vs, rfl, e1, r1⟩ := Rp.same (swo (s3.trans s4)) _ rx
    exact ⟨a, vs, rfl, SqL.of (wo_le _ _ e1), fun p hp => new_lst g4 hp r1.cut fun v H5 s5 => k v H5 (((s2.trans s3).trans s4).trans s5)⟩
theorem rd_slT {l : List D} {tl th : TO} {lo hi : Option Int} (ha : Rd K M ta σ H (.tup l)) (h1 : RdO K M tl σ H lo) (h2 : RdO K M th σ H hi) : Rd K M (tSl (rSlA K) ta tl th) σ H (.tup (cutD l lo hi)) :=
  fun H1 s1 g Q k => ha H1 s1 g _ fun x H2 s2 g2 rx => h1 H2 (s1.trans s2) g2 _ fun H3 s3 g3 => h2 H3 ((s1.trans s2).trans s3) g3 _ fun H4 s4 g4 => by
    obtain ⟨a, vs, rfl, e1, r1⟩ := Rp.same (swo (s3.trans s4)) _ rx
    refine ⟨a, vs, rfl, SqT.of (wo_le _ _ e1), fun z => k _ H4 ((s2.trans s3).trans s4) g4 ⟨a, vs, rfl, e1, ?_⟩, fun _ p hp => new_tup g4 hp r1.cut fun v H5 s5 => k v H5 (((s2.trans s3).trans s4).trans s5)⟩
    have e : cutV vs lo hi = vs := by
      unfold cutV
      rw [z.1, z.2, List.drop_zero, Nat.sub_zero, List.take_length]
    have r2 := r1.cut (lo := lo) (hi := hi)
    rw [e] at r2
    exact r2
theorem cut_to (l : List D) (n : Nat) : cutD l none (some (n : Int)) = l.take n := by
  unfold cutD
  rw [HT.sIx_none, HT.sIx_nat, List.drop_zero, Nat.sub_zero, List.take_eq_take_iff]
  omega
theorem cut_from (l : List D) (n : Nat) : cutD l (some (n : Int)) none = l.drop n := by
  unfold cutD
  rw [HT.sIx_none, HT.sIx_nat]
  by_cases h : n ≤ l.length
  · rw [Nat.min_eq_left h, List.take_of_length_le (by rw [List.length_drop]; omega)]
  · rw [Nat.min_eq_right (by omega), List.drop_of_length_le (Nat.le_refl _), List.drop_of_length_le (by omega)]
    simp
theorem rd_revL {l : List D} (ha : Rd K M ta σ H (.lst l)) : Rd K M (tRevL K ta) σ H (.lst l.reverse) :=
  fun H1 s1 g Q k => ha H1 s1 g _ fun x H2 s2 g2 rx => by
    obtain ⟨a, vs, rfl, e1, r1⟩ := rx
    exact ⟨a, vs, rfl, SqL.of (wo_le _ _ e1), fun p hp => new_lst g2 hp r1.rev fun v H5 s5 => k v H5 (s2.trans s5)⟩
theorem rd_catT {l m : List D} (hl : l.length + m.length ≤ sizeLine) (ha : Rd K M ta σ H (.tup l)) (hb : Rd K M tb σ H (.tup m)) : Rd K M (tOp (rCatA K) ta tb) σ H (.tup (l ++ m)) :=
  rd_op ha hb fun x y H1 Q g hx hy k => by
    obtain ⟨a, vs, rfl, h1, r1⟩ := hx
    obtain ⟨b, us, rfl, h2, r2⟩ := hy
    refine ⟨a, b, vs, us, rfl, rfl, SqT.of (wo_le _ _ h1), SqT.of (wo_le _ _ h2), by rw [r1.len, r2.len]; exact hl, fun e => ?_, fun _ e => ?_, fun _ _ p hp => new_tup g hp (r1.app r2) k⟩
    · refine k _ H1 (Same.refl _) g ⟨b, us, rfl, h2, ?_⟩
      have z := r1.app r2
      rw [e, List.nil_append] at z
      exact z
    · refine k _ H1 (Same.refl _) g ⟨a, vs, rfl, h1, ?_⟩
      have z := r1.app r2
      rw [e, List.append_nil] at z
      exact z
/-- calls of built-ins -/
theorem rp1 {ds : D} {xs : List V} (h : RpL K H [ds] xs) : ∃ v, xs = [v] ∧ Rp K H ds v := by
  obtain ⟨v, vs, rfl, h1, h2⟩ := h
  cases h2
  exact ⟨v, rfl, h1⟩
theorem rd_lenL {t : TA} {l : List D} (h : RdA K M t σ H [.lst l]) : Rd K M (tCB (fun xs H Q => ∃ p ys, xs = [.ref p] ∧ (SqL K H p ys ∨ SqT K H p ys) ∧ Q (.int ys.length) H) t) σ H (.int l.length) :=
  rd_cb h fun xs H1 Q g hx k => by
    obtain ⟨v, rfl, a, vs, rfl, e1, r1⟩ := rp1 hx
    exact ⟨a, vs, rfl, .inl (SqL.of (wo_le _ _ e1)), k _ H1 (Same.refl _) g (by rw [r1.len]; exact rfl)⟩
theorem rd_lenT {t : TA} {l : List D} (h : RdA K M t σ H [.tup l]) : Rd K M (tCB (fun xs H Q => ∃ p ys, xs = [.ref p] ∧ (SqL K H p ys ∨ SqT K H p ys) ∧ Q (.int ys.length) H) t) σ H (.int l.length) :=
  rd_cb h fun xs H1 Q g hx k => by
    obtain ⟨v, rfl, a, vs, rfl, e1, r1⟩ := rp1 hx
    exact ⟨a, vs, rfl, .inr (SqT.of (wo_le _ _ e1)), k _ H1 (Same.refl _) g (by rw [r1.len]; exact rfl)⟩
theorem rd_listL {t : TA} {l : List D} (h : RdA K M t σ H [.lst l]) : Rd K M (tCB (fun xs H Q => ∃ p ys, xs = [.ref p] ∧ (SqL K H p ys ∨ SqT K H p ys) ∧ ∀ l, H l = none → Q (.ref l) (upd H l (.lst ys))) t) σ H (.lst l) :=
  rd_cb h fun xs H1 Q g hx k => by
    obtain ⟨v, rfl, a, vs, rfl, e1, r1⟩ := rp1 hx
    exact ⟨a, vs, rfl, .inl (SqL.of (wo_le _ _ e1)), fun p hp => new_lst g hp r1 k⟩
theorem rd_listT {t : TA} {l : List D} (h : RdA K M t σ H [.tup l]) : Rd K M (tCB (fun xs H Q => ∃ p ys, xs = [.ref p] ∧ (SqL K H p ys ∨ SqT K H p ys) ∧ ∀ l, H l = none → Q (.ref l) (upd H l (.lst ys))) t) σ H (.lst l) :=
  rd_cb h fun xs H1 Q g hx k => by
    obtain ⟨v, rfl, a, vs, rfl, e1, r1⟩ := rp1 hx
    exact ⟨a, vs, rfl, .inr (SqT.of (wo_le _ _ e1)), fun p hp => new_lst g hp r1 k⟩
theorem rd_tupleL {t : TA} {l : List D} (h : RdA K M t σ H [.lst l]) : Rd K M (tCB (fun xs H Q => ∃ p ys, xs = [.ref p] ∧ ((SqL K H p ys ∧ ∀ l, H l = none → Q (.ref l) (upd H l (.tup ys))) ∨ (SqT K H p ys ∧ Q (.ref p) H))) t) σ H (.tup l) :=
  rd_cb h fun xs H1 Q g hx k => by
    obtain ⟨v, rfl, a, vs, rfl, e1, r1⟩ := rp1 hx
    exact ⟨a, vs, rfl, .inl ⟨SqL.of (wo_le _ _ e1), fun p hp => new_tup g hp r1 k⟩⟩
/-- the ascending order of numbers -/
theorem sort_one {ns ms : List Int} (p : ms.Perm ns) (h : ms.Pairwise (· ≤ ·)) : ms = sortL ns := by
  refine rise_one (p.trans ?_) h (sort_rise ns [] List.Pairwise.nil)
  have := (sort_perm ns []).symm
  rwa [List.append_nil] at this
theorem rd_sorted {t : TA} {ns : List Int} (h : RdA K M t σ H [.lst (ns.map D.int)]) : Rd K M (tCB (rSortedI K) t) σ H (.lst ((sortL ns).map D.int)) :=
  rd_cb h fun xs H1 Q g hx k => by
    obtain ⟨v, rfl, a, vs, rfl, e1, r1⟩ := rp1 hx
    rw [rp_ints.mp r1] at e1
    refine ⟨a, ns, rfl, SqL.of (wo_le _ _ e1), fun ms p hp hs hn => ?_⟩
    rw [sort_one hp hs]
    exact new_lst g hn (rp_ints.mpr rfl) k
theorem min_one {ns : List Int} {m : Int} (h1 : m ∈ ns) (h2 : ∀ y ∈ ns, m ≤ y) {k : Int} (g1 : k ∈ ns) (g2 : ∀ y ∈ ns, k ≤ y) : m = k := by
  have := h2 k g1
  have := g2 m h1
  omega
theorem rd_min {t : TA} {ns : List Int} {m : Int} (h1 : m ∈ ns) (h2 : ∀ y ∈ ns, m ≤ y) (h : RdA K M t σ H [.lst (ns.map D.int)]) : Rd K M (tCB (rMin K) t) σ H (.int m) :=
  rd_cb h fun xs H1 Q g hx k => by
    obtain ⟨v, rfl, a, vs, rfl, e1, r1⟩ := rp1 hx
    rw [rp_ints.mp r1] at e1
    refine ⟨a, ns, rfl, SqL.of (wo_le _ _ e1), List.length_pos_of_mem h1, fun z z1 z2 => ?_⟩
    rw [min_one z1 z2 h1 h2]
    exact k _ H1 (Same.refl _) g rfl
theorem max_one {ns : List Int} {m : Int} (h1 : m ∈ ns) (h2 : ∀ y ∈ ns, y ≤ m) {k : Int} (g1 : k ∈ ns) (g2 : ∀ y ∈ ns, y ≤ k) : m = k := by
  have := h2 k g1
  have := g2 m h1
  omega
theorem rd_max {t : TA} {ns : List Int} {m : Int} (h1 : m ∈ ns) (h2 : ∀ y ∈ ns, y ≤ m) (h : RdA K M t σ H [.lst (ns.map D.int)]) : Rd K M (tCB (rMax K) t) σ H (.int m) :=
  rd_cb h fun xs H1 Q g hx k => by
    obtain ⟨v, rfl, a, vs, rfl, e1, r1⟩ := rp1 hx
    rw [rp_ints.mp r1] at e1
    refine ⟨a, ns, rfl, SqL.of (wo_le _ _ e1), List.length_pos_of_mem h1, fun z z1 z2 => ?_⟩
    rw [max_one z1 z2 h1 h2]
    exact k _ H1 (Same.refl _) g rfl
/-- the smaller and the greater one of two, as min([a, b]) and max([a, b]) -/
theorem rd_min2 {t : TA} {i j : Int} (h : RdA K M t σ H [.lst [.int i, .int j]]) : Rd K M (tCB (rMin K) t) σ H (.int (min i j)) := by
  refine rd_min (ns := [i, j]) (m := min i j) ?_ ?_ h
  · have : min i j = i ∨ min i j = j := by omega
    simpa using this
  · intro y hy
    have : y = i ∨ y = j := by simpa using hy
    omega
theorem rd_max2 {t : TA} {i j : Int} (h : RdA K M t σ H [.lst [.int i, .int j]]) : Rd K M (tCB (rMax K) t) σ H (.int (max i j)) := by
  refine rd_max (ns := [i, j]) (m := max i j) ?_ ?_ h
  · have : max i j = i ∨ max i j = j := by omega
    simpa using this
  · intro y hy
    have : y = i ∨ y = j := by simpa using hy
    omega
/-- tests -/
theorem rdt_cmp {r : R2} {b : Bool} (h : Rd K M (tOp r ta tb) σ H (.bl b)) : RdT K M (tTest (tOp r ta tb)) σ H b := fun H1 s1 g Q k => h H1 s1 g _ fun v H2 s2 g2 r2 => ⟨b, r2, k H2 s2 g2⟩
theorem rdt_val {b : Bool} (h : Rd K M t σ H (.bl b)) : RdT K M (tB t) σ H b := fun H1 s1 g Q k => h H1 s1 g _ fun v H2 s2 g2 r2 => ⟨b, r2, k H2 s2 g2⟩
theorem rdt_not {t : TT} {b : Bool} (h : RdT K M t σ H b) : RdT K M (tNot t) σ H (!b) := fun H1 s1 g Q k => h H1 s1 g _ fun H2 s2 g2 => k H2 s2 g2
theorem rdt_or {t u : TT} {a b : Bool} (h : RdT K M t σ H a) (h' : a = false → RdT K M u σ H b) (hb : a = true → b = true) : RdT K M (tOr t u) σ H b := fun H1 s1 g Q k => h H1 s1 g _ fun H2 s2 g2 => by
  cases a with
  | true => rw [hb rfl] at k; exact iteT (k H2 s2 g2)
  | false => exact iteF (h' rfl H2 (s1.trans s2) g2 _ fun H3 s3 => k H3 (s2.trans s3))
/-- neither: how laws ask -/
theorem rdt_nor {t u : TT} (h : RdT K M t σ H false) (h' : RdT K M u σ H false) : RdT K M (tOr t u) σ H false := rdt_or h (fun _ => h') (fun z => by cases z)
theorem rd_if {t : TT} {b : Bool} {da db : D} (h : RdT K M t σ H b) (ha : b = true → Rd K M ta σ H d) (hb : b = false → Rd K M tb σ H d) : Rd K M (tIf t ta tb) σ H d := fun H1 s1 g Q k => h H1 s1 g _ fun H2 s2 g2 => by
  cases b with
  | true => exact iteT (ha rfl H2 (s1.trans s2) g2 _ fun v H3 s3 => k v H3 (s2.trans s3))
  | false => exact iteF (hb rfl H2 (s1.trans s2) g2 _ fun v H3 s3 => k v H3 (s2.trans s3))
end
end SC
set_option maxRecDepth 100000
set_option maxHeartbeats 2000000
/-! # Part Y: slots, statement by statement, comprehensions, == of data, chains as data -/
namespace SC
open PySem PySem.Spec PyProof.Rows L2 TL
/-! ### slots -/
inductive Sl where
  | any | dat (d : D) | val (v : V)
def SlOk (K : PySem.W.Frag) (M : List Addr) (H : Hp) : Sl → Option V → Prop
  | .any, _ => True
  | .dat d, o => ∃ v, o = some v ∧ Rp K (wo M H) d v
  | .val v, o => o = some v
def Env (K : PySem.W.Frag) (M : List Addr) (σ : L2.St) (H : Hp) (ρ : List Sl) : Prop := σ.length = ρ.length ∧ ∀ (i : Nat) (s : Sl) (o : Option V), ρ[i]? = some s → σ[i]? = some o → SlOk K M H s o
section
variable {K : PySem.W.Frag} {M M' : List Addr} {σ : L2.St} {H H' : Hp} {ρ : List Sl}
theorem SlOk.le {s : Sl} {o : Option V} (h : SlOk K M H s o) (f : Same (wo M H) (wo M' H')) : SlOk K M' H' s o := by
  cases s with
  | any => trivial
  | dat d =>
    obtain ⟨v, h1, h2⟩ := h
    exact ⟨v, h1, Rp.same f d h2⟩
  | val v => exact h
theorem Env.le (E : Env K M σ H ρ) (f : Same (wo M H) (wo M' H')) : Env K M' σ H' ρ := ⟨E.1, fun i s o h1 h2 => (E.2 i s o h1 h2).le f⟩
theorem Env.fm (E : Env K M σ H ρ) (f : Fm M H H') : Env K M σ H' ρ := E.le f
theorem Env.same (E : Env K M σ H ρ) (s : Same H H') : Env K M σ H' ρ := E.le (swo s)
theorem Env.look (E : Env K M σ H ρ) {i : Nat} {s : Sl} (h : ρ[i]? = some s) : ∃ o, σ[i]? = some o ∧ SlOk K M H s o := by
  have hi : i < σ.length := by
    rw [E.1]
    rcases Nat.lt_or_ge i ρ.length with z | z
    · exact z
    · rw [List.getElem?_eq_none z] at h
      cases h
  exact ⟨_, List.getElem?_eq_getElem hi, E.2 i s _ h (List.getElem?_eq_getElem hi)⟩
theorem Env.dat (E : Env K M σ H ρ) {i : Nat} {d : D} (h : ρ[i]? = some (.dat d)) : ∃ v, σ[i]? = some (some v) ∧ Rp K (wo M H) d v := by
  obtain ⟨o, e1, v, rfl, e2⟩ := E.look h
  exact ⟨v, e1, e2⟩
theorem Env.val (E : Env K M σ H ρ) {i : Nat} {v : V} (h : ρ[i]? = some (.val v)) : σ[i]? = some (some v) := by
  obtain ⟨o, e1, e2⟩ := E.look h
  cases e2
  exact e1
/-- a name whose value is data -/
theorem Env.rd (E : Env K M σ H ρ) {i : Nat} {d : D} (h : ρ[i]? = some (.dat d)) : Rd K M (tVar i) σ H d := by
  obtain ⟨v, e1, e2⟩ := E.dat h
  exact rd_var e1 e2
theorem Env.put (E : Env K M σ H ρ) {i : Nat} {s : Sl} {o : Option V} (h : SlOk K M H s o) : Env K M (σ.set i o) H (ρ.set i s) := by
  refine ⟨by rw [List.length_set, List.length_set]; exact E.1, fun j s' o' h1 h2 => ?_⟩
  by_cases e : i = j
  · subst e
    by_cases hi : i < ρ.length
    · rw [List.getElem?_set_self hi] at h1
      rw [List.getElem?_set_self (by rw [E.1]; exact hi)] at h2
      cases h1
      cases h2
      exact h
    · rw [List.getElem?_eq_none (by rw [List.length_set]; omega)] at h1
      cases h1
  · rw [List.getElem?_set_ne e] at h1 h2
    exact E.2 j s' o' h1 h2
theorem Env.set (E : Env K M σ H ρ) {i : Nat} {d : D} {v : V} (r : Rp K (wo M H) d v) : Env K M (σ.set i (some v)) H (ρ.set i (.dat d)) := E.put ⟨v, rfl, r⟩
theorem Env.setv (E : Env K M σ H ρ) {i : Nat} {v : V} : Env K M (σ.set i (some v)) H (ρ.set i (.val v)) := E.put rfl
theorem Env.none (E : Env K M σ H ρ) {i : Nat} : Env K M (σ.set i Option.none) H (ρ.set i .any) := E.put trivial
theorem Env.wipe (E : Env K M σ H ρ) {i : Nat} : Env K M (L2.wipe σ [i]) H (ρ.set i .any) := E.none
/-- forget -/
theorem Env.drop (E : Env K M σ H ρ) {ρ' : List Sl} (hl : ρ.length = ρ'.length) (h : ∀ (i : Nat) (s : Sl), ρ'[i]? = some s → s = Sl.any ∨ ρ[i]? = some s) : Env K M σ H ρ' := by
  refine ⟨E.1.trans hl, fun i s o h1 h2 => ?_⟩
  rcases h i s h1 with rfl | e
  · trivial
  · exact E.2 i s o e h2
theorem wipe_one {i : Nat} {x : Option V} : L2.wipe ((L2.wipe σ [i]).set i x) [i] = L2.wipe σ [i] := by
  show (((σ.set i Option.none).set i x).set i Option.none) = σ.set i Option.none
  rw [List.set_set, List.set_set]
end
/-- lists of slots, forgetting: by comparing the lists -/
inductive Fgt : List Sl → List Sl → Prop
  | nil : Fgt [] []
  | any {s : Sl} {l m : List Sl} : Fgt l m → Fgt (s :: l) (.any :: m)
  | keep {s : Sl} {l m : List Sl} : Fgt l m → Fgt (s :: l) (s :: m)
theorem Fgt.len : ∀ {l m : List Sl}, Fgt l m → l.length = m.length
  | _, _, .nil => rfl
  | _, _, .any h => by rw [List.length_cons, List.length_cons, h.len]
  | _, _, .keep h => by rw [List.length_cons, List.length_cons, h.len]
theorem Fgt.at : ∀ {l m : List Sl}, Fgt l m → ∀ (i : Nat) (s : Sl), m[i]? = some s → s = .any ∨ l[i]? = some s
  | _, _, .nil, i, s, h => by simp at h
  | _, _, .any f, 0, s, h => by simp at h; exact .inl h.symm
  | _, _, .any f, i + 1, s, h => by simpa using f.at i s (by simpa using h)
  | _, _, .keep f, 0, s, h => .inr (by simpa using h)
  | _, _, .keep f, i + 1, s, h => by simpa using f.at i s (by simpa using h)
theorem Env.fgt {K : PySem.W.Frag} {M : List Addr} {σ : L2.St} {H : Hp} {ρ ρ' : List Sl} (E : Env K M σ H ρ) (f : Fgt ρ ρ') : Env K M σ H ρ' := E.drop f.len f.at
/-! ### statement by statement -/
def wpS (X : Cx) (b : List Stmt) : TS := fun D σ H => ∀ (pins : List (Addr × Obj)) (s : Shared), Inv X pins σ H s → wpAny (model X.prog X.w) X.A (execs b X.env) (SP X pins D) X.xe s
theorem wpS_ok {X : Cx} {b : List Stmt} : PSs X b (wpS X b) := ⟨fun pins s σ H D I h => h pins s I⟩
theorem wp_cons {X : Cx} {st : Stmt} {b : List Stmt} {t : TS} {D : Ends} {σ : L2.St} {H : Hp} (h : PS X st t) (q : t { D with nx := wpS X b D } σ H) : wpS X (st :: b) D σ H := fun pins s I =>
  (pss_cons h (wpS_ok (X := X) (b := b))).run pins s σ H D I q
theorem wp_one {X : Cx} {st : Stmt} {t : TS} {D : Ends} {σ : L2.St} {H : Hp} (h : PS X st t) (q : t D σ H) : wpS X [st] D σ H := fun pins s I => (pss_one h).run pins s σ H D I q
theorem wp_nil {X : Cx} {D : Ends} {σ : L2.St} {H : Hp} (q : D.nx σ H) : wpS X [] D σ H := fun pins s I => (pss_nil (X := X)).run pins s σ H D I q
section
variable {K : PySem.W.Frag} {M : List Addr} {σ : L2.St} {H : Hp} {t ta tb tc : TE} {d da db : D}
/-- x = e -/
theorem use_set {i : Nat} {D : Ends} (h : Rd K M t σ H d) (g : Gd K M H) (k : ∀ v H2, Same H H2 → Gd K M H2 → Rp K (wo M H2) d v → D.nx (σ.set i (some v)) H2) : tAsg t (gName i) D σ H := h H (Same.refl _) g _ fun v H2 s g2 r => k v H2 s g2 r
theorem use_ret {D : Ends} (h : Rd K M t σ H d) (g : Gd K M H) (k : ∀ v H2, Same H H2 → Gd K M H2 → Rp K (wo M H2) d v → D.rt v H2) : tRet t D σ H := h H (Same.refl _) g _ k
/-- if test: .. -/
theorem use_if {tt : TT} {b : Bool} {u w : TS} {D : Ends} (h : RdT K M tt σ H b) (g : Gd K M H) (k : ∀ H2, Same H H2 → Gd K M H2 → if b = true then u D σ H2 else w D σ H2) : tIfS tt u w D σ H := h H (Same.refl _) g _ k
theorem use_if0 {tt : TT} {u : TS} {D : Ends} (h : RdT K M tt σ H false) (g : Gd K M H) (k : ∀ H2, Same H H2 → Gd K M H2 → D.nx σ H2) : tIfS tt u tNext D σ H := h H (Same.refl _) g _ fun H2 s g2 => iteF (k H2 s g2)
/-- a, b = pair -/
theorem use_tup2 {i j : Nat} {D : Ends} {x y : SC.D} (h : Rd K M t σ H (.tup [x, y])) (g : Gd K M H) (k : ∀ v u H2, Same H H2 → Gd K M H2 → Rp K (wo M H2) x v → Rp K (wo M H2) y u → D.nx ((σ.set i (some v)).set j (some u)) H2) :
    tAsg t (gTup K 2 (gCons (gName i) (gCons (gName j) gNil))) D σ H := h H (Same.refl _) g _ fun w H2 s g2 r => by
  obtain ⟨a, vs, rfl, e, v, vs1, rfl, r1, u, vs2, rfl, r2, r3⟩ := r
  cases r3
  exact ⟨a, [v, u], rfl, SqT.of (wo_le _ _ e), rfl, _, _, rfl, _, _, rfl, rfl, k v u H2 s g2 r1 r2⟩
/-! ### comprehensions -/
theorem wo_cons {a : Addr} {H1 H2 : Hp} (h0 : H1 a = none) (s : Same H1 H2) : Same (wo M H1) (wo (a :: M) H2) := fun b o e => by
  obtain ⟨e1, e2⟩ := wo_some e
  rw [wo_at (fun z => by
    rcases List.mem_cons.mp z with z | z
    · rw [z, h0] at e2
      cases e2
    · exact e1 z)]
  exact s _ _ e2
theorem rp_at {l : List D} {vs : List V} {i : Nat} {v : V} (h : RpL K H l vs) (e : vs[i]? = some v) : ∃ x, l[i]? = some x ∧ Rp K H x v := h.get' e
theorem fm_take {l : List SC.D} {f : SC.D → Option SC.D} {i : Nat} {x : SC.D} (h : l[i]? = some x) : (l.take (i + 1)).filterMap f = (l.take i).filterMap f ++ (match f x with | some y => [y] | none => []) := by
  rw [take_more h, List.filterMap_append]
  cases e : f x <;> simp [List.filterMap, e]
/-- one turn of a comprehension: the item is x, and f x is taken (or not) -/
def Turns (K : PySem.W.Frag) (M : List Addr) (σ : L2.St) (H : Hp) (i : Nat) (tt : TT) (te : TE) (x : D) (y : Option D) : Prop :=
  ∀ (M' : List Addr) (H' : Hp) (v : V), Same H H' → Same (wo M H) (wo M' H') → Gd K M' H' → Rp K (wo M' H') x v →
    ∃ b : Bool, RdT K M' tt ((L2.wipe σ [i]).set i (some v)) H' b ∧ (b = true → ∃ z, y = some z ∧ Rd K M' te ((L2.wipe σ [i]).set i (some v)) H' z) ∧ (b = false → y = none)
/-- the body of all comprehensions whose parts only look -/
theorem lc_turn {i : Nat} {tt : TT} {te : TE} {l : List D} {f : D → Option D} {H1 H3 : Hp} {D0 : Addr} {n : Nat} {x : D} {v : V} (hT : Turns K M σ H1 i tt te x (f x)) (hlen : l.length < sizeLine) (hD0 : H1 D0 = none) (hx : l[n]? = some x)
    (s3 : Same H1 H3) (g3 : Gd K (D0 :: M) H3) (rv : Rp K (wo (D0 :: M) H3) x v) {acc : List V} (hD : H3 D0 = some (.lst acc)) (ra : RpL K (wo (D0 :: M) H3) ((l.take n).filterMap f) acc) {N : Hp → Prop}
    (k : ∀ H4 acc', Same H1 H4 → Gd K (D0 :: M) H4 → H4 D0 = some (.lst acc') → RpL K (wo (D0 :: M) H4) ((l.take (n + 1)).filterMap f) acc' → N H4) :
    gName i v (L2.wipe σ [i]) H3 fun σ2 H2 => L2.wipe σ2 [i] = L2.wipe σ [i] ∧ tt σ2 H2 fun b H3 => if b = true then te σ2 H3 fun y H4 => ∃ acc, H4 D0 = some (.lst acc) ∧ acc.length < sizeLine ∧ N (upd H4 D0 (.lst (acc ++ [y]))) else N H3 := by
  obtain ⟨b, h1, h2, h3⟩ := hT (D0 :: M) H3 v s3 (wo_cons hD0 s3) g3 rv
  refine ⟨wipe_one, h1 H3 (Same.refl _) g3 _ fun H4 s4 g4 => ?_⟩
  have ft := fm_take (f := f) hx
  cases b with
  | true =>
    obtain ⟨z, e, hz⟩ := h2 rfl
    refine iteT (hz H4 s4 g4 _ fun y H5 s5 g5 r5 => ?_)
    have hD5 := s5 _ _ (s4 _ _ hD)
    have r6 : RpL K (wo (D0 :: M) H5) ((l.take n).filterMap f) acc := RpL.same (swo (s4.trans s5)) _ ra
    refine ⟨acc, hD5, ?_, ?_⟩
    · rw [r6.len]
      refine Nat.lt_of_le_of_lt (List.length_filterMap_le _ _) (Nat.lt_of_le_of_lt ?_ hlen)
      rw [List.length_take]
      exact Nat.min_le_right _ _
    · refine k _ (acc ++ [y]) ?_ (g5.at trivial) upd_same ?_
      · intro b o hb
        rw [upd_ne (ne_of_none hb hD0)]
        exact s5 _ _ (s4 _ _ (s3 _ _ hb))
      · rw [wo_upd List.mem_cons_self, ft, e]
        exact r6.snoc r5
  | false =>
    refine iteF (k H4 acc (s3.trans s4) g4 (s4 _ _ hD) ?_)
    rw [ft, h3 rfl]
    simp only [List.append_nil]
    exact RpL.same (swo s4) _ ra
/-- what is made is released -/
theorem lc_done {l' : List D} {H4 : Hp} {D0 : Addr} {acc : List V} (hD0 : D0 ∉ M) (hD : H4 D0 = some (.lst acc)) (ra : RpL K (wo (D0 :: M) H4) l' acc) : Rp K (wo M H4) (.lst l') (.ref D0) :=
  ⟨D0, acc, rfl, by rw [wo_at hD0]; exact hD, RpL.same (wo_sub fun x hx => List.mem_cons_of_mem _ hx) _ ra⟩
theorem rd_lcL {tl : TE} {tt : TT} {te : TE} {i : Nat} {l : List D} (f : D → Option D) (hl : Rd K M tl σ H (.lst l)) (hlen : l.length < sizeLine) (hT : ∀ x ∈ l, ∀ H', Same H H' → Turns K M σ H' i tt te x (f x)) :
    Rd K M (tLc (iList K tl) (gName i) tt te [i]) σ H (.lst (l.filterMap f)) := fun H1 s1 g Q k => hl H1 s1 g _ fun x H2 s2 g2 rx => by
  obtain ⟨a, vs, rfl, e1, r1⟩ := rx
  have ea := wo_le _ _ e1
  have nM := (wo_some e1).1
  refine ⟨a, rfl, ⟨vs, SqL.of ea⟩, fun D0 hD0 => ?_⟩
  have hD0M := g2.out hD0
  refine lc_list (K := K) (a := a) (xs := vs) (fun n H3 => ∃ acc, Same H2 H3 ∧ Gd K (D0 :: M) H3 ∧ H3 D0 = some (.lst acc) ∧ RpL K (wo (D0 :: M) H3) ((l.take n).filterMap f) acc) ?_ ?_ ?_ ?_
  · exact ⟨[], same_new hD0, (g2.same (same_new hD0)).lst upd_same, upd_same, rfl⟩
  · rintro n H3 _ ⟨acc, s3, _⟩
    exact SqL.of (s3 _ _ ea)
  · rintro n v H3 hi ⟨acc, s3, g3, hD, ra⟩
    obtain ⟨x, hx, rv⟩ := r1.get' hi
    exact lc_turn (hT x (List.mem_of_getElem? hx) H2 (s1.trans s2)) hlen hD0 hx s3 g3 (Rp.same (wo_cons hD0 s3) _ rv) hD ra fun H4 acc' s4 g4 h4 r4 => ⟨acc', s4, g4, h4, r4⟩
  · rintro H3 ⟨acc, s3, g3, hD, ra⟩
    rw [r1.len, List.take_length] at ra
    exact k _ H3 (s2.trans s3) g3.tl (lc_done hD0M hD ra)
theorem rd_lcT {tl : TE} {tt : TT} {te : TE} {i : Nat} {l : List D} (f : D → Option D) (hl : Rd K M tl σ H (.tup l)) (hlen : l.length < sizeLine) (hT : ∀ x ∈ l, ∀ H', Same H H' → Turns K M σ H' i tt te x (f x)) :
    Rd K M (tLc (iTup K tl) (gName i) tt te [i]) σ H (.lst (l.filterMap f)) := fun H1 s1 g Q k => hl H1 s1 g _ fun x H2 s2 g2 rx => by
  obtain ⟨a, vs, rfl, e1, r1⟩ := rx
  have ea := wo_le _ _ e1
  refine ⟨a, rfl, ⟨vs, SqT.of ea⟩, fun D0 hD0 => ?_⟩
  have hD0M := g2.out hD0
  refine lc_tup (K := K) (a := a) (xs := vs) (fun n H3 => ∃ acc, Same H2 H3 ∧ Gd K (D0 :: M) H3 ∧ H3 D0 = some (.lst acc) ∧ RpL K (wo (D0 :: M) H3) ((l.take n).filterMap f) acc) ?_ ?_ ?_ ?_
  · exact ⟨[], same_new hD0, (g2.same (same_new hD0)).lst upd_same, upd_same, rfl⟩
  · rintro n H3 _ ⟨acc, s3, _⟩
    exact SqT.of (s3 _ _ ea)
  · rintro n v H3 hi ⟨acc, s3, g3, hD, ra⟩
    obtain ⟨x, hx, rv⟩ := r1.get' hi
    exact lc_turn (hT x (List.mem_of_getElem? hx) H2 (s1.trans s2)) hlen hD0 hx s3 g3 (Rp.same (wo_cons hD0 s3) _ rv) hD ra fun H4 acc' s4 g4 h4 r4 => ⟨acc', s4, g4, h4, r4⟩
  · rintro H3 ⟨acc, s3, g3, hD, ra⟩
    rw [r1.len, List.take_length] at ra
    exact k _ H3 (s2.trans s3) g3.tl (lc_done hD0M hD ra)
/-- over range(n) -/
def rngD (n : Nat) : List D := (List.range n).map fun j : Nat => D.int (j : Int)
theorem rng_at {n j : Nat} (h : j < n) : (rngD n)[j]? = some (.int (j : Int)) := by
  unfold rngD
  rw [List.getElem?_map, List.getElem?_range h]
  rfl
theorem rng_len (n : Nat) : (rngD n).length = n := by
  unfold rngD
  rw [List.length_map, List.length_range]
theorem rd_lcR {ta : TA} {tt : TT} {te : TE} {i : Nat} {n : Nat} (f : D → Option D) (hl : RdA K M ta σ H [.int n]) (hlen : n < sizeLine) (hT : ∀ j, j < n → ∀ H', Same H H' → Turns K M σ H' i tt te (.int j) (f (.int j))) :
    Rd K M (tLc (iRng1 ta) (gName i) tt te [i]) σ H (.lst ((rngD n).filterMap f)) := fun H1 s1 g Q k => hl H1 s1 g _ fun xs H2 s2 g2 rx => by
  obtain ⟨v, rfl, rv⟩ := rp1 rx
  cases rv
  have hs : sizeLine < 2 ^ 62 := by decide
  refine ⟨n, rfl, by omega, by omega, fun D0 hD0 => ?_⟩
  have hD0M := g2.out hD0
  have en : ((n : Int)).toNat = n := Int.toNat_natCast n
  rw [en]
  refine lc_range (lo := 0) (n := n) (fun m H3 => ∃ acc, Same H2 H3 ∧ Gd K (D0 :: M) H3 ∧ H3 D0 = some (.lst acc) ∧ RpL K (wo (D0 :: M) H3) (((rngD n).take m).filterMap f) acc) ?_ ?_ ?_
  · exact ⟨[], same_new hD0, (g2.same (same_new hD0)).lst upd_same, upd_same, rfl⟩
  · rintro m H3 hm ⟨acc, s3, g3, hD, ra⟩
    rw [Int.zero_add]
    exact lc_turn (hT m hm H2 (s1.trans s2)) (by rw [rng_len]; exact hlen) hD0 (rng_at hm) s3 g3 rfl hD ra fun H4 acc' s4 g4 h4 r4 => ⟨acc', s4, g4, h4, r4⟩
  · rintro H3 ⟨acc, s3, g3, hD, ra⟩
    rw [List.take_of_length_le (by rw [rng_len]; exact Nat.le_refl _)] at ra
    exact k _ H3 (s2.trans s3) g3.tl (lc_done hD0M hD ra)
theorem rdt_yes : RdT K M tYes σ H true := fun H1 s1 g Q k => k H1 (Same.refl _) g
/-- [e for x in ..] -/
theorem turns_map {i : Nat} {te : TE} {x y : D} (h : ∀ M' H' v, Same H H' → Same (wo M H) (wo M' H') → Gd K M' H' → Rp K (wo M' H') x v → Rd K M' te ((L2.wipe σ [i]).set i (some v)) H' y) : Turns K M σ H i tYes te x (some y) :=
  fun M' H' v s f g r => ⟨true, rdt_yes, fun _ => ⟨y, rfl, h M' H' v s f g r⟩, fun z => by cases z⟩
theorem turns_if {i : Nat} {tt : TT} {te : TE} {x y : D} {b : Bool} (ht : ∀ M' H' v, Same H H' → Same (wo M H) (wo M' H') → Gd K M' H' → Rp K (wo M' H') x v → RdT K M' tt ((L2.wipe σ [i]).set i (some v)) H' b)
    (h : b = true → ∀ M' H' v, Same H H' → Same (wo M H) (wo M' H') → Gd K M' H' → Rp K (wo M' H') x v → Rd K M' te ((L2.wipe σ [i]).set i (some v)) H' y) : Turns K M σ H i tt te x (if b = true then some y else none) :=
  fun M' H' v s f g r => ⟨b, ht M' H' v s f g r, fun z => ⟨y, by rw [if_pos z], h z M' H' v s f g r⟩, fun z => by rw [z]; rfl⟩
/-! ### x is None -/
def isN : D → Bool
  | .non => true
  | _ => false
theorem rp_isN {x : D} {v : V} (h : Rp K H x v) : decide (v = V.non) = isN x := by
  cases x with
  | non => cases h; rfl
  | bl b => cases h; rfl
  | int i => cases h; rfl
  | str s => cases h; rfl
  | lst l => obtain ⟨a, vs, rfl, _⟩ := h; rfl
  | tup l => obtain ⟨a, vs, rfl, _⟩ := h; rfl
  | chain rs => obtain ⟨a, rfl, _⟩ := h; rfl
  | cell r => obtain ⟨a, rfl, _⟩ := h; rfl
  | dic l => obtain ⟨a, o, rfl, _⟩ := h; rfl
  | ktup l => obtain ⟨a, o, vs, rfl, _⟩ := h; rfl
theorem rd_isN (ha : Rd K M ta σ H d) (hb : Rd K M tb σ H .non) : Rd K M (tOp (fun x y H Q => y = .non ∧ Q (.bl (decide (x = .non))) H) ta tb) σ H (.bl (isN d)) :=
  rd_op ha hb fun x y H1 Q g hx hy k => ⟨hy, k _ H1 (Same.refl _) g (by rw [rp_isN hx]; rfl)⟩
theorem rd_notN (ha : Rd K M ta σ H d) (hb : Rd K M tb σ H .non) : Rd K M (tOp (fun x y H Q => y = .non ∧ Q (.bl (!decide (x = .non))) H) ta tb) σ H (.bl (!isN d)) :=
  rd_op ha hb fun x y H1 Q g hx hy k => ⟨hy, k _ H1 (Same.refl _) g (by rw [rp_isN hx]; rfl)⟩
theorem isN_dO {o : Option Int} : isN (dO o) = o.isNone := by cases o <;> rfl
/-- [x for x in .. if x is not None] -/
theorem somes_map (os : List (Option Int)) : (os.map dO).filterMap (fun x => if (!isN x) = true then some x else none) = (os.filterMap id).map D.int := by
  induction os with
  | nil => rfl
  | cons o os ih => cases o <;> simp_all [dO, isN, List.filterMap]
theorem nones_map (os : List (Option Int)) : (os.map dO).filterMap (fun x => if (isN x) = true then some x else none) = List.replicate (os.countP Option.isNone) D.non := by
  induction os with
  | nil => rfl
  | cons o os ih => cases o <;> simp_all [dO, isN, List.filterMap, List.replicate_succ]
/-! ### == and != of data -/
mutual
def toPy : D → PyData
  | .non => .none
  | .bl b => .bool b
  | .int i => .int i
  | .str s => .str s
  | .lst l => .list (toPyL l)
  | .tup l => .tuple (toPyL l)
  | .chain _ => .none
  | .cell _ => .none
  | .dic _ => .none
  | .ktup l => .tuple (toPyL l)
def toPyL : List D → List PyData
  | [] => []
  | x :: xs => toPy x :: toPyL xs
end
/-- data without chains, of texts that are texts, nested at most n deep -/
inductive Ok : Nat → D → Prop
  | non {n : Nat} : Ok n .non
  | bl {n : Nat} {b : Bool} : Ok n (.bl b)
  | int {n : Nat} {i : Int} : Ok n (.int i)
  | str {n : Nat} {s : Str} (h : PyData.strOk s = true) : Ok n (.str s)
  | lst {n : Nat} {l : List D} (h : ∀ x ∈ l, Ok n x) : Ok (n + 1) (.lst l)
  | tup {n : Nat} {l : List D} (h : ∀ x ∈ l, Ok n x) : Ok (n + 1) (.tup l)
  | ktup {n : Nat} {l : List D} (h : ∀ x ∈ l, Ok n x) : Ok (n + 1) (.ktup l)
mutual
theorem Ok.dp (h : ∀ b, H b = H b) : ∀ (x : D) {n : Nat} {v : V}, Ok n x → Rp K H x v → Dp K H v (toPy x)
  | .non, _, _, _, r => by cases r; exact .non
  | .bl b, _, _, _, r => by cases r; exact .bl b
  | .int i, _, _, _, r => by cases r; exact .int i
  | .str s, _, _, _, r => by cases r; exact .str s
  | .lst l, _, _, o, r => by
    cases o with
    | lst ho =>
      obtain ⟨a, vs, rfl, e, rl⟩ := r
      exact .lst (SqL.of e) (Ok.dpL h l ho rl)
  | .tup l, _, _, o, r => by
    cases o with
    | tup ho =>
      obtain ⟨a, vs, rfl, e, rl⟩ := r
      exact .tup (SqT.of e) (Ok.dpL h l ho rl)
  | .chain _, _, _, o, _ => by cases o
  | .cell _, _, _, o, _ => by cases o
  | .dic _, _, _, o, _ => by cases o
  | .ktup l, _, _, o, r => by
    cases o with
    | ktup ho =>
      obtain ⟨a, ob, vs, rfl, e, _, rl⟩ := r
      exact .tup (.inl (.inr ⟨ob, e⟩)) (Ok.dpL h l ho rl)
theorem Ok.dpL (h : ∀ b, H b = H b) : ∀ (l : List D) {n : Nat} {vs : List V}, (∀ x ∈ l, Ok n x) → RpL K H l vs → DpAll K H vs (toPyL l)
  | [], _, _, _, r => by cases r; exact .nil
  | x :: xs, _, _, o, r => by
    obtain ⟨v, vs', rfl, r1, r2⟩ := r
    exact .cons (Ok.dp h x (o x List.mem_cons_self) r1) (Ok.dpL h xs (fun y hy => o y (List.mem_cons_of_mem _ hy)) r2)
end
mutual
theorem Ok.lay : ∀ (x : D) {n : Nat}, Ok n x → PyData.canLay0 (toPy x) = true ∧ (toPy x).depth ≤ n
  | .non, _, _ => ⟨rfl, Nat.zero_le _⟩
  | .bl b, _, _ => ⟨rfl, Nat.zero_le _⟩
  | .int i, _, _ => ⟨rfl, Nat.zero_le _⟩
  | .str s, _, o => by
    cases o with
    | str h =>
      refine ⟨?_, Nat.zero_le _⟩
      simp only [toPy, PyData.canLay0]
      exact h
  | .lst l, _, o => by
    cases o with
    | lst ho =>
      obtain ⟨h1, h2⟩ := Ok.layL l ho
      refine ⟨?_, ?_⟩
      · simp only [toPy, PyData.canLay0]
        exact h1
      · simp only [toPy, PyData.depth]
        omega
  | .tup l, _, o => by
    cases o with
    | tup ho =>
      obtain ⟨h1, h2⟩ := Ok.layL l ho
      refine ⟨?_, ?_⟩
      · simp only [toPy, PyData.canLay0]
        exact h1
      · simp only [toPy, PyData.depth]
        omega
  | .chain _, _, o => by cases o
  | .cell _, _, o => by cases o
  | .dic _, _, o => by cases o
  | .ktup l, _, o => by
    cases o with
    | ktup ho =>
      obtain ⟨h1, h2⟩ := Ok.layL l ho
      refine ⟨?_, ?_⟩
      · simp only [toPy, PyData.canLay0]
        exact h1
      · simp only [toPy, PyData.depth]
        omega
theorem Ok.layL : ∀ (l : List D) {n : Nat}, (∀ x ∈ l, Ok n x) → PyData.canLayAll0 (toPyL l) = true ∧ PyData.depthAll (toPyL l) ≤ n
  | [], _, _ => ⟨by simp only [toPyL, PyData.canLayAll0], by simp only [toPyL, PyData.depthAll]; exact Nat.zero_le _⟩
  | x :: xs, _, o => by
    obtain ⟨h1, h2⟩ := Ok.lay x (o x List.mem_cons_self)
    obtain ⟨h3, h4⟩ := Ok.layL xs fun y hy => o y (List.mem_cons_of_mem _ hy)
    refine ⟨?_, ?_⟩
    · simp only [toPyL, PyData.canLayAll0, h1, h3, Bool.and_self]
    · simp only [toPyL, PyData.depthAll]
      omega
end
theorem Ok.shaped {x : D} {n : Nat} (o : Ok n x) (hn : n ≤ 64) : SeqAt.shaped (toPy x) = true := by
  obtain ⟨h1, h2⟩ := Ok.lay x o
  unfold SeqAt.shaped
  rw [h1, decide_eq_true (Nat.le_trans h2 hn)]
  rfl
def eqD (x y : D) : Bool := PyData.eqv (toPy x) (toPy y)
theorem eqD_self {x : D} {n : Nat} (o : Ok n x) (hn : n ≤ 64) : eqD x x = true := eqv_self (o.shaped hn)
theorem rd_eqD {n m : Nat} (o : Ok n da) (hn : n ≤ 64) (p : Ok m db) (hm : m ≤ 64) (ha : Rd K M ta σ H da) (hb : Rd K M tb σ H db) : Rd K M (tOp (rEqD K) ta tb) σ H (.bl (eqD da db)) :=
  rd_op ha hb fun x y H1 Q g hx hy k => ⟨toPy da, toPy db, Ok.dp (fun _ => rfl) da o hx.here, Ok.dp (fun _ => rfl) db p hy.here, o.shaped hn, p.shaped hm, k _ H1 (Same.refl _) g rfl⟩
theorem rd_neD {n m : Nat} (o : Ok n da) (hn : n ≤ 64) (p : Ok m db) (hm : m ≤ 64) (ha : Rd K M ta σ H da) (hb : Rd K M tb σ H db) : Rd K M (tOp (rNeD K) ta tb) σ H (.bl (!eqD da db)) :=
  rd_op ha hb fun x y H1 Q g hx hy k => ⟨toPy da, toPy db, Ok.dp (fun _ => rfl) da o hx.here, Ok.dp (fun _ => rfl) db p hy.here, o.shaped hn, p.shaped hm, k _ H1 (Same.refl _) g rfl⟩
/-- what is asked to be the same is the same -/
theorem rdt_ne0 {n : Nat} (e : da = db) (o : Ok n da) (hn : n ≤ 64) (ha : Rd K M ta σ H da) (hb : Rd K M tb σ H db) : RdT K M (tTest (tOp (rNeD K) ta tb)) σ H false := by
  subst e
  have h := rd_neD o hn o hn ha hb
  rw [eqD_self o hn] at h
  exact rdt_cmp h
theorem ok_ints {ns : List Int} : Ok 1 (.lst (ns.map D.int)) := .lst fun x hx => by
  obtain ⟨i, _, rfl⟩ := List.mem_map.mp hx
  exact .int
theorem ok_dO {o : Option Int} {n : Nat} : Ok n (dO o) := by cases o <;> constructor
theorem ok_opts {os : List (Option Int)} : Ok 1 (.lst (os.map dO)) := .lst fun x hx => by
  obtain ⟨i, _, rfl⟩ := List.mem_map.mp hx
  exact ok_dO
theorem ok_optsT {os : List (Option Int)} : Ok 1 (.tup (os.map dO)) := .tup fun x hx => by
  obtain ⟨i, _, rfl⟩ := List.mem_map.mp hx
  exact ok_dO
/-- flat == and != -/
theorem rd_eqI {i j : Int} (ha : Rd K M ta σ H (.int i)) (hb : Rd K M tb σ H (.int j)) : Rd K M (tOp rEq ta tb) σ H (.bl (decide (i = j))) :=
  rd_op ha hb fun x y H1 Q g hx hy k => by
    cases hx
    cases hy
    refine ⟨rfl, k _ H1 (Same.refl _) g ?_⟩
    show V.bl (decide (V.int i = V.int j)) = V.bl (decide (i = j))
    simp
theorem rd_neI {i j : Int} (ha : Rd K M ta σ H (.int i)) (hb : Rd K M tb σ H (.int j)) : Rd K M (tOp rNe ta tb) σ H (.bl (!decide (i = j))) :=
  rd_op ha hb fun x y H1 Q g hx hy k => by
    cases hx
    cases hy
    refine ⟨rfl, k _ H1 (Same.refl _) g ?_⟩
    show V.bl (!decide (V.int i = V.int j)) = V.bl (!decide (i = j))
    simp
theorem rd_eqS {i j : Str} (ha : Rd K M ta σ H (.str i)) (hb : Rd K M tb σ H (.str j)) : Rd K M (tOp rEq ta tb) σ H (.bl (decide (i = j))) :=
  rd_op ha hb fun x y H1 Q g hx hy k => by
    cases hx
    cases hy
    refine ⟨rfl, k _ H1 (Same.refl _) g ?_⟩
    show V.bl (decide (V.str i = V.str j)) = V.bl (decide (i = j))
    simp
theorem rd_neS {i j : Str} (ha : Rd K M ta σ H (.str i)) (hb : Rd K M tb σ H (.str j)) : Rd K M (tOp rNe ta tb) σ H (.bl (!decide (i = j))) :=
  rd_op ha hb fun x y H1 Q g hx hy k => by
    cases hx
    cases hy
    refine ⟨rfl, k _ H1 (Same.refl _) g ?_⟩
    show V.bl (!decide (V.str i = V.str j)) = V.bl (!decide (i = j))
    simp
/-! ### chains -/
theorem new_chain {H1 : Hp} {Q : VK} {rs : List Rule} (g : Gd K M H1) (k : ∀ v H2, Same H1 H2 → Gd K M H2 → Rp K (wo M H2) (.chain rs) v → Q v H2) : NewCh K H1 rs Q :=
  fun x H2 hx s c => k _ H2 s (g.same s) ⟨x, rfl, chain_wo (g.same s) c⟩
def runD (rs : List Rule) (ns : List Int) : D := .tup [.lst ((runR rs (nones rs.length) ns).1.map dO), .tup ((runR rs (nones rs.length) ns).2.map dO)]
theorem new_run {H1 : Hp} {Q : VK} {rs : List Rule} {ns : List Int} (g : Gd K M H1) (k : ∀ v H2, Same H1 H2 → Gd K M H2 → Rp K (wo M H2) (runD rs ns) v → Q v H2) : NewRun H1 rs ns Q :=
  fun p o h H2 hp ho hh s e1 e2 e3 => by
    refine k _ H2 s (g.same s) ⟨p, _, rfl, by rw [wo_at (g.out hp)]; exact e1, _, _, rfl, ⟨o, _, rfl, by rw [wo_at (g.out ho)]; exact e2, rp_opts.mpr rfl⟩, _, _, rfl, ⟨h, _, rfl, by rw [wo_at (g.out hh)]; exact e3, rp_opts.mpr rfl⟩, rfl⟩
theorem rd_chcall {X : Cx} {tf : TE} {t : TA} {rs : List Rule} {ns : List Int} (hl : ns.length ≤ 1000) (hz : ∀ z ∈ ns, numOk z) (hf : Rd K M tf σ H (.chain rs)) (ha : RdA K M t σ H [.lst (ns.map D.int)]) :
    Rd K M (StX.tCallO X (ChC K) (spChCall K) E0 tf t) σ H (runD rs ns) := fun H1 s1 g Q k => hf H1 s1 g _ fun x H2 s2 g2 rx => by
  obtain ⟨c, rfl, cc⟩ := rx
  refine ⟨c, rfl, ha H2 (s1.trans s2) g2 _ fun xs H3 s3 g3 r3 => ?_⟩
  obtain ⟨v, rfl, a, vs, rfl, e1, r1⟩ := rp1 r3
  rw [rp_ints.mp r1] at e1
  have c3 : ChainAt K H3 c rs := (cc.same wo_le).same s3
  exact ⟨c3.ins, c, a, rs, ns, rfl, c3, wo_le _ _ e1, hl, hz, new_run g3 fun v H4 s4 => k v H4 ((s2.trans s3).trans s4)⟩
theorem rd_chneg {tf : TE} {rs : List Rule} (hf : Rd K M tf σ H (.chain rs)) : Rd K M (tUn (rChNeg K) tf) σ H (.chain (rs.map Rule.neg)) := fun H1 s1 g Q k => hf H1 s1 g _ fun x H2 s2 g2 rx => by
  obtain ⟨c, rfl, cc⟩ := rx
  exact ⟨c, rs, rfl, cc.same wo_le, new_chain g2 fun v H3 s3 => k v H3 (s2.trans s3)⟩
theorem rd_shift {rs qs : List Rule} (hl : rs.length + qs.length ≤ 8) (ha : Rd K M ta σ H (.chain rs)) (hb : Rd K M tb σ H (.chain qs)) : Rd K M (tOp (rShift K) ta tb) σ H (.chain (rs ++ qs)) :=
  rd_op ha hb fun x y H1 Q g hx hy k => by
    obtain ⟨c, rfl, cc⟩ := hx
    obtain ⟨e, rfl, ce⟩ := hy
    exact ⟨c, e, rs, qs, rfl, rfl, cc.same wo_le, ce.same wo_le, hl, new_chain g k⟩
theorem rd_cheq {rs qs : List Rule} (ha : Rd K M ta σ H (.chain rs)) (hb : Rd K M tb σ H (.chain qs)) : Rd K M (tOp (rChEq K) ta tb) σ H (.bl (decide (rs = qs))) :=
  rd_op ha hb fun x y H1 Q g hx hy k => by
    obtain ⟨c, rfl, cc⟩ := hx
    obtain ⟨e, rfl, ce⟩ := hy
    exact ⟨c, e, rs, qs, rfl, rfl, cc.same wo_le, ce.same wo_le, k _ H1 (Same.refl _) g rfl⟩
theorem rd_chne {rs qs : List Rule} (ha : Rd K M ta σ H (.chain rs)) (hb : Rd K M tb σ H (.chain qs)) : Rd K M (tOp (rChNe K) ta tb) σ H (.bl (!decide (rs = qs))) :=
  rd_op ha hb fun x y H1 Q g hx hy k => by
    obtain ⟨c, rfl, cc⟩ := hx
    obtain ⟨e, rfl, ce⟩ := hy
    exact ⟨c, e, rs, qs, rfl, rfl, cc.same wo_le, ce.same wo_le, k _ H1 (Same.refl _) g rfl⟩
theorem rd_chlen {t : TA} {rs : List Rule} (h : RdA K M t σ H [.chain rs]) : Rd K M (tCB (fun xs H Q => ∃ (c : Addr) (rs : List Rule), xs = [.ref c] ∧ ChainAt K H c rs ∧ Q (.int rs.length) H) t) σ H (.int rs.length) :=
  rd_cb h fun xs H1 Q g hx k => by
    obtain ⟨v, rfl, c, rfl, cc⟩ := rp1 hx
    exact ⟨c, rs, rfl, cc.same wo_le, k _ H1 (Same.refl _) g rfl⟩
theorem rd_chix {rs : List Rule} {i : Nat} {r : Rule} (hi : rs[i]? = some r) (ha : Rd K M ta σ H (.chain rs)) (hb : Rd K M tb σ H (.int i)) : Rd K M (tOp (rChIx K) ta tb) σ H (.cell r) :=
  rd_op ha hb fun x y H1 Q g hx hy k => by
    obtain ⟨c, rfl, cc⟩ := hx
    exact ⟨c, rs, i, r, rfl, hy, cc.same wo_le, hi, fun a ca => k _ H1 (Same.refl _) g ⟨a, rfl, cell_wo g ca⟩⟩
theorem rd_label {tf : TE} {r : Rule} (hf : Rd K M tf σ H (.cell r)) : Rd K M (tLabel K tf) σ H (.str r.label) := fun H1 s1 g Q k => hf H1 s1 g _ fun x H2 s2 g2 rx => by
  obtain ⟨c, rfl, cc⟩ := rx
  exact ⟨c, r, rfl, cc.same wo_le, k _ H2 s2 g2 rfl⟩
theorem rd_chtext {tf : TE} {rs : List Rule} (hf : Rd K M tf σ H (.chain rs)) : Rd K M (tProp (ChC K) (spText K) [] E0 tf) σ H (.str (txtOf rs)) := fun H1 s1 g Q k => hf H1 s1 g _ fun x H2 s2 g2 rx => by
  obtain ⟨c, rfl, cc⟩ := rx
  have c2 := cc.same wo_le
  obtain ⟨dx, t, as, h1, h2, h3, h4⟩ := id c2
  exact ⟨c, dx, _, rfl, h1, c, rs, rfl, c2, fun H3 s3 => k _ H3 (s2.trans s3) (g2.same s3) rfl⟩
theorem rd_chempty {tf : TE} {rs : List Rule} (hf : Rd K M tf σ H (.chain rs)) : Rd K M (tProp (ChC K) (spEmpty K) [] E0 tf) σ H (.tup ((nones rs.length).map dO)) := fun H1 s1 g Q k => hf H1 s1 g _ fun x H2 s2 g2 rx => by
  obtain ⟨c, rfl, cc⟩ := rx
  have c2 := cc.same wo_le
  obtain ⟨dx, t, as, h1, h2, h3, h4⟩ := id c2
  exact ⟨c, dx, _, rfl, h1, c, rs, rfl, c2, fun p H3 hp s3 e3 => k _ H3 (s2.trans s3) (g2.same s3) ⟨p, _, rfl, by rw [wo_at (g2.out hp)]; exact e3, rp_opts.mpr rfl⟩⟩
end
end SC
set_option maxRecDepth 100000
set_option maxHeartbeats 2000000
/-! # Part Z: calls of defs that only look, small comprehensions -/
namespace SC
open PySem PySem.Spec PyProof.Rows L2 TL
/-- labels as values -/
def lbV (rs : List Rule) : List V := (rs.map Rule.label).map V.str
def spLabels : Sp := fun vs H Q _ => ∃ (d : Addr) (M : Int) (ds : List Int), vs = [.ref d, .int M] ∧ 0 < M ∧ M ≤ 8 ∧ H d = some (.lst (ds.map V.int)) ∧ DOk ds ∧
  ∀ (p : Addr) (H' : Hp) (rs : List Rule) (ds' : List Int), H p = none → Fr1 d H H' → DOk ds' → H' d = some (.lst (ds'.map V.int)) → H' p = some (.lst (lbV rs)) → 1 ≤ rs.length → (rs.length : Int) ≤ M → (∀ r ∈ rs, r.ok) → Q (.ref p) H'
def spChainOf (K : PySem.W.Frag) : Sp := fun vs H Q _ => ∃ (p : Addr) (rs : List Rule), vs = [.ref p] ∧ H p = some (.lst (lbV rs)) ∧ (∀ r ∈ rs, r.ok) ∧ 1 ≤ rs.length ∧ rs.length ≤ 8 ∧ NewCh K H rs Q
def lbD (rs : List Rule) : List D := (rs.map Rule.label).map D.str
theorem line_big : 16777216 = sizeLine := by decide
section
variable {K : PySem.W.Frag} {M : List Addr} {σ : L2.St} {H : Hp} {t ta tb tc : TE} {d da db : D}
theorem rp_lbs {rs : List Rule} {vs : List V} : RpL K H (lbD rs) vs ↔ vs = lbV rs := rp_strs
theorem rp_new {p : Addr} {l : List D} {vs : List V} (hp : p ∉ M) (h : H p = some (.lst vs)) (r : RpL K (wo M H) l vs) : Rp K (wo M H) (.lst l) (.ref p) := ⟨p, vs, rfl, by rw [wo_at hp]; exact h, r⟩
theorem rp_newT {p : Addr} {l : List D} {vs : List V} (hp : p ∉ M) (h : H p = some (.tup vs)) (r : RpL K (wo M H) l vs) : Rp K (wo M H) (.tup l) (.ref p) := ⟨p, vs, rfl, by rw [wo_at hp]; exact h, r⟩
theorem ok_lbs {rs : List Rule} : Ok 1 (.lst (lbD rs)) := .lst fun x hx => by
  obtain ⟨s, hs, rfl⟩ := List.mem_map.mp hx
  obtain ⟨r, _, rfl⟩ := List.mem_map.mp hs
  exact .str label_small
/-- _law_chain(labels) -/
theorem rd_chainOf {u : TA} {rs : List Rule} (hok : ∀ r ∈ rs, r.ok) (h1 : 1 ≤ rs.length) (h8 : rs.length ≤ 8) (h : RdA K M u σ H [.lst (lbD rs)]) : Rd K M (tCall (spChainOf K) [] E0 u) σ H (.chain rs) :=
  fun H1 s1 g Q k => h H1 s1 g _ fun xs H2 s2 g2 r2 => by
    obtain ⟨v, rfl, a, vs, rfl, e1, r1⟩ := rp1 r2
    rw [rp_lbs.mp r1] at e1
    exact ⟨a, rs, rfl, wo_le _ _ e1, hok, h1, h8, new_chain g2 fun v H3 s3 => k v H3 (s2.trans s3)⟩
/-- the own name of a comprehension -/
theorem rd_own {i : Nat} {v : V} {x : D} (hi : i < σ.length) (r : Rp K (wo M H) x v) : Rd K M (tVar i) ((L2.wipe σ [i]).set i (some v)) H x :=
  rd_var (by rw [List.getElem?_set_self (by rw [L2.wipe_length]; exact hi)]) r
theorem turns_some {i : Nat} {x : D} (hi : i < σ.length) : Turns K M σ H i (tTest (tOp (fun x y H Q => y = .non ∧ Q (.bl (!decide (x = .non))) H) (tVar i) (tC .non))) (tVar i) x (if (!isN x) = true then some x else none) :=
  turns_if (fun M' H' v s f g r => rdt_cmp (rd_notN (rd_own hi r) rd_non)) (fun _ M' H' v s f g r => rd_own hi r)
theorem turns_none {i : Nat} {x : D} (hi : i < σ.length) : Turns K M σ H i (tTest (tOp (fun x y H Q => y = .non ∧ Q (.bl (decide (x = .non))) H) (tVar i) (tC .non))) (tVar i) x (if (isN x) = true then some x else none) :=
  turns_if (fun M' H' v s f g r => rdt_cmp (rd_isN (rd_own hi r) rd_non)) (fun _ M' H' v s f g r => rd_own hi r)
/-- [x for x in xs if x is not None], numbers and None -/
theorem rd_somesL {tl : TE} {i : Nat} {os : List (Option Int)} (hi : i < σ.length) (hl : os.length < sizeLine) (h : Rd K M tl σ H (.lst (os.map dO))) :
    Rd K M (tLc (iList K tl) (gName i) (tTest (tOp (fun x y H Q => y = .non ∧ Q (.bl (!decide (x = .non))) H) (tVar i) (tC .non))) (tVar i) [i]) σ H (.lst ((os.filterMap id).map D.int)) := by
  have z := rd_lcL (K := K) (M := M) (i := i) (fun x => if (!isN x) = true then some x else none) h (by rw [List.length_map]; exact hl) fun x _ H' _ => turns_some (K := K) (M := M) (σ := σ) (H := H') (i := i) (x := x) hi
  rw [somes_map] at z
  exact z
theorem rd_somesT {tl : TE} {i : Nat} {os : List (Option Int)} (hi : i < σ.length) (hl : os.length < sizeLine) (h : Rd K M tl σ H (.tup (os.map dO))) :
    Rd K M (tLc (iTup K tl) (gName i) (tTest (tOp (fun x y H Q => y = .non ∧ Q (.bl (!decide (x = .non))) H) (tVar i) (tC .non))) (tVar i) [i]) σ H (.lst ((os.filterMap id).map D.int)) := by
  have z := rd_lcT (K := K) (M := M) (i := i) (fun x => if (!isN x) = true then some x else none) h (by rw [List.length_map]; exact hl) fun x _ H' _ => turns_some (K := K) (M := M) (σ := σ) (H := H') (i := i) (x := x) hi
  rw [somes_map] at z
  exact z
/-- [f(x) for x in xs], xs numbers; or numbers and None -/
theorem map_some {α β γ : Type} (l : List α) (f : α → β) (g : β → Option γ) (k : α → γ) (h : ∀ x ∈ l, g (f x) = some (k x)) : (l.map f).filterMap g = l.map k := by
  induction l with
  | nil => rfl
  | cons x xs ih =>
    rw [List.map_cons, List.filterMap_cons, h x List.mem_cons_self, List.map_cons, ih fun y hy => h y (List.mem_cons_of_mem _ hy)]
theorem rd_mapL {α : Type} {tl : TE} {i : Nat} {te : TE} (l : List α) (f : α → D) (k : α → D) (hl : l.length < sizeLine) (h : Rd K M tl σ H (.lst (l.map f)))
    (ht : ∀ x ∈ l, ∀ H1, Same H H1 → ∀ M' H' v, Same H1 H' → Same (wo M H1) (wo M' H') → Gd K M' H' → Rp K (wo M' H') (f x) v → Rd K M' te ((L2.wipe σ [i]).set i (some v)) H' (k x)) :
    Rd K M (tLc (iList K tl) (gName i) tYes te [i]) σ H (.lst (l.map k)) := fun H1 s1 g Q kk => h H1 s1 g _ fun x H2 s2 g2 rx => by
  obtain ⟨a, vs, rfl, e1, r1⟩ := rx
  have ea := wo_le _ _ e1
  refine ⟨a, rfl, ⟨vs, SqL.of ea⟩, fun D0 hD0 => ?_⟩
  have hD0M := g2.out hD0
  refine lc_list (K := K) (a := a) (xs := vs) (fun n H3 => ∃ acc, Same H2 H3 ∧ Gd K (D0 :: M) H3 ∧ H3 D0 = some (.lst acc) ∧ RpL K (wo (D0 :: M) H3) ((l.take n).map k) acc) ?_ ?_ ?_ ?_
  · exact ⟨[], same_new hD0, (g2.same (same_new hD0)).lst upd_same, upd_same, rfl⟩
  · rintro n H3 _ ⟨acc, s3, _⟩
    exact SqL.of (s3 _ _ ea)
  · rintro n v H3 hi ⟨acc, s3, g3, hD, ra⟩
    obtain ⟨x, hx, rv⟩ := r1.get' hi
    rw [List.getElem?_map] at hx
    cases q : l[n]? with
    | none => rw [q] at hx; cases hx
    | some z =>
      rw [q] at hx
      cases hx
      have rv3 := Rp.same (wo_cons (M := M) hD0 s3) _ rv
      refine ⟨wipe_one, ?_⟩
      simp only [tYes, if_true]
      refine ht z (List.mem_of_getElem? q) H2 (s1.trans s2) (D0 :: M) H3 v s3 (wo_cons hD0 s3) g3 rv3 H3 (Same.refl _) g3 _ fun y H5 s5 g5 r5 => ?_
      have r6 : RpL K (wo (D0 :: M) H5) ((l.take n).map k) acc := RpL.same (swo s5) _ ra
      refine ⟨acc, s5 _ _ hD, ?_, acc ++ [y], ?_, g5.at trivial, upd_same, ?_⟩
      · rw [r6.len, List.length_map, List.length_take]
        omega
      · intro b o hb
        rw [upd_ne (ne_of_none hb hD0)]
        exact s5 _ _ (s3 _ _ hb)
      · rw [wo_upd List.mem_cons_self, take_more q, List.map_append]
        exact r6.snoc r5
  · rintro H3 ⟨acc, s3, g3, hD, ra⟩
    rw [r1.len, List.length_map, List.take_length] at ra
    exact kk _ H3 (s2.trans s3) g3.tl (lc_done hD0M hD ra)
theorem rd_mapT {α : Type} {tl : TE} {i : Nat} {te : TE} (l : List α) (f : α → D) (k : α → D) (hl : l.length < sizeLine) (h : Rd K M tl σ H (.tup (l.map f)))
    (ht : ∀ x ∈ l, ∀ H1, Same H H1 → ∀ M' H' v, Same H1 H' → Same (wo M H1) (wo M' H') → Gd K M' H' → Rp K (wo M' H') (f x) v → Rd K M' te ((L2.wipe σ [i]).set i (some v)) H' (k x)) :
    Rd K M (tLc (iTup K tl) (gName i) tYes te [i]) σ H (.lst (l.map k)) := fun H1 s1 g Q kk => h H1 s1 g _ fun x H2 s2 g2 rx => by
  obtain ⟨a, vs, rfl, e1, r1⟩ := rx
  have ea := wo_le _ _ e1
  refine ⟨a, rfl, ⟨vs, SqT.of ea⟩, fun D0 hD0 => ?_⟩
  have hD0M := g2.out hD0
  refine lc_tup (K := K) (a := a) (xs := vs) (fun n H3 => ∃ acc, Same H2 H3 ∧ Gd K (D0 :: M) H3 ∧ H3 D0 = some (.lst acc) ∧ RpL K (wo (D0 :: M) H3) ((l.take n).map k) acc) ?_ ?_ ?_ ?_
  · exact ⟨[], same_new hD0, (g2.same (same_new hD0)).lst upd_same, upd_same, rfl⟩
  · rintro n H3 _ ⟨acc, s3, _⟩
    exact SqT.of (s3 _ _ ea)
  · rintro n v H3 hi ⟨acc, s3, g3, hD, ra⟩
    obtain ⟨x, hx, rv⟩ := r1.get' hi
    rw [List.getElem?_map] at hx
    cases q : l[n]? with
    | none => rw [q] at hx; cases hx
    | some z =>
      rw [q] at hx
      cases hx
      have rv3 := Rp.same (wo_cons (M := M) hD0 s3) _ rv
      refine ⟨wipe_one, ?_⟩
      simp only [tYes, if_true]
      refine ht z (List.mem_of_getElem? q) H2 (s1.trans s2) (D0 :: M) H3 v s3 (wo_cons hD0 s3) g3 rv3 H3 (Same.refl _) g3 _ fun y H5 s5 g5 r5 => ?_
      have r6 : RpL K (wo (D0 :: M) H5) ((l.take n).map k) acc := RpL.same (swo s5) _ ra
      refine ⟨acc, s5 _ _ hD, ?_, acc ++ [y], ?_, g5.at trivial, upd_same, ?_⟩
      · rw [r6.len, List.length_map, List.length_take]
        omega
      · intro b o hb
        rw [upd_ne (ne_of_none hb hD0)]
        exact s5 _ _ (s3 _ _ hb)
      · rw [wo_upd List.mem_cons_self, take_more q, List.map_append]
        exact r6.snoc r5
  · rintro H3 ⟨acc, s3, g3, hD, ra⟩
    rw [r1.len, List.length_map, List.take_length] at ra
    exact kk _ H3 (s2.trans s3) g3.tl (lc_done hD0M hD ra)
/-- None if x is None else f(x) -/
theorem rd_optI {i : Nat} {o : Option Int} {te : TE} {f : Int → Int} (hv : Rd K M (tVar i) σ H (dO o)) (h : ∀ z, o = some z → Rd K M te σ H (.int (f z))) :
    Rd K M (tIf (tTest (tOp (fun x y H Q => y = .non ∧ Q (.bl (decide (x = .non))) H) (tVar i) (tC .non))) (tC .non) te) σ H (dO (o.map f)) := by
  cases o with
  | none => exact rd_if (da := .non) (db := .non) (rdt_cmp (rd_isN hv rd_non)) (fun _ => rd_non) (fun z => by cases z)
  | some z => exact rd_if (da := .non) (db := .non) (rdt_cmp (rd_isN hv rd_non)) (fun z => by cases z) (fun _ => h z rfl)
theorem rep_one {α : Type} (z : α) (n : Nat) : (List.replicate n [z]).flatten = List.replicate n z := rep_flat z n
/-- count(None) of numbers and None -/
theorem rd_countN {to : TE} {u : TA} {os : List (Option Int)} (h : Rd K M to σ H (.lst (os.map dO))) (hu : RdA K M u σ H [.non]) : Rd K M (tBM K "list" (rCountF K) to u) σ H (.int (os.countP Option.isNone : Nat)) :=
  fun H1 s1 g Q k => h H1 s1 g _ fun x H2 s2 g2 rx => by
    obtain ⟨a, vs, rfl, e1, r1⟩ := rx
    have e := rp_opts.mp r1
    subst e
    refine ⟨.inl ⟨rfl, _, SqL.of (wo_le _ _ e1)⟩, hu H2 (s1.trans s2) g2 _ fun xs H3 s3 g3 r3 => ?_⟩
    obtain ⟨v, rfl, rv⟩ := rp1 r3
    cases rv
    have fl : ∀ l : List (Option Int), (l.map ov).all flatV = true := fun l => by
      rw [List.all_eq_true]
      intro y hy
      obtain ⟨o, _, rfl⟩ := List.mem_map.mp hy
      cases o <;> rfl
    have ct : ∀ l : List (Option Int), (l.map ov).countP (fun z => eqV z .non) = l.countP Option.isNone := fun l => by
      rw [List.countP_map]
      congr 1
      funext o
      cases o <;> rfl
    refine ⟨a, os.map ov, .non, rfl, rfl, SqL.of (s3 _ _ (wo_le _ _ e1)), rfl, fl os, k _ H3 (s2.trans s3) g3 ?_⟩
    show V.int _ = V.int _
    rw [ct os]
end
end SC
set_option maxRecDepth 100000
set_option maxHeartbeats 2000000
/-! # Part W: a def of the text by its name -/
namespace SC
open PySem PySem.Spec PyProof.Rows L2 TL
def Fu (P : Program) (w : World) (K : PySem.W.Frag) (mg : Str → Option Value) (base : Heap) (CX : CXT) (k : Nat) (x : Str) (ps : List Str) (sp : Sp) : Prop :=
  ∃ g gd, FnOk P w K mg base CX k g gd ps sp ∧ Binds K gd ps [] ∧ PySem.W.keepIn K (.ref g) = true ∧ mg x = some (.ref g)
theorem Fu.mk {P : Program} {w : World} {K : PySem.W.Frag} {mg : Str → Option Value} {base : Heap} {CX : CXT} {k : Nat} {x : Str} {ps : List Str} {sp : Sp} {g : Addr} {gd : FuncData} (F : FnOk P w K mg base CX k g gd ps sp) (b : Binds K gd ps []) (h : PySem.W.keepIn K (.ref g) = true) (m : mg x = some (.ref g)) : Fu P w K mg base CX k x ps sp := ⟨g, gd, F, b, h, m⟩
theorem pe_fu {X : Cx} {CX : CXT} {k n : Nat} {x : Str} {ps : List Str} {sp : Sp} {E : XK} {e : Expr} {es : List Expr} {t : TA} {p pos : Pos} (F : Fu X.prog X.w X.K X.mg X.base CX k x ps sp) (hr : Room n X.A) (hn : k ≤ n) (hg : Gl X x) (hx : Passes CX X E)
    (ha : PA X (e :: es) t) (hdb : (x == ("__debug__" : Str)) = false := by decide) (he : starEach (e :: es) X.env = (false, eval e X.env) :: starEach es X.env := by rfl) (hpl : (backTo pos (starEach es X.env)).any (·.1) = false := by rfl) :
    PE X (.Call (.Name x p) (e :: es) [] pos) (tCall sp [] E t) := by
  obtain ⟨g, gd, F, b, h, m⟩ := F
  exact pe_call F (hr.mono hn) hg m h b .nil hx ha hdb he hpl
section
variable {K : PySem.W.Frag} {M : List Addr} {σ : L2.St} {H : Hp} {t ta tb tc : TE} {d da db : D}
/-- a, b = x, y -/
theorem use_par {i j : Nat} {u : TA} {D : Ends} {x y : SC.D} (h : RdA K M u σ H [x, y]) (g : Gd K M H) (k : ∀ v w H2, Same H H2 → Gd K M H2 → Rp K (wo M H2) x v → Rp K (wo M H2) y w → D.nx ((σ.set i (some v)).set j (some w)) H2) : tPar i j u D σ H :=
  h H (Same.refl _) g _ fun vs H2 s g2 r => by
    obtain ⟨v, vs1, rfl, r1, w, vs2, rfl, r2, r3⟩ := r
    cases r3
    exact ⟨v, w, rfl, k v w H2 s g2 r1 r2⟩
/-- a < b < c -/
theorem rdt_chain {r r' : R2} {b c : Bool} {y : SC.D} (h1 : Rd K M ta σ H da) (h2 : Rd K M tb σ H y) (h3 : Rd K M tc σ H db)
    (hr : ∀ x z H1 Q, Gd K M H1 → Rp K (wo M H1) da x → Rp K (wo M H1) y z → (∀ H2, Same H1 H2 → Gd K M H2 → Q (.bl b) H2) → r x z H1 Q) (hr' : ∀ x z H1 Q, Gd K M H1 → Rp K (wo M H1) y x → Rp K (wo M H1) db z → (∀ H2, Same H1 H2 → Gd K M H2 → Q (.bl c) H2) → r' x z H1 Q) :
    Rd K M (tChain r r' ta tb tc) σ H (.bl (b && c)) := fun H1 s1 g Q k => h1 H1 s1 g _ fun x H2 s2 g2 rx => h2 H2 (s1.trans s2) g2 _ fun z H3 s3 g3 rz => hr x z H3 _ g3 (Rp.same (swo s3) _ rx) rz fun H4 s4 g4 => ⟨b, rfl, by
      cases b with
      | false => exact iteF (k _ H4 ((s2.trans s3).trans s4) g4 rfl)
      | true => exact iteT (h3 H4 (((s1.trans s2).trans s3).trans s4) g4 _ fun q H5 s5 g5 rq => hr' z q H5 _ g5 (Rp.same (swo (s4.trans s5)) _ rz) rq fun H6 s6 g6 => k _ H6 ((((s2.trans s3).trans s4).trans s5).trans s6) g6 rfl)⟩
theorem rd_ltlt {i j l : Int} (h1 : Rd K M ta σ H (.int i)) (h2 : Rd K M tb σ H (.int j)) (h3 : Rd K M tc σ H (.int l)) : Rd K M (tChain (rI0 fun i j => .bl (decide (i < j))) (rI0 fun i j => .bl (decide (i < j))) ta tb tc) σ H (.bl (decide (i < j) && decide (j < l))) :=
  rdt_chain h1 h2 h3 (fun x z H1 Q g hx hz k => ⟨i, j, hx, hz, k H1 (Same.refl _) g⟩) (fun x z H1 Q g hx hz k => ⟨j, l, hx, hz, k H1 (Same.refl _) g⟩)
theorem Rd.cast {d' : SC.D} (e : d = d') (h : Rd K M t σ H d) : Rd K M t σ H d' := e ▸ h
theorem RdA.cast {u : TA} {l l' : List SC.D} (e : l = l') (h : RdA K M u σ H l) : RdA K M u σ H l' := e ▸ h
theorem rdt_test {b : Bool} (h : Rd K M t σ H (.bl b)) : RdT K M (tTest t) σ H b := fun H1 s1 g Q k => h H1 s1 g _ fun v H2 s2 g2 r2 => ⟨b, r2, k H2 s2 g2⟩
theorem RdT.cast {tt : TT} {b b' : Bool} (e : b = b') (h : RdT K M tt σ H b) : RdT K M tt σ H b' := e ▸ h
/-! lists of one kind -/
section
variable {α : Type} {f : α → SC.D} {xs ys : List α} {n : Nat}
theorem rd_takeM (ha : Rd K M ta σ H (.lst (xs.map f))) (hb : Rd K M tb σ H (.int n)) : Rd K M (tSl (rSlL K) ta tNoPart (tPart tb)) σ H (.lst ((xs.take n).map f)) :=
  (rd_slL ha rdo_none (rdo_some hb)).cast (by rw [cut_to, List.map_take])
theorem rd_dropM (ha : Rd K M ta σ H (.lst (xs.map f))) (hb : Rd K M tb σ H (.int n)) : Rd K M (tSl (rSlL K) ta (tPart tb) tNoPart) σ H (.lst ((xs.drop n).map f)) :=
  (rd_slL ha (rdo_some hb) rdo_none).cast (by rw [cut_from, List.map_drop])
theorem rd_takeT (ha : Rd K M ta σ H (.tup (xs.map f))) (hb : Rd K M tb σ H (.int n)) : Rd K M (tSl (rSlA K) ta tNoPart (tPart tb)) σ H (.tup ((xs.take n).map f)) :=
  (rd_slT ha rdo_none (rdo_some hb)).cast (by rw [cut_to, List.map_take])
theorem rd_dropT (ha : Rd K M ta σ H (.tup (xs.map f))) (hb : Rd K M tb σ H (.int n)) : Rd K M (tSl (rSlA K) ta (tPart tb) tNoPart) σ H (.tup ((xs.drop n).map f)) :=
  (rd_slT ha (rdo_some hb) rdo_none).cast (by rw [cut_from, List.map_drop])
theorem rd_revM (ha : Rd K M ta σ H (.lst (xs.map f))) : Rd K M (tRevL K ta) σ H (.lst (xs.reverse.map f)) := (rd_revL ha).cast (by rw [List.map_reverse])
theorem rd_catM (hl : xs.length + ys.length ≤ sizeLine) (ha : Rd K M ta σ H (.lst (xs.map f))) (hb : Rd K M tb σ H (.lst (ys.map f))) : Rd K M (tOp rCat ta tb) σ H (.lst ((xs ++ ys).map f)) :=
  (rd_cat (by rw [List.length_map, List.length_map]; exact hl) ha hb).cast (by rw [List.map_append])
theorem rd_catTM (hl : xs.length + ys.length ≤ sizeLine) (ha : Rd K M ta σ H (.tup (xs.map f))) (hb : Rd K M tb σ H (.tup (ys.map f))) : Rd K M (tOp (rCatA K) ta tb) σ H (.tup ((xs ++ ys).map f)) :=
  (rd_catT (by rw [List.length_map, List.length_map]; exact hl) ha hb).cast (by rw [List.map_append])
theorem rd_lenM {u : TA} (h : RdA K M u σ H [.lst (xs.map f)]) : Rd K M (tCB (fun xs H Q => ∃ p ys, xs = [.ref p] ∧ (SqL K H p ys ∨ SqT K H p ys) ∧ Q (.int ys.length) H) u) σ H (.int xs.length) := (rd_lenL h).cast (by rw [List.length_map])
theorem rd_lenTM {u : TA} (h : RdA K M u σ H [.tup (xs.map f)]) : Rd K M (tCB (fun xs H Q => ∃ p ys, xs = [.ref p] ∧ (SqL K H p ys ∨ SqT K H p ys) ∧ Q (.int ys.length) H) u) σ H (.int xs.length) := (rd_lenT h).cast (by rw [List.length_map])
theorem rd_repM {x : α} (hn : n ≤ sizeLine) (ha : Rd K M ta σ H (.lst [f x])) (hb : Rd K M tb σ H (.int n)) : Rd K M (tOp rRep ta tb) σ H (.lst ((List.replicate n x).map f)) := by
  have hs : sizeLine < 2 ^ 62 := by decide
  refine (rd_rep (n := (n : Int)) (by omega) (by omega) ?_ ha hb).cast ?_
  · rw [Int.toNat_natCast, List.length_singleton, Nat.one_mul]
    exact hn
  · rw [Int.toNat_natCast, rep_flat, List.map_replicate]
theorem rd_atM {x : α} (hx : xs[n]? = some x) (ha : Rd K M ta σ H (.lst (xs.map f))) (hb : Rd K M tb σ H (.int n)) : Rd K M (tOp (rIxL K) ta tb) σ H (f x) :=
  rd_ixL (atI_nat (j := n) (by rw [List.getElem?_map, hx]; rfl)) ha hb
theorem rd_atT {x : α} (hx : xs[n]? = some x) (ha : Rd K M ta σ H (.tup (xs.map f))) (hb : Rd K M tb σ H (.int n)) : Rd K M (tOp (rIxT K) ta tb) σ H (f x) :=
  rd_ixT (atI_nat (j := n) (by rw [List.getElem?_map, hx]; rfl)) ha hb
end
theorem ints_opts (ns : List Int) : ns.map D.int = (ns.map some).map dO := by
  rw [List.map_map]
  rfl
theorem nones_opts (n : Nat) : List.replicate n D.non = (nones n).map dO := by
  unfold nones
  rw [List.map_replicate]
  rfl
theorem rd_opts {ns : List Int} (h : Rd K M t σ H (.lst (ns.map D.int))) : Rd K M t σ H (.lst ((ns.map some).map dO)) := h.cast (by rw [ints_opts])
/-- a random number: what is left of the source -/
theorem use_below {u : TA} {lim : Int} {dd : Addr} {ds : List Int} {Q : VK} {H1 : Hp} (h0 : 0 < lim) (h1 : lim < 18446744073709551616) (hd : H1 dd = some (.lst (ds.map V.int))) (hD : DOk ds) (k : ∀ (i : Nat) (ds' : List Int), (i : Int) < lim → DOk ds' → Q (.int i) (upd H1 dd (.lst (ds'.map V.int)))) :
    spBelow [.ref dd, .int lim] H1 Q E0 := ⟨dd, lim, ds, rfl, h0, h1, hd, hD, fun i ds' a b c => by
      have e : ((i.toNat : Nat) : Int) = i := Int.toNat_of_nonneg a
      have z := k i.toNat ds' (by omega) c
      rw [e] at z
      exact z⟩
theorem rd_t0 {x y : SC.D} (ha : Rd K M ta σ H (.tup [x, y])) (hb : Rd K M tb σ H (.int 0)) : Rd K M (tOp (rIxT K) ta tb) σ H x := rd_ixT rfl ha hb
theorem rd_t1 {x y : SC.D} (ha : Rd K M ta σ H (.tup [x, y])) (hb : Rd K M tb σ H (.int 1)) : Rd K M (tOp (rIxT K) ta tb) σ H y := rd_ixT rfl ha hb
/-- what a row gives, its first and its second part -/
theorem rd_run0 {X : Cx} {tf : TE} {u : TA} {rs : List Rule} {ns : List Int} (hl : ns.length ≤ 1000) (hz : ∀ z ∈ ns, numOk z) (hf : Rd K M tf σ H (.chain rs)) (ha : RdA K M u σ H [.lst (ns.map D.int)]) :
    Rd K M (tOp (rIxT K) (StX.tCallO X (ChC K) (spChCall K) E0 tf u) (tC (.int 0))) σ H (.lst ((runR rs (nones rs.length) ns).1.map dO)) := rd_t0 (rd_chcall hl hz hf ha) rd_int
theorem rd_run1 {X : Cx} {tf : TE} {u : TA} {rs : List Rule} {ns : List Int} (hl : ns.length ≤ 1000) (hz : ∀ z ∈ ns, numOk z) (hf : Rd K M tf σ H (.chain rs)) (ha : RdA K M u σ H [.lst (ns.map D.int)]) :
    Rd K M (tOp (rIxT K) (StX.tCallO X (ChC K) (spChCall K) E0 tf u) (tC (.int 1))) σ H (.tup ((runR rs (nones rs.length) ns).2.map dO)) := rd_t1 (rd_chcall hl hz hf ha) rd_int
end
end SC
set_option maxRecDepth 100000
set_option maxHeartbeats 2000000
/-! # Part O: lists of random things; more readings -/
namespace SC
open PySem PySem.Spec PyProof.Rows L2 TL
/-- a source of random numbers stands at dd -/
def Src (dd : Addr) (H : Hp) : Prop := ∃ ds : List Int, DOk ds ∧ H dd = some (.lst (ds.map V.int))
theorem Src.same {dd : Addr} {H H' : Hp} (h : Src dd H) (s : Same H H') : Src dd H' := by
  obtain ⟨ds, h1, h2⟩ := h
  exact ⟨ds, h1, s _ _ h2⟩
section
variable {K : PySem.W.Frag} {M : List Addr} {σ : L2.St} {H : Hp} {t ta tb tc : TE} {d da db : D}
/-- _law_below(d, lim), read -/
theorem use_rand {dd : Addr} {lim : Int} {Q : VK} {vs : List V} (e : vs = [.ref dd, .int lim]) (h0 : 0 < lim) (h1 : lim < 18446744073709551616) (hs : Src dd H) (g : Gd K M H) (hm : dd ∈ M)
    (k : ∀ (i : Nat) (H' : Hp), (i : Int) < lim → Fm M H H' → Fr1 dd H H' → Gd K M H' → Src dd H' → Q (.int i) H') : spBelow vs H Q E0 := by
  obtain ⟨ds, hD, hd⟩ := hs
  refine ⟨dd, lim, ds, e, h0, h1, hd, hD, fun i ds' a b c => ?_⟩
  obtain ⟨n, rfl⟩ := Int.eq_ofNat_of_zero_le a
  exact k n _ b (Fm.at hm) Fr1.at (g.at trivial) ⟨ds', c, upd_same⟩
/-- one random thing after another, in a comprehension over range(n) -/
theorem lc_rand {α : Type} {n i : Nat} {te : TE} {H1 : Hp} {D0 dd : Addr} {Qd : Hp → Prop} (P : α → Prop) (f : α → D) (hD0 : H1 D0 = none) (hs : Src dd H1) (hM : dd ∈ M) (hn : n < sizeLine) (g : Gd K M H1)
    (turn : ∀ (m : Nat) (H' : Hp), m < n → Fm M H1 H' → Gd K (D0 :: M) H' → Src dd H' → ∀ Q : VK, (∀ (x : α) (v : V) (H'' : Hp), P x → Fm (D0 :: M) H' H'' → Fr1 dd H' H'' → Gd K (D0 :: M) H'' → Src dd H'' → Rp K (wo (D0 :: M) H'') (f x) v → Q v H'') →
      te ((L2.wipe σ [i]).set i (some (.int (m : Int)))) H' Q)
    (done : ∀ (H' : Hp) (xs : List α), xs.length = n → (∀ x ∈ xs, P x) → Fm M H1 H' → Gd K M H' → Src dd H' → Rp K (wo M H') (.lst (xs.map f)) (.ref D0) → Qd H') :
    ∃ W : Nat → Nat → Hp → Prop, (∃ m, W 0 m (upd H1 D0 (.lst []))) ∧ ∀ k m H, W k m H →
      ((Itr 0 n).stop k H ∧ Qd H) ∨ ((Itr 0 n).go k H ∧ ∃ Nx : Hp → Prop, (∀ H', Nx H' → ∃ m', m' < m ∧ W (k + 1) m' H') ∧ ∀ x H', (Itr 0 n).yld k H x H' → gName i x (L2.wipe σ [i]) H' fun σ2 H2 => L2.wipe σ2 [i] = L2.wipe σ [i] ∧ tYes σ2 H2 fun b H3 =>
        if b = true then te σ2 H3 fun y H4 => ∃ acc, H4 D0 = some (.lst acc) ∧ acc.length < sizeLine ∧ Nx (upd H4 D0 (.lst (acc ++ [y]))) else Nx H3) := by
  have nD : D0 ∉ M := g.out hD0
  have ndd : dd ≠ D0 := fun e => nD (e ▸ hM)
  refine lc_range (lo := 0) (n := n) (fun m H3 => ∃ (xs : List α) (acc : List V), xs.length = m ∧ (∀ x ∈ xs, P x) ∧ Fm M H1 H3 ∧ Gd K (D0 :: M) H3 ∧ Src dd H3 ∧ H3 D0 = some (.lst acc) ∧ RpL K (wo (D0 :: M) H3) (xs.map f) acc) ?_ ?_ ?_
  · refine ⟨[], [], rfl, (fun x hx => by cases hx), Fm.of (same_new hD0), (g.same (same_new hD0)).lst upd_same, hs.same (same_new hD0), upd_same, rfl⟩
  · rintro m H3 hm ⟨xs, acc, hl, hp, f3, g3, s3, hD, ra⟩
    rw [Int.zero_add]
    refine ⟨wipe_one, ?_⟩
    simp only [tYes, if_true]
    refine turn m H3 hm f3 g3 s3 _ fun x v H4 px f4 r4 g4 s4 rv => ?_
    have hD4 : H4 D0 = some (.lst acc) := r4 _ _ hD (Ne.symm ndd)
    have ra4 : RpL K (wo (D0 :: M) H4) (xs.map f) acc := RpL.same f4 _ ra
    refine ⟨acc, hD4, ?_, xs ++ [x], acc ++ [v], by rw [List.length_append, hl]; rfl, ?_, ?_, g4.at trivial, ?_, upd_same, ?_⟩
    · rw [ra4.len, List.length_map, hl]
      omega
    · intro y hy
      rcases List.mem_append.mp hy with hy | hy
      · exact hp y hy
      · rw [List.mem_singleton.mp hy]
        exact px
    · intro b o hb
      obtain ⟨e1, e2⟩ := wo_some (f3 b o hb)
      have nb : b ≠ D0 := fun z => by
        have hb' := wo_le _ _ hb
        rw [z, hD0] at hb'
        cases hb'
      rw [wo_at e1, upd_ne nb]
      exact r4 _ _ e2 (fun z => e1 (z ▸ hM))
    · obtain ⟨ds, h1, h2⟩ := s4
      exact ⟨ds, h1, by rw [upd_ne ndd]; exact h2⟩
    · rw [wo_upd List.mem_cons_self, List.map_append]
      exact ra4.snoc rv
  · rintro H3 ⟨xs, acc, hl, hp, f3, g3, s3, hD, ra⟩
    exact done H3 xs hl hp f3 g3.tl s3 (lc_done nD hD ra)
/-- more readings -/
theorem rd_lstA {u : TA} {ds : List SC.D} (h : RdA K M u σ H ds) (hl : decide (ds.length ≤ sizeLine) = true := by rfl) : Rd K M (tLst u) σ H (.lst ds) := rd_lst (of_decide_eq_true hl) h
theorem rd_tupA {u : TA} {ds : List SC.D} (h : RdA K M u σ H ds) (hl : decide (ds.length ≤ sizeLine) = true := by rfl) : Rd K M (tTup u) σ H (.tup ds) := rd_tup (of_decide_eq_true hl) h
theorem rd_addS {i j : Str} (hl : i.length + j.length ≤ sizeLine) (ha : Rd K M ta σ H (.str i)) (hb : Rd K M tb σ H (.str j)) : Rd K M (tOp (fun x y H Q => ∃ i j, x = .str i ∧ y = .str j ∧ i.length + j.length ≤ sizeLine ∧ Q (.str (i ++ j)) H) ta tb) σ H (.str (i ++ j)) :=
  rd_op ha hb fun x y H1 Q g hx hy k => ⟨i, j, hx, hy, hl, k _ H1 (Same.refl _) g rfl⟩
theorem rd_strI {u : TA} {i : Int} (hl : i.natAbs.log2 < 1920) (h : RdA K M u σ H [.int i]) : Rd K M (tCB (fun xs H Q => ∃ i : Int, xs = [.int i] ∧ i.natAbs.log2 < 1920 ∧ Q (.str (toString i)) H) u) σ H (.str (numS i)) :=
  rd_cb h fun xs H1 Q g hx k => by
    obtain ⟨v, rfl, rv⟩ := rp1 hx
    cases rv
    exact ⟨i, rfl, hl, k _ H1 (Same.refl _) g rfl⟩
theorem rd_minP {u : TA} {i j : Int} (h : RdA K M u σ H [.int i, .int j]) : Rd K M (tCB (fun xs H Q => ∃ i j, xs = [.int i, .int j] ∧ Q (.int (if j < i then j else i)) H) u) σ H (.int (min i j)) :=
  rd_cb h fun xs H1 Q g hx k => by
    obtain ⟨v, vs, rfl, r1, w, vs2, rfl, r2, r3⟩ := hx
    cases r1
    cases r2
    cases r3
    refine ⟨i, j, rfl, k _ H1 (Same.refl _) g ?_⟩
    show V.int _ = V.int _
    congr 1
    split <;> omega
/-- Chain.parse(text) -/
theorem rd_parse {u : TA} {rs : List Rule} (hok : ∀ r ∈ rs, r.ok) (h1 : 1 ≤ rs.length) (h8 : rs.length ≤ 8) (h : RdA K M u σ H [.str (txtOf rs)]) : Rd K M (ClX.tCMeth (ChC K) (spParse K) E0 (tC (.ref (ChC K))) u) σ H (.chain rs) :=
  fun H1 s1 g Q k => ⟨rfl, h H1 s1 g _ fun xs H2 s2 g2 r2 => by
    obtain ⟨v, rfl, rv⟩ := rp1 r2
    cases rv
    exact ⟨rs, rfl, hok, h1, h8, new_chain g2 fun v H3 s3 => k v H3 (s2.trans s3)⟩⟩
theorem use_tup3 {i j l : Nat} {D : Ends} {x y z : SC.D} (h : Rd K M t σ H (.tup [x, y, z])) (g : Gd K M H) (k : ∀ v u w H2, Same H H2 → Gd K M H2 → Rp K (wo M H2) x v → Rp K (wo M H2) y u → Rp K (wo M H2) z w → D.nx (((σ.set i (some v)).set j (some u)).set l (some w)) H2) :
    tAsg t (gTup K 3 (gCons (gName i) (gCons (gName j) (gCons (gName l) gNil)))) D σ H := h H (Same.refl _) g _ fun w H2 s g2 r => by
  obtain ⟨a, vs, rfl, e, v, vs1, rfl, r1, u, vs2, rfl, r2, q, vs3, rfl, r3, r4⟩ := r
  cases r4
  exact ⟨a, [v, u, q], rfl, SqT.of (wo_le _ _ e), rfl, _, _, rfl, _, _, rfl, _, _, rfl, rfl, k v u q H2 s g2 r1 r2 r3⟩
end
/-! rules whose readings name K, not the block they stand in -/
abbrev rLenS (K : PySem.W.Frag) : List V → Hp → VK → Prop := fun xs H Q => ∃ p ys, xs = [.ref p] ∧ (SqL K H p ys ∨ SqT K H p ys) ∧ Q (.int ys.length) H
abbrev rListOf (K : PySem.W.Frag) : List V → Hp → VK → Prop := fun xs H Q => ∃ p ys, xs = [.ref p] ∧ (SqL K H p ys ∨ SqT K H p ys) ∧ ∀ l, H l = none → Q (.ref l) (upd H l (.lst ys))
abbrev rTupOf (K : PySem.W.Frag) : List V → Hp → VK → Prop := fun xs H Q => ∃ p ys, xs = [.ref p] ∧ ((SqL K H p ys ∧ ∀ l, H l = none → Q (.ref l) (upd H l (.tup ys))) ∨ (SqT K H p ys ∧ Q (.ref p) H))
abbrev rLenC (K : PySem.W.Frag) : List V → Hp → VK → Prop := fun xs H Q => ∃ (c : Addr) (rs : List Rule), xs = [.ref c] ∧ ChainAt K H c rs ∧ Q (.int rs.length) H
abbrev rJoin (K : PySem.W.Frag) : V → List V → Hp → VK → Prop := fun x xs H Q => ∃ a p, ∃ ys : List Str, x = .str a ∧ xs = [.ref p] ∧ (SqL K H p (ys.map V.str) ∨ SqT K H p (ys.map V.str)) ∧
  (ys.map Str.length).sum + a.length * ys.length ≤ sizeLine ∧ Q (.str (Txt.join a ys)) H
/-- c(e, ..), c an instance of C -/
def tCallC (C : Addr) (sp : Sp) (E : XK) (tf : TE) (t : TA) : TE := fun σ H Q => tf σ H fun y H1 => ∃ a, y = V.ref a ∧ t σ H1 fun vs H2 => (∃ dx fs, H2 a = some (.ins C dx fs)) ∧ sp (V.ref a :: vs) H2 Q E
theorem pe_callC {X : Cx} {CX : CXT} {k : Nat} {C g : Addr} {sp : Sp} {E : XK} {fe e : Expr} {es : List Expr} {tf : TE} {t : TA} {pos : Pos} (hf : PE X fe tf) (c : StX.CallO X.K C g) (F : FnR X.prog X.w X.K X.mg X.base CX k g sp) (hr : Room k X.A) (hx : Passes CX X E) (ha : PA X (e :: es) t)
    (ht : eval (.Call fe (e :: es) [] pos) X.env = (do callWith pos (← eval fe X.env) [] (backTo pos (starEach (e :: es) X.env)) (backToKw pos (keywordEach [] X.env))) := by rfl)
    (he : starEach (e :: es) X.env = (false, eval e X.env) :: starEach es X.env := by rfl) (hpl : (backTo pos (starEach es X.env)).any (·.1) = false := by rfl) : PE X (.Call fe (e :: es) [] pos) (tCallC C sp E tf t) := by
  refine ⟨fun pins s σ H Q I h => Call_ (thn (hf.run pins s σ H _ I h) fun u s1 hh => ?_) ht⟩
  obtain ⟨y, H1, I1, ry, a, ey, q⟩ := hh
  subst ey
  obtain rfl : u = Value.ref a := ry
  refine StX.callO_with (thn (ha.run pos pins s1 σ H1 _ I1 q) fun us s2 hh2 => ?_) he hpl
  obtain ⟨vs, H2, I2, rv, ⟨dx, fs, hi⟩, q2⟩ := hh2
  have hi' : StX.InsC X H2 a C := .inr ⟨dx, fs, hi⟩
  obtain ⟨ox, od, J, hd⟩ := StX.insC_at I2 hi'
  exact ⟨⟨_, ox, od, J, hd⟩, StX.run_callO c F hr hx I2 hi' rv q2⟩
section
variable {K : PySem.W.Frag} {M : List Addr} {σ : L2.St} {H : Hp}
theorem rd_chcallC {tf : TE} {t : TA} {rs : List Rule} {ns : List Int} (hl : ns.length ≤ 1000) (hz : ∀ z ∈ ns, numOk z) (hf : Rd K M tf σ H (.chain rs)) (ha : RdA K M t σ H [.lst (ns.map D.int)]) :
    Rd K M (tCallC (ChC K) (spChCall K) E0 tf t) σ H (runD rs ns) := fun H1 s1 g Q k => hf H1 s1 g _ fun x H2 s2 g2 rx => by
  obtain ⟨c, rfl, cc⟩ := rx
  refine ⟨c, rfl, ha H2 (s1.trans s2) g2 _ fun xs H3 s3 g3 r3 => ?_⟩
  obtain ⟨v, rfl, a, vs, rfl, e1, r1⟩ := rp1 r3
  rw [rp_ints.mp r1] at e1
  have c3 : ChainAt K H3 c rs := (cc.same wo_le).same s3
  obtain ⟨dx, tt, as, h1, _⟩ := id c3
  exact ⟨⟨dx, _, h1⟩, c, a, rs, ns, rfl, c3, wo_le _ _ e1, hl, hz, new_run g3 fun v H4 s4 => k v H4 ((s2.trans s3).trans s4)⟩
theorem rd_run0C {tf : TE} {u : TA} {rs : List Rule} {ns : List Int} (hl : ns.length ≤ 1000) (hz : ∀ z ∈ ns, numOk z) (hf : Rd K M tf σ H (.chain rs)) (ha : RdA K M u σ H [.lst (ns.map D.int)]) :
    Rd K M (tOp (rIxT K) (tCallC (ChC K) (spChCall K) E0 tf u) (tC (.int 0))) σ H (.lst ((runR rs (nones rs.length) ns).1.map dO)) := rd_t0 (rd_chcallC hl hz hf ha) rd_int
theorem rd_run1C {tf : TE} {u : TA} {rs : List Rule} {ns : List Int} (hl : ns.length ≤ 1000) (hz : ∀ z ∈ ns, numOk z) (hf : Rd K M tf σ H (.chain rs)) (ha : RdA K M u σ H [.lst (ns.map D.int)]) :
    Rd K M (tOp (rIxT K) (tCallC (ChC K) (spChCall K) E0 tf u) (tC (.int 1))) σ H (.tup ((runR rs (nones rs.length) ns).2.map dO)) := rd_t1 (rd_chcallC hl hz hf ha) rd_int
end
theorem pe_labelK {X : Cx} {K : PySem.W.Frag} {n : Nat} {e : Expr} {ta : TE} {pos : Pos} (hK : X.K = K) (T : Cells X.K X.mg) (L : LabelsOk X.prog X.w X.K X.mg X.base n) (hr : Room (n + 1) X.A) (he : PE X e ta) (hab : attributeBase e "label" X.env (eval e X.env) = eval e X.env := by rfl) :
    PE X (.Attribute e "label" pos) (tLabel K ta) := hK ▸ pe_label T L hr he hab
theorem pe_ixCK {X : Cx} {K : PySem.W.Frag} {n : Nat} {a b : Expr} {ta tb : TE} {pos : Pos} (hK : X.K = K) (T : ChainOk X.prog X.w X.K X.mg X.base n) (hr : Room (n + 1) X.A) (ha : PE X a ta) (hb : PE X b tb) (hsl : ∀ v u, subscripted b true v u = runValue (Code.builtin "lifetime.subscript" ⟨[v, u], []⟩) := by intro _ _; with_unfolding_all rfl) : PE X (.Subscript a b pos) (tOp (rChIx K) ta tb) := hK ▸ pe_ixC T hr ha hb hsl
theorem pe_revLK {X : Cx} {K : PySem.W.Frag} {e : Expr} {te : TE} {k : Nat} {p1 p2 p3 pos : Pos} (hK : X.K = K) (he : PE X e te) : PE X (.Subscript e (.Slice none none (some (.UnaryOp .USub (.Constant (.int 1) k p1) p2)) p3) pos) (tRevL K te) := hK ▸ pe_revL he
theorem pi_listK {X : Cx} {K : PySem.W.Frag} {tg l : Expr} {tl : TE} (hK : X.K = K) (hl : PE X l tl) : PI X tg l (iList K tl) := hK ▸ pi_list hl
theorem pi_tupK {X : Cx} {K : PySem.W.Frag} {tg l : Expr} {tl : TE} (hK : X.K = K) (hl : PE X l tl) : PI X tg l (iTup K tl) := hK ▸ pi_tup hl
theorem pe_cellCallK {X : Cx} {K : PySem.W.Frag} {n : Nat} {fe e : Expr} {es : List Expr} {tf : TE} {t : TA} {pos : Pos} (hK : X.K = K) (hf : PE X fe tf) (T : CellsOk X.prog X.w X.K X.mg X.base n) (hr : Room n X.A) (ha : PA X (e :: es) t)
    (ht : eval (.Call fe (e :: es) [] pos) X.env = (do callWith pos (← eval fe X.env) [] (backTo pos (starEach (e :: es) X.env)) (backToKw pos (keywordEach [] X.env))) := by rfl)
    (he : starEach (e :: es) X.env = (false, eval e X.env) :: starEach es X.env := by rfl) (hpl : (backTo pos (starEach es X.env)).any (·.1) = false := by rfl) : PE X (.Call fe (e :: es) [] pos) (tCellCall K tf t) := hK ▸ pe_cellCall hf T hr ha ht he hpl
theorem env_start {K : PySem.W.Frag} {M : List Addr} {H : Hp} {N : List Str} {vs : List V} : Env K M (start N vs) H (vs.map Sl.val ++ List.replicate (N.length - vs.length) Sl.any) := by
  refine ⟨by unfold L2.start; simp, fun i s o h1 h2 => ?_⟩
  by_cases hi : i < vs.length
  · rw [List.getElem?_append_left (by rw [List.length_map]; exact hi), List.getElem?_map, List.getElem?_eq_getElem hi] at h1
    unfold L2.start at h2
    rw [List.getElem?_append_left (by rw [List.length_map]; exact hi), List.getElem?_map, List.getElem?_eq_getElem hi] at h2
    cases h1
    cases h2
    exact rfl
  · rw [List.getElem?_append_right (by rw [List.length_map]; omega)] at h1
    rw [(List.mem_replicate.mp (List.mem_of_getElem? h1)).2]
    trivial
/-! ### chains of first cells; stretched numbers; rules that agree -/
theorem step_first : ∀ (k : Nat) (xs : List Int) (c : Int), stepR (List.replicate k Rule.first) (heldL k xs) (some c) = (heldL k (xs ++ [c]), if xs.length < k then none else some c)
  | 0, xs, c => by
    rw [List.replicate_zero, step_nil]
    simp [heldL, nones]
  | k + 1, [], c => by
    have e : heldL (k + 1) [] = none :: nones k := by simp [heldL, nones, List.replicate_succ]
    rw [e, List.replicate_succ, step_cn]
    simp [heldL, nones]
  | k + 1, x :: xs, c => by
    have e : heldL (k + 1) (x :: xs) = some x :: heldL k xs := by simp [heldL]
    have e2 : heldL (k + 1) (x :: xs ++ [c]) = some x :: heldL k (xs ++ [c]) := by simp [heldL]
    have ek : Rule.first.keep x c = (x, c) := rfl
    rw [e, e2, List.replicate_succ, step_cs, ek, step_first k xs c]
    simp
theorem run_firsts (k : Nat) : ∀ (ns xs : List Int), runR (List.replicate k Rule.first) (heldL k xs) ns = (nones (min (k - xs.length) ns.length) ++ (ns.drop (k - xs.length)).map some, heldL k (xs ++ ns))
  | [], xs => by simp [runR, nones]
  | n :: ns, xs => by
    unfold runR
    rw [step_first, run_firsts k ns (xs ++ [n])]
    rw [List.length_append, List.length_singleton, List.append_assoc]
    by_cases h : xs.length < k
    · have e1 : k - xs.length = (k - (xs.length + 1)) + 1 := by omega
      simp only [if_pos h]
      rw [e1, List.drop_succ_cons, List.length_cons, Nat.succ_min_succ]
      simp [nones, List.replicate_succ]
    · have e1 : k - xs.length = 0 := by omega
      have e2 : k - (xs.length + 1) = 0 := by omega
      simp only [if_neg h]
      rw [e1, e2]
      simp [nones]
theorem run_first (k : Nat) (ns : List Int) : runR (List.replicate k Rule.first) (nones k) ns = (nones (min k ns.length) ++ (ns.drop k).map some, heldL k ns) := by
  have h := run_firsts k ns []
  rw [heldL_nil] at h
  simpa using h
theorem step_map {f : Int → Int} : ∀ (rs : List Rule) (hs : List (Option Int)) (c : Option Int), (∀ r ∈ rs, ∀ h c, r.keep (f h) (f c) = (f (r.keep h c).1, f (r.keep h c).2)) →
    stepR rs (hs.map (Option.map f)) (c.map f) = ((stepR rs hs c).1.map (Option.map f), (stepR rs hs c).2.map f)
  | [], hs, c, _ => by rw [step_nil, step_nil]
  | r :: rs, [], c, _ => by
    unfold stepR
    rfl
  | r :: rs, none :: hs, c, hk => by
    rw [List.map_cons, Option.map_none, step_cn, step_cn]
    rfl
  | r :: rs, some h :: hs, none, hk => by
    rw [Option.map_none, step_none, step_none]
    rfl
  | r :: rs, some h :: hs, some c, hk => by
    have e := hk r List.mem_cons_self h c
    have ih := step_map rs hs (some (r.keep h c).2) fun q hq => hk q (List.mem_cons_of_mem _ hq)
    rw [Option.map_some] at ih
    rw [List.map_cons, Option.map_some, Option.map_some, step_cs, step_cs, e, ih]
    rfl
theorem run_map {f : Int → Int} (rs : List Rule) (hk : ∀ r ∈ rs, ∀ h c, r.keep (f h) (f c) = (f (r.keep h c).1, f (r.keep h c).2)) : ∀ (ns : List Int) (hs : List (Option Int)),
    runR rs (hs.map (Option.map f)) (ns.map f) = ((runR rs hs ns).1.map (Option.map f), (runR rs hs ns).2.map (Option.map f))
  | [], hs => by
    unfold runR
    rfl
  | n :: ns, hs => by
    have e := step_map rs hs (some n) hk
    rw [Option.map_some] at e
    have ih := run_map rs hk ns (stepR rs hs (some n)).1
    rw [List.map_cons]
    unfold runR
    rw [e]
    simp only [ih, List.map_cons]
theorem nones_om (f : Int → Int) (n : Nat) : (nones n).map (Option.map f) = nones n := by
  unfold nones
  rw [List.map_replicate]
  rfl
/-- no mark -/
def Rule.plain : Rule → Prop
  | .near _ => False
  | _ => True
theorem keep_stretch {r : Rule} (hp : r.plain) {t m : Int} (ht : 0 < t) (h c : Int) : r.keep (t * h + m) (t * c + m) = (t * (r.keep h c).1 + m, t * (r.keep h c).2 + m) := by
  have e1 : (t * c + m < t * h + m) ↔ c < h := by
    constructor
    · intro z
      exact Int.lt_of_mul_lt_mul_left (by omega) (Int.le_of_lt ht)
    · intro z
      have := Int.mul_lt_mul_of_pos_left z ht
      omega
  have e2 : (t * h + m < t * c + m) ↔ h < c := by
    constructor
    · intro z
      exact Int.lt_of_mul_lt_mul_left (by omega) (Int.le_of_lt ht)
    · intro z
      have := Int.mul_lt_mul_of_pos_left z ht
      omega
  cases r with
  | near m => exact hp.elim
  | first => rfl
  | last => rfl
  | less =>
    unfold Rule.keep
    simp only [e1]
    split <;> rfl
  | greater =>
    unfold Rule.keep
    simp only [e2]
    split <;> rfl
/-- rules that agree on some numbers -/
def Agree (P : Int → Prop) : List Rule → List Rule → Prop
  | [], [] => True
  | r :: rs, q :: qs => (∀ h c, P h → P c → r.keep h c = q.keep h c) ∧ Agree P rs qs
  | _, _ => False
theorem step_agree {P : Int → Prop} : ∀ (rs qs : List Rule) (hs : List (Option Int)) (c : Option Int), Agree P rs qs → (∀ x, some x ∈ hs → P x) → (∀ x, c = some x → P x) → stepR rs hs c = stepR qs hs c
  | [], [], hs, c, _, _, _ => rfl
  | [], q :: qs, _, _, h, _, _ => h.elim
  | r :: rs, [], _, _, h, _, _ => h.elim
  | r :: rs, q :: qs, [], c, _, _, _ => by unfold stepR; rfl
  | r :: rs, q :: qs, none :: hs, c, _, _, _ => by rw [step_cn, step_cn]
  | r :: rs, q :: qs, some h :: hs, none, _, _, _ => by rw [step_none, step_none]
  | r :: rs, q :: qs, some h :: hs, some c, ha, hp, hc => by
    have e := ha.1 h c (hp h List.mem_cons_self) (hc c rfl)
    have kp := keep_pred (P := P) r (hp h List.mem_cons_self) (hc c rfl)
    have ih := step_agree rs qs hs (some (r.keep h c).2) ha.2 (fun x hx => hp x (List.mem_cons_of_mem _ hx)) (fun x hx => by cases hx; exact kp.2)
    rw [step_cs, step_cs, ← e, ih]
theorem run_agree {P : Int → Prop} (rs qs : List Rule) (ha : Agree P rs qs) : ∀ (ns : List Int) (hs : List (Option Int)), (∀ x, some x ∈ hs → P x) → (∀ x ∈ ns, P x) → runR rs hs ns = runR qs hs ns
  | [], _, _, _ => by unfold runR; rfl
  | n :: ns, hs, hp, hn => by
    have e := step_agree rs qs hs (some n) ha hp (fun x hx => by cases hx; exact hn n List.mem_cons_self)
    have sp := step_pred (P := P) rs hs (some n) hp (fun x hx => by cases hx; exact hn n List.mem_cons_self)
    unfold runR
    rw [← e, run_agree rs qs ha ns _ sp.1 fun x hx => hn x (List.mem_cons_of_mem _ hx)]
theorem near_top {h c : Int} (h1 : numOk h) (h2 : numOk c) : (Rule.near 1000000000).keep h c = Rule.greater.keep h c := by
  show (if absI (c - 1000000000) < absI (h - 1000000000) then (c, h) else (h, c)) = (if h < c then (c, h) else (h, c))
  have := h1.2
  have := h2.2
  have e : (absI (c - 1000000000) < absI (h - 1000000000)) ↔ h < c := by
    unfold absI
    split <;> split <;> omega
  simp only [e]
theorem near_low {h c : Int} (h1 : numOk h) (h2 : numOk c) : (Rule.near (-1000000000)).keep h c = Rule.less.keep h c := by
  show (if absI (c - -1000000000) < absI (h - -1000000000) then (c, h) else (h, c)) = (if c < h then (c, h) else (h, c))
  have := h1.1
  have := h2.1
  have e : (absI (c - -1000000000) < absI (h - -1000000000)) ↔ c < h := by
    unfold absI
    split <;> split <;> omega
  simp only [e]
end SC
set_option maxRecDepth 100000
set_option maxHeartbeats 2000000
/-! # Part I: defs that take data and give data -/
namespace SC
open PySem PySem.Spec PyProof.Rows L2 TL
/-- a def whose arguments are data: R tells what it gives -/
def spP (K : PySem.W.Frag) (R : List D → D → Prop) : Sp := fun vs H Q _ => ∃ (M : List Addr) (ds : List D) (d : D), R ds d ∧ Gd K M H ∧ RpL K (wo M H) ds vs ∧ ∀ v H2, Same H H2 → Gd K M H2 → Rp K (wo M H2) d v → Q v H2
section
variable {K : PySem.W.Frag} {M : List Addr} {σ : L2.St} {H : Hp} {t ta tb tc : TE} {d da db : D}
theorem rd_P {R : List SC.D → SC.D → Prop} {u : TA} {ds : List SC.D} (hR : R ds d) (h : RdA K M u σ H ds) : Rd K M (tCall (spP K R) [] E0 u) σ H d :=
  fun H1 s1 g Q k => h H1 s1 g _ fun xs H2 s2 g2 r2 => ⟨M, ds, d, hR, g2, by rw [List.append_nil]; exact r2, fun v H3 s3 g3 r3 => k v H3 (s2.trans s3) g3 r3⟩
theorem env_dats : ∀ {ds : List SC.D} {vs : List V} {n : Nat}, RpL K (wo M H) ds vs → Env K M (vs.map some ++ List.replicate n none) H (ds.map Sl.dat ++ List.replicate n Sl.any) := fun {ds vs n} r => by
  refine ⟨by simp [r.len], fun i s o h1 h2 => ?_⟩
  by_cases hi : i < ds.length
  · rw [List.getElem?_append_left (by rw [List.length_map]; exact hi), List.getElem?_map] at h1
    rw [List.getElem?_append_left (by rw [List.length_map, r.len]; exact hi), List.getElem?_map] at h2
    obtain ⟨v, e1, e2⟩ := r.get (List.getElem?_eq_getElem hi)
    rw [List.getElem?_eq_getElem hi] at h1
    rw [e1] at h2
    cases h1
    cases h2
    exact ⟨v, rfl, e2⟩
  · rw [List.getElem?_append_right (by rw [List.length_map]; omega)] at h1
    rw [(List.mem_replicate.mp (List.mem_of_getElem? h1)).2]
    trivial
theorem env_startD {N : List Str} {ds : List SC.D} {vs : List V} (r : RpL K (wo M H) ds vs) : Env K M (L2.start N vs) H (ds.map Sl.dat ++ List.replicate (N.length - ds.length) Sl.any) := by
  have e := env_dats (n := N.length - ds.length) r
  unfold L2.start
  rw [r.len]
  exact e
/-- what may change, one more -/
theorem Env.more {ρ : List Sl} {m : Addr} {H1 : Hp} (E : Env K M σ H ρ) (h0 : H m = Option.none) (s : Same H H1) : Env K (m :: M) σ H1 ρ := E.le (wo_cons h0 s)
theorem Env.less {ρ : List Sl} {m : Addr} (E : Env K (m :: M) σ H ρ) : Env K M σ H ρ := E.le (wo_sub fun x hx => List.mem_cons_of_mem _ hx)
theorem Env.asD {ρ : List Sl} {i : Nat} {v : V} (E : Env K M σ H ρ) (h : ρ[i]? = some (.val v)) (r : Rp K (wo M H) d v) : Env K M σ H (ρ.set i (.dat d)) := by
  refine ⟨by rw [List.length_set]; exact E.1, fun j s o h1 h2 => ?_⟩
  by_cases e : i = j
  · subst e
    have hi : i < ρ.length := by
      rcases Nat.lt_or_ge i ρ.length with z | z
      · exact z
      · rw [List.getElem?_eq_none z] at h
        cases h
    rw [List.getElem?_set_self hi] at h1
    cases h1
    have e2 := E.val h
    rw [e2] at h2
    cases h2
    exact ⟨v, rfl, r⟩
  · rw [List.getElem?_set_ne e] at h1
    exact E.2 j s o h1 h2
theorem rp_optL {L : Addr} {zs : List (Option Int)} (hL : H L = some (.lst (zs.map ov))) (hM : L ∉ M) : Rp K (wo M H) (.lst (zs.map dO)) (.ref L) := ⟨L, _, rfl, by rw [wo_at hM]; exact hL, rp_opts.mpr rfl⟩
theorem use_asg {gt : TG} {D : Ends} (h : Rd K M t σ H d) (g : Gd K M H) (k : ∀ v H2, Same H H2 → Gd K M H2 → Rp K (wo M H2) d v → gt v σ H2 D.nx) : tAsg t gt D σ H := h H (Same.refl _) g _ k
theorem use_forR {u : TA} {gt : TG} {tb : TS} {D : Ends} {n : Nat} (h : RdA K M u σ H [.int n]) (g : Gd K M H) (hn : n < 2 ^ 62) (k : ∀ H2, Same H H2 → Gd K M H2 → ∃ W : Nat → Nat → L2.St → Hp → Prop, (∃ m, W 0 m σ H2) ∧ ∀ i m σ H, W i m σ H →
    ((Itr 0 n).stop i H ∧ D.nx σ H) ∨ ((Itr 0 n).go i H ∧ ∃ N : L2.St → Hp → Prop, (∀ σ' H', N σ' H' → ∃ m', m' < m ∧ W (i + 1) m' σ' H') ∧ ∀ x H', (Itr 0 n).yld i H x H' → gt x σ H' fun σ2 H2 => tb { D with nx := N, ct := N, bk := D.nx } σ2 H2)) : tFor (iRng1 u) gt tb D σ H :=
  h H (Same.refl _) g _ fun xs H2 s g2 r => by
    obtain ⟨v, rfl, rv⟩ := rp1 r
    cases rv
    refine ⟨(n : Int), rfl, by omega, by omega, ?_⟩
    rw [Int.toNat_natCast]
    exact k H2 s g2
theorem use_forL {tl : TE} {gt : TG} {tb : TS} {D : Ends} {l : List SC.D} (h : Rd K M tl σ H (.lst l)) (g : Gd K M H) (k : ∀ a vs H2, Same H H2 → Gd K M H2 → wo M H2 a = some (.lst vs) → RpL K (wo M H2) l vs → ∃ W : Nat → Nat → L2.St → Hp → Prop, (∃ m, W 0 m σ H2) ∧ ∀ i m σ H, W i m σ H →
    ((Itl K a).stop i H ∧ D.nx σ H) ∨ ((Itl K a).go i H ∧ ∃ N : L2.St → Hp → Prop, (∀ σ' H', N σ' H' → ∃ m', m' < m ∧ W (i + 1) m' σ' H') ∧ ∀ x H', (Itl K a).yld i H x H' → gt x σ H' fun σ2 H2 => tb { D with nx := N, ct := N, bk := D.nx } σ2 H2)) : tFor (iList K tl) gt tb D σ H :=
  h H (Same.refl _) g _ fun x H2 s g2 r => by
    obtain ⟨a, vs, rfl, e, rl⟩ := r
    exact ⟨a, rfl, ⟨vs, SqL.of (wo_le _ _ e)⟩, k a vs H2 s g2 e rl⟩
theorem use_expr {D : Ends} (h : Rd K M t σ H d) (g : Gd K M H) (k : ∀ v H2, Same H H2 → Gd K M H2 → Rp K (wo M H2) d v → D.nx σ H2) : tDrop t D σ H := h H (Same.refl _) g _ k
/-- _law_kept -/
theorem rd_kept {u : TA} {r : Rule} {h c : Int} (ho : r.ok) (ha : RdA K M u σ H [.str r.label, .int h, .int c]) : Rd K M (tCall spKept [] E0 u) σ H (.tup [.int (r.keep h c).1, .int (r.keep h c).2]) :=
  fun H1 s1 g Q k => ha H1 s1 g _ fun xs H2 s2 g2 r2 => by
    obtain ⟨v, vs, rfl, r1, v2, vs2, rfl, r2, v3, vs3, rfl, r3, r4⟩ := r2
    cases r1
    cases r2
    cases r3
    cases r4
    refine ⟨r, h, c, rfl, ho, fun p H3 hp s3 e3 => k _ H3 (s2.trans s3) (g2.same s3) ⟨p, _, rfl, by rw [wo_at (g2.out hp)]; exact e3, _, _, rfl, rfl, _, _, rfl, rfl, rfl⟩⟩
end
/-! ### what the laws' own step and run give -/
def RStep (ds : List D) (d : D) : Prop := ∃ (rs : List Rule) (hs : List (Option Int)) (n : Int), ds = [.lst (lbD rs), .lst (hs.map dO), .int n] ∧ (∀ r ∈ rs, r.ok) ∧ hs.length = rs.length ∧ rs.length ≤ 8 ∧ d = .tup [.lst ((stepR rs hs (some n)).1.map dO), dO (stepR rs hs (some n)).2]
def RRun (ds : List D) (d : D) : Prop := ∃ (rs : List Rule) (ns : List Int), ds = [.lst (lbD rs), .lst (ns.map D.int)] ∧ (∀ r ∈ rs, r.ok) ∧ rs.length ≤ 8 ∧ ns.length ≤ 1000 ∧ d = .tup [.lst ((runR rs (nones rs.length) ns).1.map dO), .lst ((runR rs (nones rs.length) ns).2.map dO)]
/-- the cells ahead of an empty one are full -/
theorem step_pre {rs : List Rule} {hs : List (Option Int)} {n : Int} {i : Nat} {r : Rule} {h m : Int} {ys : List Int} (e : hs.length = rs.length) (hr : rs[i]? = some r) (hz : hs[i]? = some (some h)) (p : stepR (rs.take i) (hs.take i) (some n) = (ys.map some, some m)) :
    stepR (rs.take (i + 1)) (hs.take (i + 1)) (some n) = ((ys ++ [(r.keep h m).1]).map some, some (r.keep h m).2) := by
  rw [take_more hr, take_more hz, step_app _ _ _ _ _ (by rw [List.length_take, List.length_take, e]), p]
  show ((ys.map some ++ (stepR [r] [some h] (some m)).1), (stepR [r] [some h] (some m)).2) = _
  rw [step_cs, step_nil, List.map_append]
  rfl
theorem step_end {rs : List Rule} {hs : List (Option Int)} {n m : Int} {i : Nat} {ys : List Int} (e : hs.length = rs.length) (hi : i < rs.length) (hz : hs[i]? = some none) (p : stepR (rs.take i) (hs.take i) (some n) = (ys.map some, some m)) :
    stepR rs hs (some n) = (ys.map some ++ [some m] ++ hs.drop (i + 1), none) := by
  have e1 : rs = rs.take i ++ rs.drop i := (List.take_append_drop i rs).symm
  have e2 : hs = hs.take i ++ hs.drop i := (List.take_append_drop i hs).symm
  have e3 : rs.drop i = rs[i] :: rs.drop (i + 1) := List.drop_eq_getElem_cons hi
  have hi2 : i < hs.length := by omega
  have e4 : hs.drop i = hs[i] :: hs.drop (i + 1) := List.drop_eq_getElem_cons hi2
  have e5 : hs[i] = none := by
    rw [List.getElem?_eq_getElem hi2] at hz
    exact Option.some.inj hz
  have sa := step_app (rs.take i) (hs.take i) (some n) (rs.drop i) (hs.drop i) (by rw [List.length_take, List.length_take, e])
  rw [← e1, ← e2, p] at sa
  rw [sa, e3, e4, e5]
  show (ys.map some ++ (stepR (rs[i] :: rs.drop (i + 1)) (none :: hs.drop (i + 1)) (some m)).1, (stepR (rs[i] :: rs.drop (i + 1)) (none :: hs.drop (i + 1)) (some m)).2) = _
  rw [step_cn]
  simp
theorem set_mid {α : Type} (xs ys : List α) (y z : α) : (xs ++ y :: ys).set xs.length z = xs ++ z :: ys := by
  induction xs with
  | nil => rfl
  | cons x xs ih => simp
end SC
set_option maxRecDepth 100000
set_option maxHeartbeats 2000000
/-! # Part K: del xs[i:] -/
namespace SC
open PySem PySem.Spec PyProof.Rows L2 TL
theorem zip_take {α : Type} (sel : Nat → Bool) (a : Nat) (f : α × Nat → Option α) (hf : ∀ p, f p = if sel p.2 = true then none else some p.1) : ∀ (l : List α) (n : Nat), (∀ k, n ≤ k → k < n + l.length → sel k = decide (a ≤ k)) → (l.zipIdx n).filterMap f = l.take (a - n)
  | [], n, _ => by simp
  | x :: xs, n, h => by
    have h0 := h n (Nat.le_refl _) (by simp)
    have ih := zip_take sel a f hf xs (n + 1) fun k h1 h2 => h k (by omega) (by rw [List.length_cons]; omega)
    rw [List.zipIdx_cons, List.filterMap_cons, hf, ih]
    by_cases e : a ≤ n
    · have e1 : a - n = 0 := by omega
      have e2 : a - (n + 1) = 0 := by omega
      simp only [h0, decide_eq_true e, if_true, e1, e2, List.take_zero]
    · have e1 : a - n = (a - (n + 1)) + 1 := by omega
      simp only [h0, decide_eq_false e, Bool.false_eq_true, if_false, e1, List.take_succ_cons]
theorem bounds_from {a n : Nat} (ha : a ≤ n) : sliceBounds (some (a : Int)) none none n = ((a : Int), (n : Int), 1) := by
  simp only [sliceBounds, Option.getD_none]
  have h1 : ¬ ((a : Int) < 0) := by omega
  simp only [h1, if_false, show (1 : Int) > 0 by decide, if_true]
  congr 1
  omega
section
variable {prog : Program} {w : World} {A : Around} {E : Value → Shared → Prop} {s : Shared}
set_option maxRecDepth 100000 in
theorem delItem_slice {l sl : Addr} {items : Array Value} {n : Nat} {vl : Value} {a : Nat} {Q : Unit → Shared → Prop} (e : s.heap.get? l = some { cls := .type "list", data := .seq items n }) (hs : s.heap.IsSliceOf sl vl .none .none) (pl : IsPart vl (some (a : Int))) (ha : a ≤ items.size)
    (hsz : items.size ≤ sizeLine) (h : ∀ f : Array Value → Array Value, f items = (items.toList.take a).toArray → Q () { s with heap := s.heap.update l (Obj.mapSeq f) }) : wpAny (model prog w) A (delItem (.ref l) (.ref sl)) Q E s := by
  have hl : s.heap.IsList l items := PySem.IsL.isList e
  obtain ⟨os, hos, hcs, hds⟩ := id hs
  have hTs : s.TypeIs (.ref sl) "slice" := ⟨os, hos, hcs⟩
  have hstep : ¬ ((rawPart none == rawInt 0) = true) := Bool.false_ne_true
  refine wpAny_delItem_slot hl.typeIs (by decide) F.slot_list_delitem (wpAny_call_entry F.slot_list_delitem hl.typeIs F.entry_list_delitem ?_ (F.args_list_delitem_2 _ _))
  show wpAny _ _ (Builtin.List.listSubscript? (.ref sl) >>= _) _ _ s
  refine wpAny_bind ?_
  unfold Builtin.List.listSubscript?
  refine wpAny_bind (wpAny_specialOf hTs slice_no_index ?_)
  simp only [Option.isNone_none, if_true]
  refine wpAny_pure ?_
  show wpAny _ _ (typeOf (.ref sl) >>= _) _ _ s
  refine wpAny_bind (wpAny_typeOf hTs ?_)
  first
    | rw [if_neg (by decide)]
    | refine PySem.W.KFB.if_not (by decide) ?_
  rw [listSliceParts_eq]
  refine wpAny_bind (wpAny_bind (wpAny_field hos hds (x := .none) rfl (wpAny_bind (wpAny_listPart .none ?_))))
  rw [if_neg hstep]
  refine wpAny_bind (wpAny_field hos hds (x := vl) rfl (wpAny_bind (wpAny_listPart pl ?_)))
  refine wpAny_bind (wpAny_field hos hds (x := .none) rfl (wpAny_bind (wpAny_listPart .none (wpAny_pure ?_))))
  refine wpAny_bind (m := Builtin.List.listItems (.ref l)) ?_
  unfold Builtin.List.listItems
  refine wpAny_bind (wpAny_seqItems e rfl (wpAny_pure ?_))
  refine wpAny_bind (wpAny_of_eq ((sliceIndices_raw (some (a : Int)) none none items.size (by simp)).trans (congrArg (pure : Int × Int × Int → Sem (Int × Int × Int)) (bounds_from ha))) ?_)
  refine wpAny_bind (wpAny_rule ?_)
  have key : ∀ (F : Array Value → Array Value) (sel : Nat → Bool) (fm : Value × Nat → Option Value), (∀ xs, F xs = (xs.toList.zipIdx.filterMap fm).toArray) → (∀ p, fm p = if sel p.2 = true then none else some p.1) → (∀ k, k < items.size → sel k = decide (a ≤ k)) → F items = (items.toList.take a).toArray := fun F sel fm h1 h2 h3 => by
    rw [h1, zip_take sel a fm h2 items.toList 0 fun k _ hk => h3 k (by simpa using hk), Nat.sub_zero]
  have sz : ∀ F : Array Value → Array Value, F items = (items.toList.take a).toArray → (F items).size ≤ sizeLine + 1 := fun F hF => by
    rw [hF, List.size_toArray, List.length_take]
    have : items.toList.length = items.size := by simp
    omega
  show wpAny _ _ (updateSeq l _ >>= _) _ _ s
  have hsel : ∀ k : Nat, k < items.size → (decide ((a : Int) ≤ (k : Int)) && decide ((k : Int) < (items.size : Int)) && (((k : Int) - (a : Int)) % 1 == 0)) = decide (a ≤ k) := fun k hk => by
    have e1 : (((k : Int) - (a : Int)) % 1 == 0) = true := by rw [Int.emod_one]; rfl
    rw [e1, Bool.and_true, decide_eq_true (by omega : (k : Int) < (items.size : Int)), Bool.and_true]
    by_cases z : a ≤ k
    · rw [decide_eq_true z, decide_eq_true (by omega)]
    · rw [decide_eq_false z, decide_eq_false (by omega)]
  refine wpAny_bind (wpAny_updateSeq (hz := hsz) (_hz' := sz _ (key _ (fun k => (decide ((a : Int) ≤ (k : Int)) && decide ((k : Int) < (items.size : Int)) && (((k : Int) - (a : Int)) % 1 == 0))) _ (fun _ => rfl) (fun _ => rfl) hsel)) e rfl ?_)
  refine wpAny_bind (wpAny_letGo ?_)
  exact wpAny_pure ⟨.none, rfl, h _ (key _ (fun k => (decide ((a : Int) ≤ (k : Int)) && decide ((k : Int) < (items.size : Int)) && (((k : Int) - (a : Int)) % 1 == 0))) _ (fun _ => rfl) (fun _ => rfl) hsel)⟩
end
section
variable {X : Cx}
/-- del xs[i:] of a list -/
def tDelS (to tl : TE) : TS := fun D σ H => to σ H fun x H1 => tl σ H1 fun y H2 => ∃ (l : Addr) (xs : List V) (k : Nat), x = .ref l ∧ y = .int k ∧ H2 l = some (.lst xs) ∧ k ≤ xs.length ∧ D.nx σ (upd H2 l (.lst (xs.take k)))
theorem ps_delS {o lo : Expr} {to tl : TE} {tpos p2 pos : Pos} (ho : PE X o to) (hl : PE X lo tl) : PS X (.Delete [.Subscript o (.Slice (some lo) none none p2) tpos] pos) (tDelS to tl) := by
  refine ⟨fun pins s σ H D I h => ?_⟩
  refine wpAny_Delete (wpAny_deleteEach_cons (wpAny_delete_Subscript (thn (ho.run pins s σ H _ I h) fun u s1 ⟨x, H1, I1, rx, q1⟩ => ?_)))
  refine wpAny_Slice ?_
  rw [evalPart_some]
  refine thn (hl.run pins s1 σ H1 _ I1 q1) fun iv s2 ⟨y, H2, I2, ry, q2⟩ => ?_
  rw [evalPart_none]
  refine wpAny_pure ?_
  refine wpAny_pure ?_
  obtain ⟨l, xs, k, ex, ey, hH, hk, q2⟩ := q2
  subst ex ey
  cases (show u = Value.ref l from rx)
  obtain ⟨t, rfl⟩ := (show ∃ t, iv = Value.int k t from ry)
  have I4 : Inv X pins σ H2 { s2 with heap := s2.heap.push { cls := .type "slice", data := .fields #[.int k t, .none, .none] } } := I2.kept (t' := s2.toks) fun b ob q => Heap.get?_push_of_some _ q
  obtain ⟨z, its, n, r, hlen, e⟩ := I4.lstM hH
  refine delItem_slice (a := k) e (Heap.IsSliceOf.new ..) (.int _ _) (by rw [List.size_toArray]; omega) (by rw [List.size_toArray]; omega) fun f hf => ?_
  refine wpAny_deleteEach_nil ⟨σ, _, ?_, q2⟩
  refine I4.lset (its' := its.take k) (t' := s2.toks) hH e ?_ (r.take k) ?_
  · rw [hf]
  · rw [List.length_take]
    omega
end
end SC
set_option maxRecDepth 100000
set_option maxHeartbeats 2000000
/-! # Part L: worktops -/
namespace SC
open PySem PySem.Spec PyProof.Rows L2 TL
def StC (K : PySem.W.Frag) : Addr := He.ga K "Step"
def WkC (K : PySem.W.Frag) : Addr := He.ga K "Worktop"
structure Wk (K : PySem.W.Frag) (mg : Str → Option Value) : Prop where
  clsS : Cls K (StC K)
  mkS : Mk K (StC K) (He.ma K (StC K) "__init__")
  gloS : mg "Step" = some (.ref (StC K))
  nWord : NoAttr K (StC K) "word"
  nChain : NoAttr K (StC K) "chain"
  nNums : NoAttr K (StC K) "numbers"
  nOut : NoAttr K (StC K) "out"
  cls : Cls K (WkC K)
  mkW : Mk K (WkC K) (He.ma K (WkC K) "__init__")
  glo : mg "Worktop" = some (.ref (WkC K))
  nSteps : NoAttr K (WkC K) "steps"
  nDone : NoAttr K (WkC K) "done"
  nSaved : NoAttr K (WkC K) "saved"
  now : Meth K (WkC K) "now" (He.ma K (WkC K) "now")
  advance : Meth K (WkC K) "advance" (He.ma K (WkC K) "advance")
  put : Meth K (WkC K) "put" (He.ma K (WkC K) "put")
  take : Meth K (WkC K) "take" (He.ma K (WkC K) "take")
  swap : Meth K (WkC K) "swap" (He.ma K (WkC K) "swap")
  undo : Meth K (WkC K) "undo" (He.ma K (WkC K) "undo")
  redo : Meth K (WkC K) "redo" (He.ma K (WkC K) "redo")
  save : Meth K (WkC K) "save" (He.ma K (WkC K) "save")
  restore : Meth K (WkC K) "restore" (He.ma K (WkC K) "restore")
  execute : Meth K (WkC K) "execute" (He.ma K (WkC K) "execute")
  batch : Meth K (WkC K) "batch" (He.ma K (WkC K) "batch")
  chainNow : PropOf K (WkC K) "chain_now" (He.ma K (WkC K) "chain_now") (pgA K "Worktop" "chain_now")
  held : PropOf K (WkC K) "held" (He.ma K (WkC K) "held") (pgA K "Worktop" "held")
  letOut : PropOf K (WkC K) "let_out" (He.ma K (WkC K) "let_out") (pgA K "Worktop" "let_out")
  operations : PropOf K (WkC K) "operations" (He.ma K (WkC K) "operations") (pgA K "Worktop" "operations")
  neC : WkC K ≠ ChC K
  neK : ∀ k : Kd, WkC K ≠ He.ga K k.cn
theorem wk_neC {K : PySem.W.Frag} {mg : Str → Option Value} (h : PySem.W.kitOne K (Cn.v K (.g "Worktop")) (Cn.v K (.g "Chain")) = some false) (T : Chains K mg) : WkC K ≠ ChC K := fun e => by
  have h2 : PySem.W.kitOne K (.ref (WkC K)) (.ref (ChC K)) = some false := h
  rw [e, T.kit] at h2
  cases h2
theorem wk_neK {K : PySem.W.Frag} {mg : Str → Option Value} (h : PySem.W.kitOne K (Cn.v K (.g "Worktop")) (Cn.v K (.g "Cell")) = some false) (T : Cells K mg) : ∀ k : Kd, WkC K ≠ He.ga K k.cn := fun k e => by
  have h2 : PySem.W.kitOne K (.ref (WkC K)) (.ref (He.ga K "Cell")) = some false := h
  rw [e, T.kit k] at h2
  cases h2
/-- a step of a worktop -/
structure St1 where
  word : Str
  rs : List Rule
  hs : List (Option Int)
  out : Option Int
def St1.fs (s : St1) (c t : Addr) : List (Str × V) := [("word", .str s.word), ("chain", .ref c), ("numbers", .ref t), ("out", ov s.out)]
def StepAt (K : PySem.W.Frag) (H : Hp) (a : Addr) (s : St1) : Prop :=
  ∃ (dx c t : Addr), H a = some (.ins (StC K) dx (s.fs c t)) ∧ ChainAt K H c s.rs ∧ H t = some (.tup (s.hs.map ov)) ∧ s.hs.length = s.rs.length ∧ Fill s.hs
theorem StepAt.same {K : PySem.W.Frag} {H H' : Hp} {a : Addr} {s : St1} (h : StepAt K H a s) (e : Same H H') : StepAt K H' a s := by
  obtain ⟨dx, c, t, h1, h2, h3, h4⟩ := h
  exact ⟨dx, c, t, e _ _ h1, h2.same e, e _ _ h3, h4⟩
def Steps (K : PySem.W.Frag) (H : Hp) (as : List Addr) (ss : List St1) : Prop := as.length = ss.length ∧ ∀ (i : Nat) (a : Addr) (s : St1), as[i]? = some a → ss[i]? = some s → StepAt K H a s
theorem Steps.same {K : PySem.W.Frag} {H H' : Hp} {as : List Addr} {ss : List St1} (h : Steps K H as ss) (e : Same H H') : Steps K H' as ss := ⟨h.1, fun i a s h1 h2 => (h.2 i a s h1 h2).same e⟩
theorem Steps.take {K : PySem.W.Frag} {H : Hp} {as : List Addr} {ss : List St1} (h : Steps K H as ss) (n : Nat) : Steps K H (as.take n) (ss.take n) := by
  refine ⟨by rw [List.length_take, List.length_take, h.1], fun i a s h1 h2 => ?_⟩
  rw [List.getElem?_take] at h1 h2
  split at h1
  · rename_i z
    rw [if_pos z] at h2
    exact h.2 i a s h1 h2
  · cases h1
theorem Steps.snoc {K : PySem.W.Frag} {H : Hp} {as : List Addr} {ss : List St1} {a : Addr} {s : St1} (h : Steps K H as ss) (g : StepAt K H a s) : Steps K H (as ++ [a]) (ss ++ [s]) := by
  refine ⟨by simp [h.1], fun i b q h1 h2 => ?_⟩
  by_cases hi : i < as.length
  · rw [List.getElem?_append_left hi] at h1
    rw [List.getElem?_append_left (by rw [← h.1]; exact hi)] at h2
    exact h.2 i b q h1 h2
  · rw [List.getElem?_append_right (by omega)] at h1
    rw [List.getElem?_append_right (by rw [← h.1]; omega), ← h.1] at h2
    cases e : i - as.length with
    | zero =>
      rw [e] at h1 h2
      simp at h1 h2
      subst h1 h2
      exact g
    | succ m =>
      rw [e] at h1
      simp at h1
/-- a worktop: its list of steps at L, its snapshots at S -/
def wkFs (L S : Addr) (i : Nat) : List (Str × V) := [("steps", .ref L), ("done", .int i), ("saved", .ref S)]
structure WtAt (K : PySem.W.Frag) (M : List Addr) (H : Hp) (wt L S : Addr) (ss : List St1) (i : Nat) : Prop where
  obj : ∃ dx, H wt = some (.ins (WkC K) dx (wkFs L S i))
  lst : ∃ as, H L = some (.lst (as.map V.ref)) ∧ Steps K (wo M H) as ss
  lt : i < ss.length
  few : ss.length ≤ 100000
  mw : wt ∈ M
  ml : L ∈ M
  ne : wt ≠ L
/-- all but the worktop and its list is as it was -/
def FrW (wt L : Addr) (H H' : Hp) : Prop := ∀ b o, H b = some o → b ≠ wt → b ≠ L → H' b = some o
theorem FrW.fm {K : PySem.W.Frag} {M : List Addr} {H H' : Hp} {wt L : Addr} (f : FrW wt L H H') (h1 : wt ∈ M) (h2 : L ∈ M) : Fm M H H' := fun b o e => by
  obtain ⟨e1, e2⟩ := wo_some e
  rw [wo_at e1]
  exact f b o e2 (fun z => e1 (z ▸ h1)) (fun z => e1 (z ▸ h2))
theorem FrW.of {H H' : Hp} {wt L : Addr} (s : Same H H') : FrW wt L H H' := fun b o h _ _ => s b o h
theorem FrW.trans {H H1 H2 : Hp} {wt L : Addr} (x : FrW wt L H H1) (y : FrW wt L H1 H2) : FrW wt L H H2 := fun b o h n1 n2 => y b o (x b o h n1 n2) n1 n2
theorem FrW.atL {H : Hp} {wt L : Addr} {o : HO} : FrW wt L H (upd H L o) := fun b u h _ n => by rw [upd_ne n]; exact h
theorem FrW.atW {H : Hp} {wt L : Addr} {o : HO} : FrW wt L H (upd H wt o) := fun b u h n _ => by rw [upd_ne n]; exact h
theorem WtAt.same {K : PySem.W.Frag} {M : List Addr} {H H' : Hp} {wt L S : Addr} {ss : List St1} {i : Nat} (x : WtAt K M H wt L S ss i) (s : Same H H') : WtAt K M H' wt L S ss i := by
  obtain ⟨⟨dx, h1⟩, ⟨as, h2, h3⟩, h4, h5, h6, h7, h8⟩ := x
  exact ⟨⟨dx, s _ _ h1⟩, ⟨as, s _ _ h2, h3.same (swo s)⟩, h4, h5, h6, h7, h8⟩
theorem WtAt.fr {K : PySem.W.Frag} {M : List Addr} {H H' : Hp} {wt L S d : Addr} {ss : List St1} {i : Nat} (x : WtAt K M H wt L S ss i) (f : Fr1 d H H') (hd : d ∈ M) (n1 : wt ≠ d) (n2 : L ≠ d) : WtAt K M H' wt L S ss i := by
  obtain ⟨⟨dx, h1⟩, ⟨as, h2, h3⟩, h4, h5, h6, h7, h8⟩ := x
  exact ⟨⟨dx, f _ _ h1 n1⟩, ⟨as, f _ _ h2 n2, h3.same (Fm.of1 hd f)⟩, h4, h5, h6, h7, h8⟩
theorem mut_wk {K : PySem.W.Frag} {mg : Str → Option Value} {dx : Addr} {fs : List (Str × V)} (T : Wk K mg) : Mut K (.ins (WkC K) dx fs) := ⟨T.neC, T.neK⟩
theorem look_steps {L S : Addr} {i : Nat} : (wkFs L S i).lookup ("steps" : Str) = some (.ref L) := by simp [wkFs, List.lookup]
theorem look_done {L S : Addr} {i : Nat} : (wkFs L S i).lookup ("done" : Str) = some (.int i) := by
  have h1 : (("done" : Str) == "steps") = false := by decide +kernel
  simp [wkFs, List.lookup, h1]
theorem look_saved {L S : Addr} {i : Nat} : (wkFs L S i).lookup ("saved" : Str) = some (.ref S) := by
  have h1 : (("saved" : Str) == "steps") = false := by decide +kernel
  have h2 : (("saved" : Str) == "done") = false := by decide +kernel
  simp [wkFs, List.lookup, h1, h2]
theorem wk_no {L S : Addr} {i : Nat} {m : Str} (h1 : (m == ("steps" : Str)) = false) (h2 : (m == ("done" : Str)) = false) (h3 : (m == ("saved" : Str)) = false) : (wkFs L S i).lookup m = none := by
  simp [wkFs, List.lookup, h1, h2, h3]
theorem st_word {s : St1} {c t : Addr} : (s.fs c t).lookup ("word" : Str) = some (.str s.word) := by simp [St1.fs, List.lookup]
theorem st_chain {s : St1} {c t : Addr} : (s.fs c t).lookup ("chain" : Str) = some (.ref c) := by
  have h1 : (("chain" : Str) == "word") = false := by decide +kernel
  simp [St1.fs, List.lookup, h1]
theorem st_nums {s : St1} {c t : Addr} : (s.fs c t).lookup ("numbers" : Str) = some (.ref t) := by
  have h1 : (("numbers" : Str) == "word") = false := by decide +kernel
  have h2 : (("numbers" : Str) == "chain") = false := by decide +kernel
  simp [St1.fs, List.lookup, h1, h2]
theorem st_out {s : St1} {c t : Addr} : (s.fs c t).lookup ("out" : Str) = some (ov s.out) := by
  have h1 : (("out" : Str) == "word") = false := by decide +kernel
  have h2 : (("out" : Str) == "chain") = false := by decide +kernel
  have h3 : (("out" : Str) == "numbers") = false := by decide +kernel
  simp [St1.fs, List.lookup, h1, h2, h3]
theorem put_done {L S : Addr} {i j : Nat} {v : V} (e : v = .int j) : putF ("done" : Str) v (wkFs L S i) = wkFs L S j := by
  subst e
  have h1 : ¬ (("steps" : Str) = "done") := by decide +kernel
  simp [wkFs, putF, h1]
/-! ### promises -/
def spStInit (K : PySem.W.Frag) : Sp := fun vs H Q _ => ∃ (x dx : Addr) (v1 v2 v3 v4 : V), vs = [.ref x, v1, v2, v3, v4] ∧ H x = some (.ins (StC K) dx []) ∧ Q .non (upd H x (.ins (StC K) dx [("word", v1), ("chain", v2), ("numbers", v3), ("out", v4)]))
def spWkInit (K : PySem.W.Frag) : Sp := fun vs H Q _ => ∃ (x dx c : Addr) (rs : List Rule), vs = [.ref x, .ref c] ∧ H x = some (.ins (WkC K) dx []) ∧ ChainAt K H c rs ∧
  ∀ (L S y : Addr) (H' : Hp), H L = none → H S = none → H y = none → L ≠ S → Fr1 x H H' → H' x = some (.ins (WkC K) dx (wkFs L S 0)) → H' L = some (.lst [.ref y]) → H' S = some (.dK []) → StepAt K H' y ⟨"", rs, nones rs.length, none⟩ → Q .non H'
theorem tup_wo {K : PySem.W.Frag} {M : List Addr} {H : Hp} {t : Addr} {xs : List V} (g : Gd K M H) (h : H t = some (.tup xs)) : wo M H t = some (.tup xs) := by
  rw [wo_at]
  · exact h
  · intro hm
    obtain ⟨o, e1, e2⟩ := g t hm
    rw [h] at e1
    cases e1
    exact e2
theorem step_wo {K : PySem.W.Frag} {M : List Addr} {H : Hp} {a : Addr} {s : St1} (g : Gd K M H) (h : StepAt K H a s) (ha : a ∉ M) : StepAt K (wo M H) a s := by
  obtain ⟨dx, c, t, h1, h2, h3, h4⟩ := h
  exact ⟨dx, c, t, by rw [wo_at ha]; exact h1, chain_wo g h2, tup_wo g h3, h4⟩
/-- a new worktop -/
theorem wt_new {K : PySem.W.Frag} {mg : Str → Option Value} {M : List Addr} {H0 H' : Hp} {x dx dx' L S y : Addr} {s0 : St1} (W : Wk K mg) (g : Gd K M H0) (f : ∀ b o, H0 b = some o → H' b = some o) (h0 : H0 x = none) (hL : H0 L = none) (hS : H0 S = none) (hy : H0 y = none) (hyx : y ≠ x)
    (e1 : H' x = some (.ins (WkC K) dx (wkFs L S 0))) (e2 : H' L = some (.lst [.ref y])) (e3 : H' S = some (.dK [])) (st : StepAt K H' y s0) : Gd K (x :: L :: S :: M) H' ∧ WtAt K (x :: L :: S :: M) H' x L S [s0] 0 := by
  have g' : Gd K (x :: L :: S :: M) H' := (((g.same f).cons e3 trivial).cons e2 trivial).cons e1 (mut_wk W)
  obtain ⟨dy, c, t, y1, _⟩ := id st
  have yM : y ∉ x :: L :: S :: M := fun z => by
    rcases List.mem_cons.mp z with z | z
    · exact hyx z
    · rcases List.mem_cons.mp z with z | z
      · rw [z, e2] at y1
        cases y1
      · rcases List.mem_cons.mp z with z | z
        · rw [z, e3] at y1
          cases y1
        · exact g.out hy z
  refine ⟨g', ⟨dx, e1⟩, ⟨[y], e2, rfl, fun i a s h1 h2 => ?_⟩, by simp, by simp, List.mem_cons_self, List.mem_cons_of_mem _ List.mem_cons_self, fun z => ?_⟩
  · match i, h1, h2 with
    | 0, h1, h2 =>
      cases h1
      cases h2
      exact step_wo g' st yM
    | i + 1, h1, h2 => simp at h1
  · rw [z, e2] at e1
    cases e1
def spNow (K : PySem.W.Frag) : Sp := fun vs H Q _ => ∃ (M : List Addr) (wt L S : Addr) (ss : List St1) (i : Nat) (s : St1), vs = [.ref wt] ∧ WtAt K M H wt L S ss i ∧ ss[i]? = some s ∧ ∀ a, StepAt K (wo M H) a s → Q (.ref a) H
def spAdvance (K : PySem.W.Frag) : Sp := fun vs H Q _ => ∃ (M : List Addr) (wt L S c t : Addr) (ss : List St1) (i : Nat) (s : St1), vs = [.ref wt, .str s.word, .ref c, .ref t, ov s.out] ∧ Gd K M H ∧ WtAt K M H wt L S ss i ∧ ss.length < 100000 ∧ ChainAt K (wo M H) c s.rs ∧ wo M H t = some (.tup (s.hs.map ov)) ∧ s.hs.length = s.rs.length ∧ Fill s.hs ∧
  ∀ H', FrW wt L H H' → Gd K M H' → WtAt K M H' wt L S (ss.take (i + 1) ++ [s]) (i + 1) → Q .non H'
/-- what put makes of a step -/
def putSt (s : St1) (n : Int) : St1 := ⟨"put", s.rs, (stepR s.rs s.hs (some n)).1, (stepR s.rs s.hs (some n)).2⟩
def spPut (K : PySem.W.Frag) : Sp := fun vs H Q _ => ∃ (M : List Addr) (wt L S : Addr) (ss : List St1) (i : Nat) (s : St1) (n : Int), vs = [.ref wt, .int n] ∧ numOk n ∧ Gd K M H ∧ WtAt K M H wt L S ss i ∧ ss.length < 100000 ∧ ss[i]? = some s ∧
  ∀ H', FrW wt L H H' → Gd K M H' → WtAt K M H' wt L S (ss.take (i + 1) ++ [putSt s n]) (i + 1) → Q (ov (putSt s n).out) H'
def spHeld (K : PySem.W.Frag) : Sp := fun vs H Q _ => ∃ (M : List Addr) (wt L S : Addr) (ss : List St1) (i : Nat) (s : St1), vs = [.ref wt] ∧ WtAt K M H wt L S ss i ∧ ss[i]? = some s ∧ ∀ v, Rp K (wo M H) (.tup (s.hs.map dO)) v → Q v H
def spLetOut (K : PySem.W.Frag) : Sp := fun vs H Q _ => ∃ (M : List Addr) (wt L S : Addr) (ss : List St1) (i : Nat), vs = [.ref wt] ∧ Gd K M H ∧ WtAt K M H wt L S ss i ∧ ∀ v H', Same H H' → Gd K M H' → Rp K (wo M H') (.lst (((ss.take (i + 1)).filterMap St1.out).map D.int)) v → Q v H'
theorem pe_fldK {X : Cx} {K : PySem.W.Frag} {e : Expr} {f : Str} {ta : TE} {pos : Pos} (hK : X.K = K) (ha : PE X e ta) (hb : attributeBase e f X.env (eval e X.env) = eval e X.env := by rfl) : PE X (.Attribute e f pos) (tFld K ta f) := hK ▸ pe_fld ha hb
def spChainNow (K : PySem.W.Frag) : Sp := fun vs H Q _ => ∃ (M : List Addr) (wt L S : Addr) (ss : List St1) (i : Nat) (s : St1), vs = [.ref wt] ∧ WtAt K M H wt L S ss i ∧ ss[i]? = some s ∧ ∀ v, Rp K (wo M H) (.chain s.rs) v → Q v H
def spOps (K : PySem.W.Frag) : Sp := fun vs H Q _ => ∃ (M : List Addr) (wt L S : Addr) (ss : List St1) (i : Nat), vs = [.ref wt] ∧ Gd K M H ∧ WtAt K M H wt L S ss i ∧ ∀ v H', Same H H' → Gd K M H' → Rp K (wo M H') (.lst ((((ss.take (i + 1)).drop 1).map St1.word).map D.str)) v → Q v H'
def spUndo (K : PySem.W.Frag) : Sp := fun vs H Q _ => ∃ (M : List Addr) (wt L S : Addr) (ss : List St1) (i : Nat), vs = [.ref wt] ∧ Gd K M H ∧ WtAt K M H wt L S ss i ∧ (i = 0 → Q (.bl false) H) ∧ (0 < i → ∀ H', FrW wt L H H' → Gd K M H' → WtAt K M H' wt L S ss (i - 1) → Q (.bl true) H')
def spRedo (K : PySem.W.Frag) : Sp := fun vs H Q _ => ∃ (M : List Addr) (wt L S : Addr) (ss : List St1) (i : Nat), vs = [.ref wt] ∧ Gd K M H ∧ WtAt K M H wt L S ss i ∧ (i + 1 = ss.length → Q (.bl false) H) ∧ (i + 1 < ss.length → ∀ H', FrW wt L H H' → Gd K M H' → WtAt K M H' wt L S ss (i + 1) → Q (.bl true) H')
theorem steps_cut {as : List Addr} {lo hi : Option Int} : cutV (as.map V.ref) lo hi = ((as.drop (HT.sIx as.length 0 lo)).take (HT.sIx as.length as.length hi - HT.sIx as.length 0 lo)).map V.ref := by
  unfold cutV
  rw [List.length_map, ← List.map_drop, ← List.map_take]
theorem cutV_to {α : Type} (f : α → V) (xs : List α) (n : Nat) : cutV (xs.map f) none (some (n : Int)) = (xs.take n).map f := by
  rw [cut_take, List.map_take]
theorem Steps.drop {K : PySem.W.Frag} {H : Hp} {as : List Addr} {ss : List St1} (h : Steps K H as ss) (n : Nat) : Steps K H (as.drop n) (ss.drop n) := by
  refine ⟨by rw [List.length_drop, List.length_drop, h.1], fun i a s h1 h2 => ?_⟩
  rw [List.getElem?_drop] at h1 h2
  exact h.2 _ a s h1 h2
theorem Steps.at {K : PySem.W.Frag} {H : Hp} {as : List Addr} {ss : List St1} (h : Steps K H as ss) {i : Nat} {a : Addr} (e : as[i]? = some a) : ∃ s, ss[i]? = some s ∧ StepAt K H a s := by
  have hi : i < ss.length := by
    rw [← h.1]
    rcases Nat.lt_or_ge i as.length with z | z
    · exact z
    · rw [List.getElem?_eq_none z] at e
      cases e
  exact ⟨_, List.getElem?_eq_getElem hi, h.2 i a _ e (List.getElem?_eq_getElem hi)⟩
end SC
set_option maxRecDepth 100000
set_option maxHeartbeats 2000000
/-! # Part Eq: _law_equal of data -/
namespace SC
open PySem PySem.Spec PyProof.Rows L2 TL
inductive OkS : Nat → D → Prop
  | non {n : Nat} : OkS n .non
  | bl {n : Nat} {b : Bool} : OkS n (.bl b)
  | int {n : Nat} {i : Int} : OkS n (.int i)
  | str {n : Nat} {s : Str} : OkS n (.str s)
  | lst {n : Nat} {l : List D} (hl : l.length ≤ 100000) (h : ∀ x ∈ l, OkS n x) : OkS (n + 1) (.lst l)
  | tup {n : Nat} {l : List D} (hl : l.length ≤ 100000) (h : ∀ x ∈ l, OkS n x) : OkS (n + 1) (.tup l)
section
variable {K : PySem.W.Frag} {M : List Addr} {σ : L2.St} {H : Hp}
theorem eqn_of : ∀ {n : Nat} {d : D} {x y : V}, OkS n d → Rp K H d x → Rp K H d y → EqN K n H x y
  | _, _, _, _, .non, h1, h2 => by cases h1; cases h2; exact eq0
  | _, _, _, _, .bl, h1, h2 => by cases h1; cases h2; exact eq0
  | _, _, _, _, .int, h1, h2 => by cases h1; cases h2; exact eq0
  | _, _, _, _, .str, h1, h2 => by cases h1; cases h2; exact eq0
  | _, _, _, _, .lst (n := n) (l := l) hl ho, h1, h2 => by
    obtain ⟨a, xs, rfl, e1, r1⟩ := h1
    obtain ⟨b, ys, rfl, e2, r2⟩ := h2
    refine .inr ⟨a, b, xs, ys, rfl, rfl, .inl ⟨e1, e2⟩, by rw [r1.len, r2.len], by rw [r1.len]; exact hl, fun i u v hu hv => ?_⟩
    obtain ⟨z, hz, rz⟩ := r1.get' hu
    obtain ⟨z2, hz2, rz2⟩ := r2.get' hv
    rw [hz] at hz2
    cases hz2
    exact eqn_of (ho z (List.mem_of_getElem? hz)) rz rz2
  | _, _, _, _, .tup (n := n) (l := l) hl ho, h1, h2 => by
    obtain ⟨a, xs, rfl, e1, r1⟩ := h1
    obtain ⟨b, ys, rfl, e2, r2⟩ := h2
    refine .inr ⟨a, b, xs, ys, rfl, rfl, .inr ⟨e1, e2⟩, by rw [r1.len, r2.len], by rw [r1.len]; exact hl, fun i u v hu hv => ?_⟩
    obtain ⟨z, hz, rz⟩ := r1.get' hu
    obtain ⟨z2, hz2, rz2⟩ := r2.get' hv
    rw [hz] at hz2
    cases hz2
    exact eqn_of (ho z (List.mem_of_getElem? hz)) rz rz2
/-- _law_equal(x, y) of the same data -/
theorem rd_equal {u : TA} {n : Nat} {d e : D} (he : d = e) (o : OkS n d) (h : RdA K M u σ H [d, e]) : Rd K M (tCall (spEqual K n) [] E0 u) σ H (.bl true) := by
  subst he
  exact fun H1 s1 g Q k => h H1 s1 g _ fun xs H2 s2 g2 r2 => by
    obtain ⟨v, vs, rfl, r1, v2, vs2, rfl, r3, r4⟩ := r2
    cases r4
    exact ⟨v, v2, rfl, eqn_of o (r1.here) (r3.here), fun H3 s3 => k _ H3 (s2.trans s3) (g2.same s3) rfl⟩
theorem oks_dO {o : Option Int} {n : Nat} : OkS n (dO o) := by cases o <;> constructor
theorem oks_opts {os : List (Option Int)} {n : Nat} (h : os.length ≤ 100000) : OkS (n + 1) (.lst (os.map dO)) := .lst (by rw [List.length_map]; exact h) fun x hx => by
  obtain ⟨i, _, rfl⟩ := List.mem_map.mp hx
  exact oks_dO
theorem oks_optsT {os : List (Option Int)} {n : Nat} (h : os.length ≤ 100000) : OkS (n + 1) (.tup (os.map dO)) := .tup (by rw [List.length_map]; exact h) fun x hx => by
  obtain ⟨i, _, rfl⟩ := List.mem_map.mp hx
  exact oks_dO
theorem oks_ints {ns : List Int} {n : Nat} (h : ns.length ≤ 100000) : OkS (n + 1) (.lst (ns.map D.int)) := .lst (by rw [List.length_map]; exact h) fun x hx => by
  obtain ⟨i, _, rfl⟩ := List.mem_map.mp hx
  exact .int
theorem oks_two {a b : D} {n : Nat} (h1 : OkS n a) (h2 : OkS n b) : OkS (n + 1) (.lst [a, b]) := .lst (by show 2 ≤ 100000; decide) fun x hx => by
  rcases List.mem_cons.mp hx with rfl | hx
  · exact h1
  · rw [List.mem_singleton.mp hx]
    exact h2
/-- worktop.held -/
theorem rd_held {tf : TE} {wt L S : Addr} {ss : List St1} {i : Nat} {s : St1} (hw : WtAt K M H wt L S ss i) (hi : ss[i]? = some s) (hf : ∀ H1, Same H H1 → ∀ Q : VK, Q (.ref wt) H1 → tf σ H1 Q) :
    Rd K M (tProp (WkC K) (spHeld K) [] E0 tf) σ H (.tup (s.hs.map dO)) := fun H1 s1 g Q k => hf H1 s1 _ (by
  have w1 := hw.same s1
  obtain ⟨⟨dx, h1⟩, _⟩ := id w1
  exact ⟨wt, dx, _, rfl, h1, M, wt, L, S, ss, i, s, rfl, w1, hi, fun v r => k v H1 (Same.refl _) g r⟩)
theorem rd_letout {tf : TE} {wt L S : Addr} {ss : List St1} {i : Nat} (hw : WtAt K M H wt L S ss i) (hf : ∀ H1, Same H H1 → ∀ Q : VK, Q (.ref wt) H1 → tf σ H1 Q) :
    Rd K M (tProp (WkC K) (spLetOut K) [] E0 tf) σ H (.lst (((ss.take (i + 1)).filterMap St1.out).map D.int)) := fun H1 s1 g Q k => hf H1 s1 _ (by
  have w1 := hw.same s1
  obtain ⟨⟨dx, h1⟩, _⟩ := id w1
  exact ⟨wt, dx, _, rfl, h1, M, wt, L, S, ss, i, rfl, g, w1, fun v H2 s2 g2 r => k v H2 s2 g2 r⟩)
theorem rd_ops {tf : TE} {wt L S : Addr} {ss : List St1} {i : Nat} (hw : WtAt K M H wt L S ss i) (hf : ∀ H1, Same H H1 → ∀ Q : VK, Q (.ref wt) H1 → tf σ H1 Q) :
    Rd K M (tProp (WkC K) (spOps K) [] E0 tf) σ H (.lst ((((ss.take (i + 1)).drop 1).map St1.word).map D.str)) := fun H1 s1 g Q k => hf H1 s1 _ (by
  have w1 := hw.same s1
  obtain ⟨⟨dx, h1⟩, _⟩ := id w1
  exact ⟨wt, dx, _, rfl, h1, M, wt, L, S, ss, i, rfl, g, w1, fun v H2 s2 g2 r => k v H2 s2 g2 r⟩)
theorem rd_chainnow {tf : TE} {wt L S : Addr} {ss : List St1} {i : Nat} {s : St1} (hw : WtAt K M H wt L S ss i) (hi : ss[i]? = some s) (hf : ∀ H1, Same H H1 → ∀ Q : VK, Q (.ref wt) H1 → tf σ H1 Q) :
    Rd K M (tProp (WkC K) (spChainNow K) [] E0 tf) σ H (.chain s.rs) := fun H1 s1 g Q k => hf H1 s1 _ (by
  have w1 := hw.same s1
  obtain ⟨⟨dx, h1⟩, _⟩ := id w1
  exact ⟨wt, dx, _, rfl, h1, M, wt, L, S, ss, i, s, rfl, w1, hi, fun v r => k v H1 (Same.refl _) g r⟩)
/-- the name of a worktop -/
theorem wk_var {i : Nat} {v : V} (e : σ[i]? = some (some v)) : ∀ H1, Same H H1 → ∀ Q : VK, Q v H1 → tVar i σ H1 Q := fun H1 _ Q q => ⟨v, e, q⟩
/-- cell(a, b) -/
theorem rd_cellcall {tf : TE} {u : TA} {r : Rule} {h c : Int} (hf : Rd K M tf σ H (.cell r)) (ha : RdA K M u σ H [.int h, .int c]) : Rd K M (tCellCall K tf u) σ H (.tup [.int (r.keep h c).1, .int (r.keep h c).2]) := fun H1 s1 g Q k => hf H1 s1 g _ fun x H2 s2 g2 rx => by
  obtain ⟨a, rfl, ca⟩ := rx
  refine ⟨a, rfl, ha H2 (s1.trans s2) g2 _ fun vs H3 s3 g3 r3 => ?_⟩
  obtain ⟨v, vs1, rfl, r1, v2, vs2, rfl, r2, r4⟩ := r3
  cases r1
  cases r2
  cases r4
  exact ⟨r, h, c, rfl, (ca.same wo_le).same s3, fun p hp => new_tup (l := [.int (r.keep h c).1, .int (r.keep h c).2]) g3 hp ⟨_, _, rfl, rfl, _, _, rfl, rfl, rfl⟩ fun v H4 s4 => k v H4 ((s2.trans s3).trans s4)⟩
theorem ok_pair {a b : Int} : Ok 1 (.tup [.int a, .int b]) := .tup fun x hx => by
  rcases List.mem_cons.mp hx with rfl | hx
  · exact .int
  · rw [List.mem_singleton.mp hx]
    exact .int
end
theorem StepAt.fr {K : PySem.W.Frag} {H H' : Hp} {a d : Addr} {s : St1} {xs : List V} (h : StepAt K H a s) (hd : H d = some (.lst xs)) (f : Fr1 d H H') : StepAt K H' a s := by
  obtain ⟨dx, c, t, h1, h2, h3, h4⟩ := h
  exact ⟨dx, c, t, f _ _ h1 (ne_of h1 hd fun z => by cases z), h2.fr hd f, f _ _ h3 (ne_of h3 hd fun z => by cases z), h4⟩
theorem WtAt.frL {K : PySem.W.Frag} {M : List Addr} {H : Hp} {wt L S d : Addr} {ss : List St1} {i : Nat} {xs ys : List V} (x : WtAt K M H wt L S ss i) (hd : H d = some (.lst xs)) (nd : d ∉ M) : WtAt K M (upd H d (.lst ys)) wt L S ss i := by
  obtain ⟨⟨dx, h1⟩, ⟨as, h2, h3⟩, h4, h5, h6, h7, h8⟩ := x
  have n1 : wt ≠ d := fun z => nd (z ▸ h6)
  have n2 : L ≠ d := fun z => nd (z ▸ h7)
  have hw : wo M H d = some (.lst xs) := by rw [wo_at nd]; exact hd
  have fw : Fr1 d (wo M H) (wo M (upd H d (.lst ys))) := fun b o hb nb => by
    obtain ⟨b1, b2⟩ := wo_some hb
    rw [wo_at b1, upd_ne nb]
    exact b2
  exact ⟨⟨dx, by rw [upd_ne n1]; exact h1⟩, ⟨as, by rw [upd_ne n2]; exact h2, h3.1, fun j a s e1 e2 => (h3.2 j a s e1 e2).fr hw fw⟩, h4, h5, h6, h7, h8⟩
theorem run_pre (rs : List Rule) (hs : List (Option Int)) (ns : List Int) (i : Nat) : (runR rs hs (ns.take i)).1 = (runR rs hs ns).1.take i := by
  by_cases h : i ≤ ns.length
  · have z := run_app rs (ns.take i) (ns.drop i) hs
    rw [List.take_append_drop] at z
    have z1 : (runR rs hs ns).1 = (runR rs hs (ns.take i)).1 ++ (runR rs (runR rs hs (ns.take i)).2 (ns.drop i)).1 := congrArg Prod.fst z
    rw [z1]
    have kl := (run_len rs (ns.take i) hs).1
    rw [List.length_take, Nat.min_eq_left h] at kl
    exact (List.take_left' kl).symm
  · rw [List.take_of_length_le (by omega), List.take_of_length_le (by rw [(run_len rs ns hs).1]; omega)]
end SC
set_option maxRecDepth 100000
set_option maxHeartbeats 2000000
/-! # Part T2: steps of worktops, read; take and swap -/
namespace SC
open PySem PySem.Spec PyProof.Rows L2 TL
section
variable {K : PySem.W.Frag} {mg : Str → Option Value} {M : List Addr} {σ : L2.St} {H : Hp}
theorem rd_stnums {i : Nat} {a : Addr} {s : St1} (W : Wk K mg) (e : σ[i]? = some (some (.ref a))) (h : StepAt K (wo M H) a s) : Rd K M (tFld K (tVar i) "numbers") σ H (.tup (s.hs.map dO)) := fun H1 s1 g Q k => by
  obtain ⟨dx, c, t, h1, h2, h3, h4⟩ := h.same (swo s1)
  exact ⟨_, e, a, _, dx, _, _, rfl, wo_le _ _ h1, W.clsS, W.nNums, st_nums, k _ H1 (Same.refl _) g ⟨t, _, rfl, h3, rp_opts.mpr rfl⟩⟩
theorem rd_stchain {i : Nat} {a : Addr} {s : St1} (W : Wk K mg) (e : σ[i]? = some (some (.ref a))) (h : StepAt K (wo M H) a s) : Rd K M (tFld K (tVar i) "chain") σ H (.chain s.rs) := fun H1 s1 g Q k => by
  obtain ⟨dx, c, t, h1, h2, h3, h4⟩ := h.same (swo s1)
  exact ⟨_, e, a, _, dx, _, _, rfl, wo_le _ _ h1, W.clsS, W.nChain, st_chain, k _ H1 (Same.refl _) g ⟨c, rfl, h2⟩⟩
theorem use_callE {sp : Sp} {E : XK} {u : TA} {D : Ends} {ds : List SC.D} (h : RdA K M u σ H ds) (g : Gd K M H) (k : ∀ vs H2, Same H H2 → Gd K M H2 → RpL K (wo M H2) ds vs → sp (vs ++ []) H2 (fun _ H3 => D.nx σ H3) E) : tDrop (tCall sp [] E u) D σ H := h H (Same.refl _) g _ fun vs H2 s g2 r => k vs H2 s g2 r
end
def takeSt (s : St1) (k : Nat) : St1 := ⟨"take", s.rs, s.hs.take k ++ s.hs.drop (k + 1) ++ [none], none⟩
theorem take_fill {hs : List (Option Int)} {k : Nat} {v : Int} (f : Fill hs) (h : hs[k]? = some (some v)) : Fill (hs.take k ++ hs.drop (k + 1) ++ [none]) := by
  obtain ⟨xs, n, rfl⟩ := f
  have hk : k < xs.length := by
    rcases Nat.lt_or_ge k xs.length with z | z
    · exact z
    · rw [List.getElem?_append_right (by rw [List.length_map]; exact z)] at h
      have := List.mem_of_getElem? h
      unfold nones at this
      rw [List.mem_replicate] at this
      cases this.2
  refine ⟨xs.take k ++ xs.drop (k + 1), n + 1, ?_⟩
  rw [List.take_append_of_le_length (by rw [List.length_map]; omega), List.drop_append_of_le_length (by rw [List.length_map]; omega), ← List.map_take, ← List.map_drop, List.map_append]
  have e : nones (n + 1) = nones n ++ [none] := by unfold nones; rw [List.replicate_succ']
  rw [e]
  simp
theorem take_len {hs : List (Option Int)} {k : Nat} {o : Option Int} (h : hs[k]? = some o) : (hs.take k ++ hs.drop (k + 1) ++ [none]).length = hs.length := by
  have hk : k < hs.length := by
    rcases Nat.lt_or_ge k hs.length with z | z
    · exact z
    · rw [List.getElem?_eq_none z] at h
      cases h
  rw [List.length_append, List.length_append, List.length_take, List.length_drop, List.length_singleton]
  omega
def spTake (K : PySem.W.Frag) : Sp := fun vs H Q _ => ∃ (M : List Addr) (wt L S : Addr) (ss : List St1) (i : Nat) (s : St1) (k : Nat) (v : Int), vs = [.ref wt, .int k] ∧ Gd K M H ∧ WtAt K M H wt L S ss i ∧ ss.length < 100000 ∧ ss[i]? = some s ∧ s.hs[k]? = some (some v) ∧
  ∀ H', FrW wt L H H' → Gd K M H' → WtAt K M H' wt L S (ss.take (i + 1) ++ [takeSt s k]) (i + 1) → Q (.int v) H'
/-- two neighbours exchanged -/
def swp {α : Type} (l : List α) (k : Nat) : List α := match l[k]?, l[k + 1]? with
  | some x, some y => (l.set k y).set (k + 1) x
  | _, _ => l
def swapSt (s : St1) (k : Nat) : St1 := ⟨"swap", swp s.rs k, s.hs, none⟩
def spSwap (K : PySem.W.Frag) : Sp := fun vs H Q _ => ∃ (M : List Addr) (wt L S : Addr) (ss : List St1) (i : Nat) (s : St1) (k : Nat) (x y : Rule), vs = [.ref wt, .int k] ∧ Gd K M H ∧ WtAt K M H wt L S ss i ∧ ss.length < 100000 ∧ ss[i]? = some s ∧ s.rs[k]? = some x ∧ s.rs[k + 1]? = some y ∧
  ∀ v H', FrW wt L H H' → Gd K M H' → WtAt K M H' wt L S (ss.take (i + 1) ++ [swapSt s k]) (i + 1) → Rp K (wo M H') (.tup [.str y.label, .str x.label]) v → Q v H'
end SC
set_option maxRecDepth 100000
set_option maxHeartbeats 2000000
/-! # Part Su: a def whose only captured name is __class__, and super().__init__(e) in it -/
namespace SC
open PySem PySem.Spec PyProof.Rows L2 TL NdefX
/-- statements read where they are the running def's own -/
structure PSsA (X : Cx) (whole body : List Stmt) (t : TS) : Prop where
  run : ∀ (pins : List (Addr × Obj)) (s : Shared) (σ : L2.St) (H : Hp) (D : Ends), Inv X pins σ H s → t D σ H → _root_.PySem.wpAt (model X.prog X.w) X.A (.func whole X.env) (execs body X.env) (SP X pins D) X.xe s
section
variable {CX : CXT} {P : Program} {w : World} {K : PySem.W.Frag} {mg : Str → Option Value} {base : Heap} {N ps : List Str} {name qual : Str} {params : Arguments} {body : List Stmt} {scope : Scope} {kV doc pm ct oc : Value} {an od : Option Addr} {osl : Array (Option Value)} {f c cc C : Addr} {k : Nat} {sp : Sp}
theorem fn_clo {ocell : Obj} (lk : K.lookup f = some ⟨oc, od, .func (PySem.W.fnX name qual params body scope [("__class__", cc)] .none kV doc pm an (.ref c) ct), osl⟩) (hcd : PySem.W.codeIn K (.ref c) qual = true) (S : NScope N ps ["__class__"] scope)
    (lc : K.lookup cc = some ocell) (hcell : ocell.data = .cell (some (.ref C))) (len : ∀ vs H Q E, sp vs H Q E → vs.length = ps.length)
    (hbody : ∀ (A : Around) (outer : List PySem.Env) (s : Shared) (H : Hp) (vs : List V) (Q : VK) (E : XK), Room k (A.deeper (envF ⟨name, qual, params, body, scope, [("__class__", cc)], c⟩ f s.heap.objs.size)) → sp vs H Q E →
      ∃ t, PSsA (ncx CX P w K mg base N ⟨name, qual, params, body, scope, [("__class__", cc)], c⟩ f A outer s H E) body body t ∧ t { nx := fun _ H' => Q .non H', rt := Q } (startF N vs [some (.ref C)]) H) :
    FnOk P w K mg base CX (k + 1) f (PySem.W.fnX name qual params body scope [("__class__", cc)] .none kV doc pm an (.ref c) ct) ps sp := by
  refine ⟨len, fun A outer s H args us vs Q E hr e0 hb r hsp => ?_⟩
  have hl := len _ _ _ _ hsp
  have KX : K.In s.heap := e0.mod.kin.keeps fun b o e => (e0.bs b o e).1
  have lim : s.heap.NoLimit := e0.mod.nolimit.keeps fun b o e => (e0.bs b o e).1
  have hcl := e0.bs cc ocell (e0.mod.kin _ _ lc)
  have one : ∀ y a, ([("__class__", cc)] : List (Str × Addr)).lookup y = some a → y = "__class__" ∧ a = cc := fun y a h => by
    simp only [List.lookup] at h
    split at h
    · rename_i z
      cases h
      exact ⟨by simpa using z, rfl⟩
    · cases h
  have CA : CellsAt ([("__class__", cc)] : List (Str × Addr)) ["__class__"] [some (.ref C)] s.heap H := by
    refine ⟨rfl, fun y a h => ?_, fun x y a h1 h2 => ?_, fun i y h => ?_⟩
    · obtain ⟨rfl, rfl⟩ := one y a h
      exact ⟨hcl.2, _, ocell, hcl.1, hcell⟩
    · rw [(one _ _ h1).1, (one _ _ h2).1]
    · match i, h with
      | 0, h =>
        cases h
        refine ⟨cc, by simp [List.lookup], fun v hv => ?_⟩
        cases hv
        exact ⟨_, rfl, ocell, hcl.1, hcell⟩
      | i + 1, h => simp at h
  refine ks_codeAny_call_defAt (fd := PySem.W.fnX name qual params body scope [("__class__", cc)] .none kV doc pm an (.ref c) ct) hr.depth (KX _ _ lk) rfl lim (PySem.W.codeRec_of KX hcd) rfl hb S.nocell (fun ⟨n, _⟩ hy => S.par n (List.of_mem_zip hy).1) (fun h₁ hns kp => ?_) S.co S.gen S.kind
  obtain ⟨t, ht, hq⟩ := hbody A outer s H vs Q E (hr.deeper _) hsp
  have I : Inv (ncx CX P w K mg base N ⟨name, qual, params, body, scope, [("__class__", cc)], c⟩ f A outer s H E) [] (startF N vs [some (.ref C)]) H { s with heap := h₁, toks := s.toks + (ps.zip us).length } := inv_startN S hr.hd e0 hl r CA hns kp
  refine ks_wpAt_mono (ht.run [] _ (startF N vs [some (.ref C)]) H _ I hq) (fun fl s' hs => ?_) fun e s' hs => hs
  have fin : ∀ {σ' : L2.St} {H' : Hp} {v : V} {u : Value}, Inv (ncx CX P w K mg base N ⟨name, qual, params, body, scope, [("__class__", cc)], c⟩ f A outer s H E) [] σ' H' s' → L2.RelV v u → Q v H' → CE outer P w H s Q u s' :=
    fun {σ' H' v u} J rv q => ⟨v, H', J.os, J.bare, J.base, J.hok, rv, q⟩
  cases fl with
  | ret u =>
    obtain ⟨v, σ', H', J, rv, q⟩ := hs
    exact fin J rv q
  | next =>
    obtain ⟨σ', H', J, q⟩ := hs
    exact fin (v := V.non) (u := Value.none) J rfl q
  | brk =>
    obtain ⟨_, _, _, q⟩ := hs
    exact False.elim q
  | cont =>
    obtain ⟨_, _, _, q⟩ := hs
    exact False.elim q
end
section
variable {X : Cx} {pins : List (Addr × Obj)} {σ : L2.St} {H : Hp} {s : Shared}
theorem ld_slot {A : Around} {E : Value → Shared → Prop} {Q : Value → Shared → Prop} {i : Nat} {x : Str} {v : V} (I : Inv X pins σ H s) (hN : X.N[i]? = some x) (hv : Vis X.env.scope x) (e : σ[i]? = some (some v)) (hcd : (x == ("__classdict__" : Str)) = false) (h : ∀ u, L2.RelV v u → Q u s) :
    wpAny (model X.prog X.w) A (loadName X.env x) Q E s := by
  obtain ⟨m, hn, hl⟩ := I.loc
  obtain ⟨u, r, l⟩ := hl i x v hN e hv
  rcases l with ⟨hk, hm⟩ | ⟨hk, c, hc, hcell⟩
  · exact wpAny_loadName_local I.ok.kind hk hn hm (h u r)
  · rcases hk with hk | hk
    · exact wpAny_loadName_cell I.ok.kind hk hc hcell (h u r)
    · exact wpAny_loadName_free I.ok.kind hk hc hcell (h u r) hcd
/-- the bound ValueError.__init__, called -/
theorem call_mw {A : Around} {E : Value → Shared → Prop} {Q : Value → Shared → Prop} {u a C : Addr} {us : List Value} (T : OexC X.K C) (I : Inv X pins σ H s) (e : H a = some (exo a C none)) (hu : s.heap.get? u = some (PySem.W.kxs_mw "ValueError.__init__" a)) (hl : us.length ≤ sizeLine) (h : ∀ s', Inv X pins σ H s' → Q .none s') :
    wpAny (model X.prog X.w) A (call (.ref u) us) Q E s := by
  obtain ⟨nm, q, N, bs, bm, sn, sub, ab, col, dd, k0, k1, k2, k3, k5, hC, hbm⟩ := T.cls
  obtain ⟨t1, ho⟩ := exo_at I.hok e
  have fin : ∀ h', (∀ b o, b ≠ a → s.heap.get? b = some o → h'.get? b = some o) → h'.get? a = some (PySem.HandSPX.excO C s.heap.objs.size) → Q .none { s with heap := h' } := fun h' k hx => by
    have J := I.write (t' := s.toks) (x := a) (e := a) (o := exo a C none) (by rw [e]; exact True.intro) (.inl rfl) k ⟨_, hx⟩ (exo_ok hx)
    have eu : upd H a (exo a C none) = H := by
      funext b
      by_cases hb : b = a
      · rw [hb, upd_same, e]
      · rw [upd_ne hb]
    rw [eu] at J
    exact h _ J
  obtain ⟨hh, g, d, tk, os⟩ := s
  refine wpAny_call (codeAny_of_tree ?_)
  show wpAny _ A.in1 (callAny (.ref u) ⟨us, []⟩) _ _ _
  simp only [callAny]
  refine wpAny_bind (wpAny_load hu ?_)
  simp only [PySem.W.kxs_mw, show (Value.type "method-wrapper" == Value.type "method" || Value.type "method-wrapper" == Value.type "builtin_function_or_method" || Value.type "method-wrapper" == Value.type "method-wrapper") = true by decide, if_true]
  refine PySem.W.KFB.if_so (by decide) ?_
  refine wpAny_bind (PySem.W.check_bound_init F.excBase_ValueError.toExcCallFacts (I.kIn _ _ hC) ho rfl ?_)
  refine wpAny_bind (wpAny_pure (wpAny_pure ?_))
  refine ⟨plainId_quiet F.excBase_ValueError.init.plain _, codeAny_builtin F.excBase_ValueError.initEntry ?_⟩
  exact PySem.W.exc_init_tree (cls := .ref C) (t0 := t1) (dv := none) (c2 := .none) (c3 := .none) (b4 := .bool false) ho hl (fun h' k e' _ => fin h' k e')
theorem boot_super : bootBuiltins "super" = some (.type "super") := by decide +kernel
/-- what super() in the def at f wants of what is written: the def, its code, the class C -/
structure SupC (P : Program) (K : PySem.W.Frag) (mg : Str → Option Value) (f cc C : Addr) (x0 : Str) : Prop where
  fn : ∃ (of : Obj) (fd : FuncData) (ar : Arg), K.lookup f = some of ∧ of.data = .func fd ∧ (fd.params.posonlyargs ++ fd.params.args).head? = some ar ∧ ar.arg = x0
  code : ∃ (oc : Obj) (vs : Array Value) (file : Str) (tf : Tok), K.lookup cc = some oc ∧ oc.data = .fields vs ∧ vs[2]? = some (.str file tf) ∧ ((P.main.file : Str) == file) = true
  top : (P.main.scope.names.lookup ("super" : Str)).isSome = false
  glo : mg "super" = none
  stat : PySem.W.nsIn K cStatics "thirdparty.any" = some none
  sup : PySem.W.ks_superIn K C C "__init__" = some (some (.builtin "ValueError.__init__"))
  ve : PySem.W.subIn K (.ref C) (.type "ValueError") = some true
  self : PySem.W.subIn K (.ref C) (.ref C) = some true
def tSup (K : PySem.W.Frag) (C : Addr) (j : Nat) (te : TE) (u : TS) : TS := fun D σ H => ∃ a : Addr, σ[0]? = some (some (.ref a)) ∧ σ[j]? = some (some (.ref C)) ∧ OexC K C ∧ H a = some (exo a C none) ∧ te σ H fun _ H1 => H1 a = some (exo a C none) ∧ u D σ H1
theorem pss_super {whole rest : List Stmt} {e : Expr} {te : TE} {u : TS} {p0 p1 p2 p3 p4 : Pos} {f cc C : Addr} {x0 : Str} {j : Nat} {pl : Sem Bool} (G : SupC X.prog X.K X.mg f cc C x0) (hks : X.env.kindOf "super" = some .globalImplicit) (hkc : X.env.kindOf "__class__" = some .free) (hfu : X.env.func = some f) (hco : X.env.code = .ref cc)
    (hN0 : X.N[0]? = some x0) (hv0 : Vis X.env.scope x0) (hx0 : (x0 == ("__classdict__" : Str)) = false) (hNj : X.N[j]? = some "__class__") (hvj : Vis X.env.scope "__class__") (he : PE X e te) (hr : PSs X rest u)
    (hev : eval (.Call (.Attribute (.Call (.Name "super" p0) [] [] p1) "__init__" p2) [e] [] p3) X.env = (do
      let ov ← attributeBase (.Call (.Name "super" p0) [] [] p1) "__init__" X.env (eval (.Call (.Name "super" p0) [] [] p1) X.env)
      standAt p2.atName
      let (f, first) ← holding [ov] (getMethod ov "__init__" pl)
      callWith p3 f first (backTo p3 (starEach [e] X.env)) []) := by rfl)
    (hi : interactive X.env = false := by rfl) (hs : swapsWith (.Call (.Attribute (.Call (.Name "super" p0) [] [] p1) "__init__" p2) [e] [] p3) none p4.line X.env = pure false := by rfl)
    (hst : starEach [e] X.env = (false, eval e X.env) :: starEach [] X.env := by rfl) :
    PSsA X whole (.Expr (.Call (.Attribute (.Call (.Name "super" p0) [] [] p1) "__init__" p2) [e] [] p3) p4 :: rest) (tSup X.K C j te u) := by
  refine ⟨fun pins s σ H D I h => ?_⟩
  obtain ⟨a, e0, e1, T, ea, h⟩ := h
  obtain ⟨of, fd, ar, lk, hfd, hp, rfl⟩ := G.fn
  obtain ⟨oc, vs, file, tf, lc, hoc, hvs, hfile⟩ := G.code
  obtain ⟨nm, q, N, bs, bm, sn, sub, ab, col, dd, k0, k1, k2, k3, k5, hC, hbm⟩ := T.cls
  obtain ⟨t1, ho⟩ := exo_at I.hok ea
  obtain ⟨mb, b1, b2⟩ := I.mod.blt
  refine ks_wpAt_execs_cons (ks_wpAt_Expr_any (ks_wpAt_MethodCall (ks_wpAt_super_base hks hkc (by decide) hfu (I.kIn _ _ lk) hfd hp hco (I.kIn _ _ lc) hoc hvs hfile G.top ?_) hev) hi hs)
  refine PySem.W.ks_loadName_global I.ok.kind hks (Calls.loadGlobal_builtin (by rw [I.ok.glob]; exact I.mod.glob.keeps I.bk) G.glo (by rw [I.ok.blt]; exact b1.keeps I.bk) ((b2 "super" (by decide)).trans boot_super) ⟨rfl, ?_⟩)
  refine ld_slot I hNj hvj e1 (by decide) fun uc rc => ?_
  obtain rfl : uc = Value.ref C := rc
  refine ld_slot I hN0 hv0 e0 hx0 fun ua ra => ?_
  obtain rfl : ua = Value.ref a := ra
  have KX := I.kIn
  have hCs := KX _ _ hC
  obtain ⟨hh, g, d, t, os⟩ := s
  refine ks_wpAny_isType_cls hCs rfl ⟨rfl, ?_⟩
  refine ks_wpAny_call_super hCs rfl ho rfl (fun c z => by cases z) (PySem.W.looks_subIn KX G.self) fun h' hso kp => ?_
  have I1 : Inv X pins σ H ⟨h', g, d, t, os⟩ := I.kept (t' := t) kp
  have K1 := I1.kIn
  have ho1 := kp _ _ ho
  have IA : PySem.W.InstAt h' a _ C none := ⟨ho1, rfl, rfl, trivial⟩
  have hsup := G.sup
  cases hc : PySem.W.clsIn X.K C with
  | none => unfold PySem.W.ks_superIn at hsup; rw [hc] at hsup; cases hsup
  | some cd =>
    unfold PySem.W.ks_superIn at hsup
    rw [hc] at hsup
    refine PySem.W.kxs_getMethod PySem.W.kxs_ValueError hso (PySem.W.looks_opaque K1 G.stat) (l₀ := cd.mro) (fun A Q E s k q => wpAny_bind ((PySem.W.looks_clsIn K1 hc) A _ E s k (wpAny_pure q))) rfl K1 hsup (IA.type.andThen (PySem.W.looks_subIn K1 G.ve)) (PySem.W.ks_ne K1 IA hc) (by decide) ?_
    have kp2 : ∀ b o, h'.get? b = some o → (h'.push (PySem.W.kxs_mw "ValueError.__init__" a)).get? b = some o := fun b o z => Heap.get?_push_of_some _ z
    have hu : (h'.push (PySem.W.kxs_mw "ValueError.__init__" a)).get? h'.objs.size = some (PySem.W.kxs_mw "ValueError.__init__" a) := Heap.get?_push_at rfl rfl
    have I2 : Inv X pins σ H ⟨h'.push (PySem.W.kxs_mw "ValueError.__init__" a), g, d, t + 1, os⟩ := I1.kept (t' := t + 1) kp2
    have fo := I1.fpOk (b := h'.objs.size) (Nat.le_refl _) (I1.hok.fresh (Nat.le_refl _))
    have I3 : Inv X ((h'.objs.size, PySem.W.kxs_mw "ValueError.__init__" a) :: pins) σ H ⟨h'.push (PySem.W.kxs_mw "ValueError.__init__" a), g, d, t + 1, os⟩ := I2.pins_of fun p hp => by
      rcases List.mem_cons.mp hp with rfl | hp
      · exact ⟨hu, fo.1, fo.2.1, fo.2.2.1, fun v z => by cases z⟩
      · exact I2.pin p (List.mem_append_right _ hp)
    show wpAny _ _ (callWith p3 (.ref h'.objs.size) [] (backTo p3 (starEach [e] X.env)) []) _ _ _
    rw [hst]
    refine PySem.W.kxs_callWith (i := "ValueError.__init__") (x := a) rfl (Calls.evalArgs_plain ?_)
    refine Calls.spliced_cons (thn (he.run _ _ σ H _ I3 h) fun v s1 ⟨y, H1, J, r1, ea1, q1⟩ => ?_)
    refine Calls.spliced_nil ?_
    have hu1 := (J.pin (h'.objs.size, PySem.W.kxs_mw "ValueError.__init__" a) (List.mem_append_right _ List.mem_cons_self)).1
    refine ⟨hu1, call_mw T J ea1 hu1 (by show 1 ≤ sizeLine; decide) fun s2 J2 => ?_⟩
    have J3 : Inv X pins σ H1 s2 := J2.pins_of fun p hp => J2.pin p (List.mem_append_right _ (List.mem_cons_of_mem _ hp))
    exact wpAt_of_wpAny (hr.run pins s2 σ H1 D J3 q1)
end
end SC
set_option maxRecDepth 100000
set_option maxHeartbeats 2000000
/-! # Part Sx: own errors with a field: what the head tells of them -/
namespace SC
open PySem PySem.Spec PyProof.Rows L2 TL NdefX
open He (ba eqO eqO_ok)
theorem oexB_ok {K : PySem.W.Frag} {C : Addr} (h : oexB K C = true) : OexC K C := by
  obtain ⟨q, h⟩ := ba h
  obtain ⟨h2, h⟩ := ba h
  obtain ⟨h3, h⟩ := ba h
  obtain ⟨h4, h5⟩ := ba h
  refine ⟨?_, eqO_ok h2, of_decide_eq_true h3, of_decide_eq_true h4, h5⟩
  split at q
  · rename_i dd cd sl ho
    split at q
    · rename_i C' bm k0 k1 k2 k3 n k5 hm hs
      simp only [Bool.and_eq_true, beq_iff_eq, Bool.not_eq_true'] at q
      obtain ⟨⟨⟨⟨rfl, rfl⟩, hdel⟩, hdt⟩, ht⟩ := q
      obtain ⟨nm, bs, mro, ns, qn, hd, sn, sub, ab, col, del⟩ := cd
      dsimp only at hm hdel hdt
      subst hm hdel hdt
      have hsl : sl = #[k0, k1, k2, k3, some (.builtin "ValueError.__new__"), k5] := by
        obtain ⟨l⟩ := sl
        simp only at hs
        rw [hs]
      subst hsl
      exact ⟨nm, qn, ns, bs, bm, sn, sub, ab, col, dd, k0, k1, k2, k3, k5, ho, ht⟩
    · cases q
  · cases q
section
variable {CX : CXT} {P : Program} {w : World} {K : PySem.W.Frag} {mg : Str → Option Value} {base : Heap} {N ps : List Str} {x qual file x0 : Str} {st : Stmt} {f C : Addr} {k : Nat} {sp : Sp} {fd : FuncData}
/-- THE RULE for an __init__ that says super() -/
theorem FunC.okS (F : FunC K x qual st f ["__class__"] fd) (hB : supB file x0 K f C = true) (hfile : ((P.main.file : Str) == file) = true) (htop : (P.main.scope.names.lookup ("super" : Str)).isSome = false) (hglo : mg "super" = none) (S : NScope N ps ["__class__"] (defScope st)) (len : ∀ vs H Q E, sp vs H Q E → vs.length = ps.length)
    (hbody : ∀ (c cc : Addr) (A : Around) (outer : List PySem.Env) (s : Shared) (H : Hp) (vs : List V) (Q : VK) (E : XK), SupC P K mg f c C x0 → Room k (A.deeper (envF ⟨x, qual, defArgs st, defBody st, defScope st, [("__class__", cc)], c⟩ f s.heap.objs.size)) → sp vs H Q E →
      ∃ t, PSsA (ncx CX P w K mg base N ⟨x, qual, defArgs st, defBody st, defScope st, [("__class__", cc)], c⟩ f A outer s H E) (defBody st) (defBody st) t ∧ t { nx := fun _ H' => Q .non H', rt := Q } (startF N vs [some (.ref C)]) H) :
    FnOk P w K mg base CX (k + 1) f fd ps sp := by
  obtain ⟨oc, od, cl, kV, doc, pm, an, cdv, ct, osl, rfl, hcl, lk, hcd⟩ := F.ex
  obtain ⟨b1, hB⟩ := ba hB
  obtain ⟨b2, hB⟩ := ba hB
  obtain ⟨b3, hB⟩ := ba hB
  obtain ⟨b4, hB⟩ := ba hB
  obtain ⟨b5, _⟩ := ba hB
  rw [lk] at b1
  obtain ⟨b6, b1⟩ := ba b1
  obtain ⟨b7, b8⟩ := ba b1
  match cl, hcl, lk, b8 with
  | [(y, cc)], hcl, lk, b8 =>
    obtain rfl : y = "__class__" := by simpa using hcl
    unfold cellB at b8
    dsimp only at b8
    cases q1 : K.lookup cc with
    | none => rw [q1] at b8; cases b8
    | some o2 =>
      rw [q1] at b8
      obtain ⟨z1, z2, z3, z4⟩ := o2
      cases z3 with
      | cell v =>
        match v, b8 with
        | some (.ref a), b8 =>
          obtain rfl : a = C := of_decide_eq_true b8
          unfold codeB at b7
          dsimp only at b7
          match cdv, hcd, lk, b7 with
          | .ref c, hcd, lk, b7 =>
            dsimp only at b7
            refine fn_clo lk hcd S q1 rfl len fun A outer s H vs Q E hr hsp => hbody c cc A outer s H vs Q E ?_ hr hsp
            cases q2 : K.lookup c with
            | none => rw [q2] at b7; cases b7
            | some o3 =>
              rw [q2] at b7
              dsimp only at b7
              split at b7
              · rename_i vs' e3
                split at b7
                · rename_i fl tf e4
                  refine ⟨?_, ⟨_, _, fl, tf, q2, e3, e4, ?_⟩, htop, hglo, eqO_ok b2, eqO_ok b3, of_decide_eq_true b4, of_decide_eq_true b5⟩
                  · dsimp only at b6
                    split at b6
                    · rename_i ar e5
                      exact ⟨_, _, ar, lk, rfl, e5, of_decide_eq_true b6⟩
                    · cases b6
                  · rw [beq_iff_eq] at hfile b7 ⊢
                    rw [hfile, b7]
                · cases b7
              · cases b7
      | _ => cases b8
  | [], hcl, _, _ => simp at hcl
  | _ :: _ :: _, hcl, _, _ => simp at hcl
theorem FunC.binds {fr : List Str} (F : FunC K x qual st f fr fd)
    (h : ∀ (cl : List (Str × Addr)) (kV doc pm : Value) (an : Option Addr) (cdv ct : Value) (us : List Value), us.length = ps.length → bindArgs (PySem.W.fnX x qual (defArgs st) (defBody st) (defScope st) cl .none kV doc pm an cdv ct) ⟨us, []⟩ = pure (ps.zip us)) : Binds K fd ps [] := by
  obtain ⟨oc, od, cl, kV, doc, pm, an, cdv, ct, osl, rfl, _, lk, hcd⟩ := F.ex
  exact .all (h cl kV doc pm an cdv ct)
end
/-- what an error's __init__ promises: its field laid -/
def spFInit (K : PySem.W.Frag) (C fld : Str) : Sp := fun vs H Q _ => ∃ (a : Addr) (i : Int), vs = [.ref a, .int i] ∧ numOk i ∧ H a = some (exo a (He.ga K C) none) ∧ ∀ dx, H dx = none → dx ≠ a → Q .non (upd (upd H dx (exd dx [(fld, .int i)])) a (exo a (He.ga K C) (some dx)))
theorem say_len {z : Str} {i : Int} (h : z.length ≤ 1000) (hi : numOk i) : (z ++ numS i).length ≤ sizeLine := by
  rw [len_tl, tl_append, List.length_append, ← len_tl, ← len_tl]
  have h1 := numS_len hi
  have h2 := line_big
  omega
/-- an own error with a field, as the head tells it -/
structure ErrF (K : PySem.W.Frag) (mg : Str → Option Value) (C fld : Str) : Prop where
  oex : OexC K (He.ga K C)
  fld : PySem.W.findIn K (.ref (He.ga K C)) fld = some none
  xf : XfC K (He.ga K C)
  init : PySem.W.findIn K (.ref (He.ga K C)) "__init__" = some (some (.ref (He.ma K (He.ga K C) "__init__")))
  fn : PySem.W.typeIn K (.ref (He.ma K (He.ga K C) "__init__")) = some (.type "function")
  glo : mg C = some (.ref (He.ga K C))
theorem errF_of {K : PySem.W.Frag} {mg : Str → Option Value} {C fld file x0 : Str} (h1 : oexB K (He.ga K C) = true) (h2 : supB file x0 K (He.ma K (He.ga K C) "__init__") (He.ga K C) = true) (h3 : xfB K (He.ga K C) = true) (h4 : PySem.W.findIn K (.ref (He.ga K C)) fld = some none) (h5 : mg C = some (.ref (He.ga K C))) : ErrF K mg C fld := by
  obtain ⟨_, h⟩ := ba h2
  obtain ⟨_, h⟩ := ba h
  obtain ⟨_, h⟩ := ba h
  obtain ⟨_, h⟩ := ba h
  obtain ⟨_, h⟩ := ba h
  obtain ⟨b1, b2⟩ := ba h
  exact ⟨oexB_ok h1, h4, xfB_ok h3, eqO_ok b1, of_decide_eq_true b2, h5⟩
/-- raise C(i) -/
theorem pmk_fld {X : Cx} {C fld : Str} {e : Expr} {te : TE} {p pos : Pos} {fd : FuncData} {k : Nat} {pn : Str} (T : ErrF X.K X.mg C fld) (F1 : FnOk X.prog X.w X.K X.mg X.base CX0 k (He.ma X.K (He.ga X.K C) "__init__") fd ["self", pn] (spFInit X.K C fld)) (hr : Room (k + 1) X.A) (hb : Binds X.K fd ["self", pn] []) (hg : Gl X C) (he : PE X e te)
    (hdb : (C == ("__debug__" : Str)) = false := by decide) (hst : starEach [e] X.env = (false, eval e X.env) :: starEach [] X.env := by rfl) :
    PMk X (.Call (.Name C p) [e] [] pos) (tMkO (He.ga X.K C) (spFInit X.K C fld) [] (tCons te tNil)) :=
  pmk_oex T.oex T.init T.fn F1 hr hb .nil pass0 hg T.glo (pa_cons he pa_nil hst) hdb hst
end SC
set_option maxRecDepth 100000
set_option maxHeartbeats 2000000
/-! # Part Sy: isinstance of a caught error, with a dict or without -/
namespace SC
open PySem PySem.Spec PyProof.Rows L2 TL
/-- the caught error's dict, where it has one, is known -/
def DictAt (H : Hp) (d : Option Addr) : Prop := d = none ∨ ∃ (dd : Addr) (fs : List (Str × V)), d = some dd ∧ H dd = some (.xd fs)
def rIsEQ (K : PySem.W.Frag) (a : Addr) (cls : Value) (d : Option Addr) : List V → Hp → VK → Prop := fun xs H Q => ∃ (D : Addr) (c : V) (cv : Value) (b : Bool), cls = .ref D ∧ DictAt H d ∧ ExcC K D ∧ xs = [.ref a, c] ∧ (∀ u, RelV c u → u = cv) ∧ PySem.W.kitOne K (.ref D) cv = some b ∧ Q (.bl b) H
theorem call_isEQ {X : Cx} {a : Addr} {oe : Obj} {cls : Value} {d : Option Addr} {pn : List (Addr × Obj)} (hz : Zc cls d oe) (hf : ∃ vs, oe.data = .fields vs) : CallR (X.suite a ((a, oe) :: pn)) (.builtin "isinstance") (rIsEQ X.K a cls d) := by
  intro pins s σ H xs us Q I r h
  obtain ⟨D, c, cv, b, ec, hd, C, ex, hcv, e, q⟩ := h
  subst ec ex
  obtain ⟨uy, r⟩ : ∃ uy, us = [.ref a, uy] ∧ RelV c uy := by
    cases r with
    | cons rx rr =>
      cases rr with
      | cons rt rr =>
        cases rr
        cases rx
        exact ⟨_, rfl, rt⟩
  obtain ⟨rfl, rt⟩ := r
  have ey := hcv _ rt
  subst ey
  have hget := (I.pin (a, oe) (List.mem_append_left _ List.mem_cons_self)).1
  obtain ⟨vs, hv⟩ := hf
  have no : PySem.W.notCls oe = true := by unfold PySem.W.notCls; rw [hv] <;> rfl
  have hcl : (PySem.W.clsIn X.K D).isSome = true := by
    obtain ⟨cd, hc, _⟩ := PySem.W.any_some C.hd
    rw [hc]
    rfl
  have J : ∃ od, PySem.W.InstAt s.heap a oe D od := by
    rcases hd with rfl | ⟨dd, fs, rfl, ea⟩
    · exact ⟨none, hget, hz.1, no, by rw [hz.2]; trivial⟩
    · have hx : ObjOk X.prog X.w H s.heap dd (.xd fs) := I.hok dd _ ea
      obtain ⟨mA, hns, _⟩ := hx
      obtain ⟨od, ho, _⟩ := lookIn_ns hns
      exact ⟨some od, hget, hz.1, no, by rw [hz.2]; exact ho⟩
  obtain ⟨od, J⟩ := J
  exact PySem.W.kia_one (PySem.W.kitx_exc (od := od) hcl C.hg C.hk C.hs C.ha C.hn C.ht C.hm) I.kIn J e (fun z => nomatch z) fun tk => ⟨.bl b, H, I.kept (t' := tk) fun _ _ z => z, rfl, q⟩
theorem DictAt.same {H H' : Hp} {d : Option Addr} (h : DictAt H d) (s : Same H H') : DictAt H' d := by
  rcases h with rfl | ⟨dd, fs, rfl, e⟩
  · exact .inl rfl
  · exact .inr ⟨dd, fs, rfl, s _ _ e⟩
def Er.fld : Er → Str
  | .text => "word"
  | .operation => "place"
  | _ => "index"
/-- e.f, whatever the caught error's class -/
def tXfQ (K : PySem.W.Frag) (a : Addr) (cls : Value) (d : Option Addr) (n : Str) (te : TE) : TE := fun σ H Q => ∃ C : Addr, XfC K C ∧ PySem.W.findIn K (.ref C) n = some none ∧ tXf a cls d C n te σ H Q
theorem pe_xfQ {X : Cx} {a : Addr} {oe : Obj} {cls : Value} {d : Option Addr} {pn : List (Addr × Obj)} {e : Expr} {te : TE} {pos : Pos} {n : Str} (hz : Zc cls d oe) (hf : ∃ vs, oe.data = .fields vs) (he : PE (X.suite a ((a, oe) :: pn)) e te) (hb : attributeBase e n X.env (eval e X.env) = eval e X.env := by rfl) :
    PE (X.suite a ((a, oe) :: pn)) (.Attribute e n pos) (tXfQ X.K a cls d n te) := ⟨fun pins s σ H Q I h => by
  obtain ⟨C, T, hno, h⟩ := h
  exact (pe_xf T hno hz hf he hb).run pins s σ H Q I h⟩
/-- what _law_error_of makes of a call: its error's word and its field, 0 where it has none -/
def TErrQ (K : PySem.W.Frag) (S : List Er) : (XK → Hp → VK → Prop) → Hp → VK → Prop := fun tl H Q =>
  tl (fun cls d H' => ∃ (e : Er) (v : V), e ∈ S ∧ cls = .ref (He.ga K e.cn) ∧ (e.bare = true → d = none ∧ v = .int 0) ∧ (e.bare = false → ∃ dd, d = some dd ∧ H' dd = some (.xd [(e.fld, v)])) ∧
    ∀ (p : Addr) (H'' : Hp), H' p = none → Same H' H'' → H'' p = some (.tup [.str e.word, v]) → Q (.ref p) H'') H (fun _ H' => Q .non H')
structure ErrX (K : PySem.W.Frag) (e : Er) : Prop where
  t : ErrT K e
  xf : e.bare = false → XfC K (He.ga K e.cn) ∧ PySem.W.findIn K (.ref (He.ga K e.cn)) e.fld = some none
theorem er_key (e : Er) : (inV (V.str e.word) [V.str "chain", V.str "row"] = true ∧ e.bare = false ∧ e.fld = "index") ∨ (inV (V.str e.word) [V.str "chain", V.str "row"] = false ∧ V.str e.word = V.str "text" ∧ e.bare = false ∧ e.fld = "word") ∨
    (inV (V.str e.word) [V.str "chain", V.str "row"] = false ∧ ¬ V.str e.word = V.str "text" ∧ V.str e.word = V.str "operation" ∧ e.bare = false ∧ e.fld = "place") ∨ (inV (V.str e.word) [V.str "chain", V.str "row"] = false ∧ ¬ V.str e.word = V.str "text" ∧ ¬ V.str e.word = V.str "operation" ∧ e.bare = true) := by
  cases e <;> decide +kernel
/-- C(i), made to be raised: its dict alone is new -/
theorem mkO_raise {K : PySem.W.Frag} {C fld : Str} {H : Hp} {Q : XK} {i : Int} (hi : numOk i) (k : ∀ (dd : Addr) (H' : Hp), H dd = none → Same H H' → H' dd = some (.xd [(fld, .int i)]) → Q (.ref (He.ga K C)) (some dd) H') :
    ([V.int i] : List V).length ≤ 1000 ∧ ∀ a, H a = none → spFInit K C fld (.ref a :: ([V.int i] ++ [])) (upd H a (exo a (He.ga K C) none))
      (fun v H2 => v = .non ∧ ∃ (d : Addr) (fs : List (Str × V)), H2 a = some (exo a (He.ga K C) (some d)) ∧ H2 d = some (exd d fs) ∧ H d = none ∧ Q (.ref (He.ga K C)) (some d) (upd (del H2 a) d (.xd fs))) (fun _ _ _ => False) := by
  refine ⟨by show 1 ≤ 1000; decide, fun a ha => ⟨a, i, rfl, hi, upd_same, fun dx h1 h2 => ⟨rfl, dx, _, upd_same, by rw [upd_ne h2, upd_same], ?_, k dx _ ?_ ?_ upd_same⟩⟩⟩
  · rw [upd_ne h2] at h1
    exact h1
  · rw [upd_ne h2] at h1
    exact h1
  · intro b o hb
    have n1 : b ≠ a := ne_of_none hb ha
    have n2 : b ≠ dx := fun z => by
      rw [upd_ne h2] at h1
      rw [z, h1] at hb
      cases hb
    rw [upd_ne n2, del_ne n1, upd_ne n1, upd_ne n2, upd_ne n1]
    exact hb
end SC
set_option maxRecDepth 100000
set_option maxHeartbeats 2000000
/-! # Part Lm: errors told by _law_error_of(lambda: ..), over data -/
namespace SC
open PySem PySem.Spec PyProof.Rows L2 TL
section
variable {K : PySem.W.Frag} {M : List Addr} {σ : L2.St} {H H' H1 : Hp} {ρ : List Sl}
theorem CellAt.ext {a : Addr} {r : Rule} (c : CellAt K H a r) (e : LamX.ExtN H H') : CellAt K H' a r := by
  obtain ⟨h1, dx, h2⟩ := c
  exact ⟨h1, dx, e _ _ h2 (fun _ z => by cases z)⟩
theorem ChainAt.ext {a : Addr} {rs : List Rule} (c : ChainAt K H a rs) (e : LamX.ExtN H H') : ChainAt K H' a rs := by
  obtain ⟨dx, t, as, h1, h2, h3, h4⟩ := c
  exact ⟨dx, t, as, e _ _ h1 (fun _ z => by cases z), e _ _ h2 (fun _ z => by cases z), ⟨h3.1, fun i b r e1 e2 => (h3.2 i b r e1 e2).ext e⟩, h4⟩
mutual
theorem Rp.ext (s : LamX.ExtN H H') : ∀ (d : D) {v : V}, Rp K H d v → Rp K H' d v
  | .non, _, h => h
  | .bl _, _, h => h
  | .int _, _, h => h
  | .str _, _, h => h
  | .lst l, _, h => by
    obtain ⟨a, vs, h1, h2, h3⟩ := h
    exact ⟨a, vs, h1, s _ _ h2 (fun _ z => by cases z), RpL.ext s l h3⟩
  | .tup l, _, h => by
    obtain ⟨a, vs, h1, h2, h3⟩ := h
    exact ⟨a, vs, h1, s _ _ h2 (fun _ z => by cases z), RpL.ext s l h3⟩
  | .chain rs, _, h => by
    obtain ⟨a, h1, h2⟩ := h
    exact ⟨a, h1, h2.ext s⟩
  | .cell r, _, h => by
    obtain ⟨a, h1, h2⟩ := h
    exact ⟨a, h1, h2.ext s⟩
  | .dic l, _, h => by
    obtain ⟨a, o, h1, h2⟩ := h
    exact ⟨a, o, h1, s _ _ h2 (fun _ z => by cases z)⟩
  | .ktup l, _, h => by
    obtain ⟨a, o, vs, h1, h2, h3, h4⟩ := h
    exact ⟨a, o, vs, h1, s _ _ h2 (fun _ z => by cases z), h3, RpL.ext s l h4⟩
theorem RpL.ext (s : LamX.ExtN H H') : ∀ (l : List D) {vs : List V}, RpL K H l vs → RpL K H' l vs
  | [], _, h => h
  | d :: ds, _, h => by
    obtain ⟨v, vs', h1, h2, h3⟩ := h
    exact ⟨v, vs', h1, Rp.ext s d h2, RpL.ext s ds h3⟩
end
theorem wo_ext (e : LamX.ExtN H H') : LamX.ExtN (wo M H) (wo M H') := fun b o h n => by
  obtain ⟨e1, e2⟩ := wo_some h
  rw [wo_at e1]
  exact e _ _ e2 n
theorem SlOk.ext {s : Sl} {o : Option V} (h : SlOk K M H s o) (e : LamX.ExtN H H') : SlOk K M H' s o := by
  cases s with
  | any => trivial
  | dat d =>
    obtain ⟨v, h1, h2⟩ := h
    exact ⟨v, h1, Rp.ext (wo_ext e) d h2⟩
  | val v => exact h
theorem Env.ext (E : Env K M σ H ρ) (e : LamX.ExtN H H') : Env K M σ H' ρ := ⟨E.1, fun i s o h1 h2 => (E.2 i s o h1 h2).ext e⟩
theorem ExtN.same (s : Same H H') : LamX.ExtN H H' := fun b o h _ => s b o h
theorem Src.ext {d : Addr} (h : Src d H) (e : LamX.ExtN H H') : Src d H' := by
  obtain ⟨ds, h1, h2⟩ := h
  exact ⟨ds, h1, e _ _ h2 (fun _ z => by cases z)⟩
theorem Src.gd {d : Addr} (h : Src d H) : Gd K [d] H := by
  obtain ⟨ds, h1, h2⟩ := h
  exact Gd.nil.lst h2
theorem Gd.ext (g : Gd K M H) (e : LamX.ExtN H H') (hn : ∀ m ∈ M, ∀ ps, H m ≠ some (.tbl ps)) : Gd K M H' := fun m hm => by
  obtain ⟨o, h1, h2⟩ := g m hm
  exact ⟨o, e _ _ h1 (fun ps z => hn m hm ps (by rw [h1, z])), h2⟩
theorem Src.fr1 {T : List (Addr × Str)} {d : Addr} (s : Src d H) (t : LamX.Tabs T H) (f : Fr1 d H H') : LamX.Tabs T H' := by
  obtain ⟨ds, h1, h2⟩ := s
  exact tabs_fr t h2 f
theorem Env.nil (E : Env K M σ H ρ) : Env K [] σ H ρ := E.le (wo_sub fun x hx => by cases hx)
/-- the error e, with the field i where it has one, is in the air -/
def Rs (K : PySem.W.Frag) (e : Er) (i : Int) (H : Hp) (E : XK) : Prop :=
  (e.bare = true → ∀ H', Same H H' → E (.ref (He.ga K e.cn)) none H') ∧ (e.bare = false → ∀ (dd : Addr) (H' : Hp), H dd = none → Same H H' → H' dd = some (.xd [(e.fld, .int i)]) → E (.ref (He.ga K e.cn)) (some dd) H')
theorem Rs.same {e : Er} {i : Int} {E : XK} (h : Rs K e i H E) (s : Same H H') : Rs K e i H' E :=
  ⟨fun b H2 s2 => h.1 b H2 (s.trans s2), fun b dd H2 h1 s2 h3 => h.2 b dd H2 (s.free h1) (s.trans s2) h3⟩
def Raises (K : PySem.W.Frag) (t : XK → TE) (σ : L2.St) (H : Hp) (e : Er) (i : Int) : Prop := ∀ (E : XK) (Q : VK), Rs K e i H E → t E σ H Q
theorem er_ok {e : Er} {i : Int} : Ok 1 (.tup [.str e.word, .int i]) := .tup fun x hx => by
  rcases List.mem_cons.mp hx with rfl | hx
  · exact .str (by cases e <;> decide +kernel)
  · rw [List.mem_singleton.mp hx]
    exact .int
/-- if _law_error_of(lambda: ..) != (word, i): return False -/
theorem use_err {T : List (Addr × Str)} {t : XK → TE} {tb : TE} {S : List Er} {e : Er} {i : Int} {w : TS} {D : Ends} (hE : e ∈ S) (he0 : e.bare = true → i = 0) (hT : LamX.Tabs T H)
    (hR : ∀ H1, LamX.ExtN H H1 → LamX.Tabs T H1 → Raises K t σ H1 e i) (hb : ∀ H1, LamX.ExtN H H1 → Rd K [] tb σ H1 (.tup [.str e.word, .int i])) (k : ∀ H2, LamX.ExtN H H2 → LamX.Tabs T H2 → D.nx σ H2) :
    tIfS (tTest (tOp (rNeD K) (LamX.tLam T (TErrQ K S) t) tb)) w tNext D σ H := by
  have fin : ∀ (H3 : Hp) (p : Addr), LamX.ExtN H H3 → LamX.Tabs T H3 → H3 p = some (.tup [.str e.word, .int i]) → tb σ H3 fun y H4 => rNeD K (.ref p) y H4 fun v H5 => ∃ b, v = .bl b ∧ (if b = true then w D σ H5 else tNext D σ H5) := fun H3 p e3 T3 h3 =>
    hb H3 e3 H3 (Same.refl _) Gd.nil _ fun y H4 s4 g4 ry => by
      have rx : Rp K H4 (.tup [.str e.word, .int i]) (.ref p) := ⟨p, _, rfl, s4 _ _ h3, _, _, rfl, rfl, _, _, rfl, rfl, rfl⟩
      refine ⟨toPy (.tup [.str e.word, .int i]), toPy (.tup [.str e.word, .int i]), Ok.dp (fun _ => rfl) _ er_ok rx, Ok.dp (fun _ => rfl) _ er_ok ry.here, er_ok.shaped (by decide), er_ok.shaped (by decide), ?_⟩
      have z : PyData.eqv (toPy (.tup [.str e.word, .int i])) (toPy (.tup [.str e.word, .int i])) = true := eqD_self (x := .tup [.str e.word, .int i]) er_ok (by decide)
      rw [z]
      exact ⟨false, rfl, iteF (k H4 (e3.trans (ExtN.same s4)) (T3.ext s4))⟩
  refine ⟨hT, fun H1 e1 T1 => ?_⟩
  refine hR H1 e1 T1 _ _ ⟨fun hb0 H2 s2 => ?_, fun hb1 dd H2 hdd s2 hd2 => ?_⟩
  · obtain rfl := he0 hb0
    exact ⟨e, .int 0, hE, rfl, fun _ => ⟨rfl, rfl⟩, (fun z => by rw [hb0] at z; cases z), fun p H3 hp s3 h3 => fin H3 p (e1.trans (ExtN.same (s2.trans s3))) (T1.ext (s2.trans s3)) h3⟩
  · exact ⟨e, .int i, hE, rfl, (fun z => by rw [hb1] at z; cases z), fun _ => ⟨dd, rfl, hd2⟩, fun p H3 hp s3 h3 => fin H3 p (e1.trans (ExtN.same (s2.trans s3))) (T1.ext (s2.trans s3)) h3⟩
/-- values that are no numbers -/
def D.odd : D → Prop
  | .int i => ¬ numOk i
  | .chain _ => False
  | .cell _ => False
  | .dic _ => False
  | .ktup _ => False
  | _ => True
theorem odd_val {d : D} {v : V} (h : d.odd) (r : Rp K H d v) : (∃ m, v = .int m ∧ ¬ numOk m) ∨ ∃ T : String, T ∈ oddT ∧ ∀ H', Same H H' → TyX K H' v (.type T) := by
  cases d with
  | non => cases r; exact .inr ⟨"NoneType", by decide, fun _ _ => .base .non⟩
  | bl b => cases r; exact .inr ⟨"bool", by decide, fun _ _ => .base (.bl _)⟩
  | int i => exact .inl ⟨i, r, h⟩
  | str s => cases r; exact .inr ⟨"str", by decide, fun _ _ => .base (.str _)⟩
  | lst l =>
    obtain ⟨a, vs, rfl, e, _⟩ := r
    exact .inr ⟨"list", by decide, fun _ s => .base (.lst (s _ _ e))⟩
  | tup l =>
    obtain ⟨a, vs, rfl, e, _⟩ := r
    exact .inr ⟨"tuple", by decide, fun _ s => .base (.tup (s _ _ e))⟩
  | chain rs => exact h.elim
  | cell r => exact h.elim
  | dic l => exact h.elim
  | ktup l => exact h.elim
/-- values that are no lists -/
def D.noList : D → Prop
  | .lst _ => False
  | .chain _ => False
  | .cell _ => False
  | .dic _ => False
  | .ktup _ => False
  | _ => True
theorem noList_val {d : D} {v : V} (h : d.noList) (r : Rp K H d v) : ∃ T : String, TyX K H v (.type T) ∧ PySem.W.kitOne K (.type T) (.type "list") = some false := by
  cases d with
  | non => cases r; exact ⟨"NoneType", .base .non, kit_ty (by decide +kernel)⟩
  | bl b => cases r; exact ⟨"bool", .base (.bl _), kit_ty (by decide +kernel)⟩
  | int i => cases r; exact ⟨"int", .base (.int _), kit_ty (by decide +kernel)⟩
  | str s => cases r; exact ⟨"str", .base (.str _), kit_ty (by decide +kernel)⟩
  | lst l => exact h.elim
  | tup l =>
    obtain ⟨a, vs, rfl, e, _⟩ := r
    exact ⟨"tuple", .base (.tup e), kit_ty (by decide +kernel)⟩
  | chain rs => exact h.elim
  | cell r => exact h.elim
  | dic l => exact h.elim
  | ktup l => exact h.elim
/-- xs[i] of a list that is there -/
theorem ix_pick {l : List D} {i : Nat} {x : V} {d : D} {Q : VK} (r : Rp K (wo M H) (.lst l) x) (hi : l[i]? = some d) (k : ∀ v, Rp K (wo M H) d v → Q v H) : rIxL K x (.int i) H Q := by
  obtain ⟨a, vs, rfl, e1, r1⟩ := r
  obtain ⟨v, ev, rv⟩ := r1.get hi
  exact ⟨a, vs, i, v, rfl, rfl, SqL.of (wo_le _ _ e1), atI_nat ev, k v rv⟩
theorem rd_ret {D : Ends} {t : TE} {d : SC.D} (h : Rd K [] t σ H d) (k : ∀ v H2, Same H H2 → Rp K H2 d v → D.rt v H2) : tRet t D σ H := h H (Same.refl _) Gd.nil _ fun v H2 s _ r => k v H2 s r.here
end
/-! ### a law's state: slots, what may change, and what else stands -/
structure Dw (J : Hp → Prop) (dd : Addr) (M : List Addr) : Prop where
  same : ∀ {H H' : Hp}, J H → Same H H' → J H'
  src : ∀ {H : Hp}, J H → Src dd H
  fr : ∀ {H H' : Hp}, J H → Fr1 dd H H' → Src dd H' → J H'
  mem : dd ∈ M
def JS (dd : Addr) (T : List (Addr × Str)) : Hp → Prop := fun H => Src dd H ∧ LamX.Tabs T H
theorem dw_js {dd : Addr} {T : List (Addr × Str)} : Dw (JS dd T) dd [dd] :=
  ⟨fun j s => ⟨j.1.same s, j.2.ext s⟩, fun j => j.1, fun j f s => ⟨s, j.1.fr1 j.2 f⟩, List.mem_cons_self⟩
structure Sn (K : PySem.W.Frag) (M : List Addr) (J : Hp → Prop) (σ : L2.St) (H : Hp) (ρ : List Sl) : Prop where
  e : Env K M σ H ρ
  g : Gd K M H
  j : J H
section
variable {K : PySem.W.Frag} {M : List Addr} {J : Hp → Prop} {dd : Addr} {σ : L2.St} {H H' H1 : Hp} {ρ : List Sl}
theorem Sn.same (S : Sn K M J σ H ρ) (w : Dw J dd M) (s : Same H H') : Sn K M J σ H' ρ := ⟨S.e.same s, S.g.same s, w.same S.j s⟩
theorem Sn.rd (S : Sn K M J σ H ρ) {i : Nat} {d : D} (h : ρ[i]? = some (.dat d)) : Rd K M (tVar i) σ H d := S.e.rd h
theorem Sn.fgt {ρ' : List Sl} (S : Sn K M J σ H ρ) (f : Fgt ρ ρ') : Sn K M J σ H ρ' := ⟨S.e.fgt f, S.g, S.j⟩
theorem sn_put {i : Nat} {v : V} {d : D} {N : L2.St → Hp → Prop} (S : Sn K M J σ H ρ) (r : Rp K (wo M H) d v) (k : ∀ σ', Sn K M J σ' H (ρ.set i (.dat d)) → N σ' H) : gName i v σ H N := k _ ⟨S.e.set r, S.g, S.j⟩
theorem sn_putv {i : Nat} {v : V} {N : L2.St → Hp → Prop} (S : Sn K M J σ H ρ) (k : ∀ σ', Sn K M J σ' H (ρ.set i (.val v)) → N σ' H) : gName i v σ H N := k _ ⟨S.e.setv, S.g, S.j⟩
/-- x = e -/
theorem sn_set {X : Cx} {st : Stmt} {b : List Stmt} {t : TE} {i : Nat} {d : D} {D : Ends} (hps : PS X st (tAsg t (gName i))) (S : Sn K M J σ H ρ) (w : Dw J dd M) (h : Rd K M t σ H d) (k : ∀ σ' H', Same H H' → Sn K M J σ' H' (ρ.set i (.dat d)) → wpS X b D σ' H') : wpS X (st :: b) D σ H :=
  wp_cons hps (use_set h S.g fun v H2 s g r => k _ H2 s ⟨(S.e.same s).set r, g, w.same S.j s⟩)
theorem sn_tup2 {X : Cx} {st : Stmt} {b : List Stmt} {t : TE} {i j : Nat} {x y : D} {D : Ends} (hps : PS X st (tAsg t (gTup K 2 (gCons (gName i) (gCons (gName j) gNil))))) (S : Sn K M J σ H ρ) (w : Dw J dd M) (h : Rd K M t σ H (.tup [x, y])) (k : ∀ σ' H', Same H H' → Sn K M J σ' H' ((ρ.set i (.dat x)).set j (.dat y)) → wpS X b D σ' H') : wpS X (st :: b) D σ H :=
  wp_cons hps (use_tup2 h S.g fun v u H2 s g r1 r2 => k _ H2 s ⟨((S.e.same s).set r1).set r2, g, w.same S.j s⟩)
theorem sn_tup3 {X : Cx} {st : Stmt} {b : List Stmt} {t : TE} {i j l : Nat} {x y z : D} {D : Ends} (hps : PS X st (tAsg t (gTup K 3 (gCons (gName i) (gCons (gName j) (gCons (gName l) gNil)))))) (S : Sn K M J σ H ρ) (w : Dw J dd M) (h : Rd K M t σ H (.tup [x, y, z])) (k : ∀ σ' H', Same H H' → Sn K M J σ' H' (((ρ.set i (.dat x)).set j (.dat y)).set l (.dat z)) → wpS X b D σ' H') : wpS X (st :: b) D σ H :=
  wp_cons hps (use_tup3 h S.g fun v u q H2 s g r1 r2 r3 => k _ H2 s ⟨(((S.e.same s).set r1).set r2).set r3, g, w.same S.j s⟩)
theorem sn_par {X : Cx} {st : Stmt} {b : List Stmt} {u : TA} {i j : Nat} {x y : D} {D : Ends} (hps : PS X st (tPar i j u)) (S : Sn K M J σ H ρ) (w : Dw J dd M) (h : RdA K M u σ H [x, y]) (k : ∀ σ' H', Same H H' → Sn K M J σ' H' ((ρ.set i (.dat x)).set j (.dat y)) → wpS X b D σ' H') : wpS X (st :: b) D σ H :=
  wp_cons hps (use_par h S.g fun v u H2 s g r1 r2 => k _ H2 s ⟨((S.e.same s).set r1).set r2, g, w.same S.j s⟩)
/-- if test: return False, where the test is false -/
theorem sn_if0 {X : Cx} {st : Stmt} {b : List Stmt} {tt : TT} {u : TS} {D : Ends} (hps : PS X st (tIfS tt u tNext)) (S : Sn K M J σ H ρ) (w : Dw J dd M) (h : RdT K M tt σ H false) (k : ∀ H', Same H H' → Sn K M J σ H' ρ → wpS X b D σ H') : wpS X (st :: b) D σ H :=
  wp_cons hps (use_if0 h S.g fun H2 s g => k H2 s ⟨S.e.same s, g, w.same S.j s⟩)
/-- if _law_error_of(lambda: ..) != (word, i): return False -/
theorem sn_err {X : Cx} {st : Stmt} {b : List Stmt} {T : List (Addr × Str)} {t : XK → TE} {tb : TE} {Se : List Er} {e : Er} {i : Int} {u : TS} {D : Ends} (hps : PS X st (tIfS (tTest (tOp (rNeD K) (LamX.tLam T (TErrQ K Se) t) tb)) u tNext)) (S : Sn K M J σ H ρ) (hE : e ∈ Se) (he0 : e.bare = true → i = 0) (hT : LamX.Tabs T H)
    (hS : ∀ H1, LamX.ExtN H H1 → LamX.Tabs T H1 → Gd K M H1 ∧ J H1)
    (hR : ∀ H1, Sn K M J σ H1 ρ → Raises K t σ H1 e i) (hb : ∀ H1, Env K [] σ H1 ρ → Rd K [] tb σ H1 (.tup [.str e.word, .int i])) (k : ∀ H2, Sn K M J σ H2 ρ → wpS X b D σ H2) : wpS X (st :: b) D σ H :=
  wp_cons hps (use_err hE he0 hT (fun H1 e1 T1 => hR H1 ⟨S.e.ext e1, (hS H1 e1 T1).1, (hS H1 e1 T1).2⟩) (fun H1 e1 => hb H1 (S.e.ext e1).nil) fun H2 e2 T2 => k H2 ⟨S.e.ext e2, (hS H2 e2 T2).1, (hS H2 e2 T2).2⟩)
/-! draws -/
theorem Gd.fr1 {xs : List V} (g : Gd K M H) (f : Fr1 dd H H') (h : H' dd = some (.lst xs)) : Gd K M H' := fun m hm => by
  by_cases e : m = dd
  · rw [e]
    exact ⟨_, h, trivial⟩
  · obtain ⟨o, h1, h2⟩ := g m hm
    exact ⟨o, f _ _ h1 e, h2⟩
theorem draw {lim : Int} {Q : VK} (w : Dw J dd M) (g : Gd K M H) (j : J H) (h0 : 0 < lim) (h1 : lim < 18446744073709551616) (k : ∀ (i : Nat) (H' : Hp), (i : Int) < lim → Fm M H H' → Gd K M H' → J H' → Q (.int i) H') : spBelow [.ref dd, .int lim] H Q E0 := by
  obtain ⟨ds, hD, hd⟩ := w.src j
  refine ⟨dd, lim, ds, rfl, h0, h1, hd, hD, fun i ds' a b c => ?_⟩
  obtain ⟨n, rfl⟩ := Int.eq_ofNat_of_zero_le a
  exact k n _ b (Fm.at w.mem) (g.at trivial) (w.fr j Fr1.at ⟨ds', c, upd_same⟩)
theorem dr_labels {i : Nat} {m : Int} {Q : VK} (w : Dw J dd M) (S : Sn K M J σ H ρ) (hi : ρ[i]? = some (.val (.ref dd))) (h0 : 0 < m) (h8 : m ≤ 8)
    (k : ∀ (rs : List Rule) (v : V) (H' : Hp), 1 ≤ rs.length → (rs.length : Int) ≤ m → (∀ r ∈ rs, r.ok) → Fm M H H' → Sn K M J σ H' ρ → Rp K (wo M H') (.lst (lbD rs)) v → Q v H') : tCall spLabels [] E0 (tCons (tVar i) (tCons (tC (.int m)) tNil)) σ H Q := by
  obtain ⟨ds, hD, hd⟩ := w.src S.j
  refine ⟨_, S.e.val hi, dd, m, ds, rfl, h0, h8, hd, hD, fun p H1 rs ds' hp f hD' hd' el l1 lm ok => ?_⟩
  exact k rs _ H1 l1 lm ok (Fm.of1 w.mem f) ⟨S.e.fm (Fm.of1 w.mem f), S.g.fr1 f hd', w.fr S.j f ⟨ds', hD', hd'⟩⟩ (rp_new (S.g.out hp) el (rp_lbs.mpr rfl))
theorem dr_row {i : Nat} {m : Int} {Q : VK} {tl : TE} (w : Dw J dd M) (S : Sn K M J σ H ρ) (hi : ρ[i]? = some (.val (.ref dd))) (h0 : 0 ≤ m) (h8 : m ≤ 10000) (hl : ∀ Q : VK, (∀ H1, Fm M H H1 → Sn K M J σ H1 ρ → Q (.int m) H1) → tl σ H Q)
    (k : ∀ (ns : List Int) (v : V) (H' : Hp), (ns.length : Int) ≤ m → (∀ z ∈ ns, numOk z) → Fm M H H' → Sn K M J σ H' ρ → Rp K (wo M H') (.lst (ns.map D.int)) v → Q v H') : tCall spRow [] E0 (tCons (tVar i) (tCons tl tNil)) σ H Q := by
  refine ⟨_, S.e.val hi, hl _ fun H1 f1 S1 => ?_⟩
  obtain ⟨ds, hD, hd⟩ := w.src S1.j
  refine ⟨dd, m, ds, rfl, h0, h8, hd, hD, fun p H2 ns ds' hp f hD' hd' el lm ok => ?_⟩
  exact k ns _ H2 lm ok (f1.trans (Fm.of1 w.mem f)) ⟨S1.e.fm (Fm.of1 w.mem f), S1.g.fr1 f hd', w.fr S1.j f ⟨ds', hD', hd'⟩⟩ (rp_new (S1.g.out hp) el (rp_ints.mpr rfl))
theorem dr_below {i : Nat} {tl : TE} {lim : Int} {Q : VK} (w : Dw J dd M) (S : Sn K M J σ H ρ) (hi : ρ[i]? = some (.val (.ref dd))) (hl : Rd K M tl σ H (.int lim)) (h0 : 0 < lim) (h1 : lim < 18446744073709551616)
    (k : ∀ (n : Nat) (H' : Hp), (n : Int) < lim → Fm M H H' → Sn K M J σ H' ρ → Q (.int n) H') : tCall spBelow [] E0 (tCons (tVar i) (tCons tl tNil)) σ H Q :=
  ⟨_, S.e.val hi, hl H (Same.refl _) S.g _ fun v H2 s2 g2 r2 => by
    cases r2
    exact draw w g2 (w.same S.j s2) h0 h1 fun n H3 hn f g j => k n H3 hn ((Fm.of s2).trans f) ⟨(S.e.same s2).fm f, g, j⟩⟩
theorem dr_pick {i : Nat} {tl : TE} {l : List D} {lim : Int} {Q : VK} (w : Dw J dd M) (S : Sn K M J σ H ρ) (hi : ρ[i]? = some (.val (.ref dd))) (hl : Rd K M tl σ H (.lst l)) (h0 : (l.length : Int) = lim) (h1 : 0 < lim) (h2 : lim < 18446744073709551616)
    (k : ∀ (d : D) (v : V) (H' : Hp), d ∈ l → Fm M H H' → Sn K M J σ H' ρ → Rp K (wo M H') d v → Q v H') : tOp (rIxL K) tl (tCall spBelow [] E0 (tCons (tVar i) (tCons (tC (.int lim)) tNil))) σ H Q :=
  hl H (Same.refl _) S.g _ fun x H2 s2 g2 r2 => dr_below w ⟨S.e.same s2, g2, w.same S.j s2⟩ hi rd_int h1 h2 fun n H3 hn f3 S3 => by
    have hn' : n < l.length := by omega
    exact ix_pick (r2.fm f3) (List.getElem?_eq_getElem hn') fun v rv => k _ v H3 (List.getElem_mem hn') ((Fm.of s2).trans f3) S3 rv
end
end SC
set_option maxRecDepth 100000
set_option maxHeartbeats 2000000
/-! # Part Dr: draws in expressions and comprehensions; joins -/
namespace SC
open PySem PySem.Spec PyProof.Rows L2 TL
structure DwA (J : Hp → Prop) (dd : Addr) (M : List Addr) : Prop extends Dw J dd M where
  app : ∀ {H : Hp} {D0 : Addr} {xs ys : List V}, J H → H D0 = some (.lst xs) → D0 ∉ M → J (upd H D0 (.lst ys))
theorem dwa_js {dd : Addr} {T : List (Addr × Str)} : DwA (JS dd T) dd [dd] :=
  ⟨dw_js, fun {H D0 xs ys} j h n => by
    have nd : dd ≠ D0 := fun z => n (by rw [← z]; exact List.mem_cons_self)
    obtain ⟨⟨ds, h1, h2⟩, t⟩ := j
    exact ⟨⟨ds, h1, by rw [upd_ne nd]; exact h2⟩, tabs_fr t h Fr1.at⟩⟩
/-- a value that is there -/
def tVal (v : V) : TE := fun _ H Q => Q v H
abbrev rJn (K : PySem.W.Frag) : V → List V → Hp → VK → Prop := fun x xs H Q => ∃ a p, ∃ ys : List Str, x = .str a ∧ xs = [.ref p] ∧ (SqL K H p (ys.map V.str) ∨ SqT K H p (ys.map V.str)) ∧ (ys.map (·.length)).sum + ys.length * a.length ≤ 16777216 ∧ Q (.str (Txt.join a ys)) H
section
variable {K : PySem.W.Frag} {M : List Addr} {J : Hp → Prop} {dd : Addr} {σ : L2.St} {H H' H1 : Hp} {ρ : List Sl}
theorem rd_val {v : V} {d : D} (r : Rp K (wo M H) d v) : Rd K M (tVal v) σ H d := fun H1 s1 g Q k => k v H1 (Same.refl _) g (Rp.same (swo s1) d r)
theorem Dw.more (w : Dw J dd M) (D0 : Addr) : Dw J dd (D0 :: M) := ⟨w.same, w.src, w.fr, List.mem_cons_of_mem _ w.mem⟩
theorem Sn.fr1 (S : Sn K M J σ H ρ) (w : Dw J dd M) (f : Fr1 dd H H') (g : Gd K M H') (j : J H') : Sn K M J σ H' ρ := ⟨S.e.fm (Fm.of1 w.mem f), g, j⟩
theorem drawF {lim : Int} {Q : VK} (w : Dw J dd M) (g : Gd K M H) (j : J H) (h0 : 0 < lim) (h1 : lim < 18446744073709551616) (k : ∀ (i : Nat) (H' : Hp), (i : Int) < lim → Fr1 dd H H' → Gd K M H' → J H' → Q (.int i) H') : spBelow [.ref dd, .int lim] H Q E0 := by
  obtain ⟨ds, hD, hd⟩ := w.src j
  refine ⟨dd, lim, ds, rfl, h0, h1, hd, hD, fun i ds' a b c => ?_⟩
  obtain ⟨n, rfl⟩ := Int.eq_ofNat_of_zero_le a
  exact k n _ b Fr1.at (g.at trivial) (w.fr j Fr1.at ⟨ds', c, upd_same⟩)
theorem dr_belowF {i : Nat} {tl : TE} {lim : Int} {Q : VK} (w : Dw J dd M) (S : Sn K M J σ H ρ) (hi : ρ[i]? = some (.val (.ref dd))) (hl : Rd K M tl σ H (.int lim)) (h0 : 0 < lim) (h1 : lim < 18446744073709551616)
    (k : ∀ (n : Nat) (H' : Hp), (n : Int) < lim → Fr1 dd H H' → Sn K M J σ H' ρ → Q (.int n) H') : tCall spBelow [] E0 (tCons (tVar i) (tCons tl tNil)) σ H Q :=
  ⟨_, S.e.val hi, hl H (Same.refl _) S.g _ fun v H2 s2 g2 r2 => by
    cases r2
    exact drawF w g2 (w.same S.j s2) h0 h1 fun n H3 hn f g j => k n H3 hn ((Fr1.of s2).trans f) ((S.same w s2).fr1 w f g j)⟩
theorem dr_pickF {i : Nat} {tl : TE} {l : List D} {lim : Int} {Q : VK} (w : Dw J dd M) (S : Sn K M J σ H ρ) (hi : ρ[i]? = some (.val (.ref dd))) (hl : Rd K M tl σ H (.lst l)) (h0 : (l.length : Int) = lim) (h1 : 0 < lim) (h2 : lim < 18446744073709551616)
    (k : ∀ (d : D) (v : V) (H' : Hp), d ∈ l → Fr1 dd H H' → Sn K M J σ H' ρ → Rp K (wo M H') d v → Q v H') : tOp (rIxL K) tl (tCall spBelow [] E0 (tCons (tVar i) (tCons (tC (.int lim)) tNil))) σ H Q :=
  hl H (Same.refl _) S.g _ fun x H2 s2 g2 r2 => dr_belowF w ⟨S.e.same s2, g2, w.same S.j s2⟩ hi rd_int h1 h2 fun n H3 hn f3 S3 => by
    have hn' : n < l.length := by omega
    exact ix_pick (r2.fm (Fm.of1 w.mem f3)) (List.getElem?_eq_getElem hn') fun v rv => k _ v H3 (List.getElem_mem hn') ((Fr1.of s2).trans f3) S3 rv
/-- [draw for k in range(n)] -/
theorem dr_listN {α : Type} {i : Nat} {Pn : Nat → Prop} {ta : TA} {te : TE} {Q : VK} (P : α → Prop) (f : α → D) (w : DwA J dd M) (S : Sn K M J σ H ρ) (hn : ∀ n, Pn n → n < sizeLine)
    (ha : ∀ Q' : List V → Hp → Prop, (∀ n H1, Pn n → Fr1 dd H H1 → Sn K M J σ H1 ρ → Q' [.int (n : Nat)] H1) → ta σ H Q')
    (turn : ∀ (n : Nat), Pn n → ∀ (D0 : Addr) (σ' : L2.St) (H' : Hp) (m : Nat), m < n → Sn K (D0 :: M) J σ' H' ((ρ.set i .any).set i (.dat (.int m))) → ∀ Q' : VK, (∀ (x : α) (v : V) (H'' : Hp), P x → Fr1 dd H' H'' → Gd K (D0 :: M) H'' → J H'' → Rp K (wo (D0 :: M) H'') (f x) v → Q' v H'') → te σ' H' Q')
    (k : ∀ (n : Nat), Pn n → ∀ (xs : List α) (v : V) (H' : Hp), xs.length = n → (∀ x ∈ xs, P x) → Fr1 dd H H' → Sn K M J σ H' ρ → Rp K (wo M H') (.lst (xs.map f)) v → Q v H') : tLc (iRng1 ta) (gName i) tYes te [i] σ H Q := by
  refine ha _ fun n H1 hPn f1 S1 => ?_
  have hn := hn n hPn
  have turn := turn n hPn
  have k := k n hPn
  have hs : sizeLine < 2 ^ 62 := by decide
  refine ⟨n, rfl, by omega, by omega, fun D0 hD0 => ?_⟩
  have en : ((n : Int)).toNat = n := Int.toNat_natCast n
  rw [en]
  have nD : D0 ∉ M := S1.g.out hD0
  have ndd : dd ≠ D0 := fun e => nD (e ▸ w.mem)
  refine lc_range (lo := 0) (n := n) (fun m H3 => ∃ (xs : List α) (acc : List V), xs.length = m ∧ (∀ x ∈ xs, P x) ∧ Fr1 dd H1 H3 ∧ Gd K (D0 :: M) H3 ∧ J H3 ∧ H3 D0 = some (.lst acc) ∧ RpL K (wo (D0 :: M) H3) (xs.map f) acc) ?_ ?_ ?_
  · exact ⟨[], [], rfl, (fun x hx => by cases hx), Fr1.of (same_new hD0), (S1.g.same (same_new hD0)).lst upd_same, w.same S1.j (same_new hD0), upd_same, rfl⟩
  · rintro m H3 hm ⟨xs, acc, hl, hp, f3, g3, j3, hD, ra⟩
    rw [Int.zero_add]
    refine ⟨wipe_one, ?_⟩
    simp only [tYes, if_true]
    have le : Same (wo M H1) (wo (D0 :: M) H3) := fun b o e => by
      obtain ⟨e1, e2⟩ := wo_some e
      rw [wo_at (fun z => by
        rcases List.mem_cons.mp z with z | z
        · rw [z, hD0] at e2
          cases e2
        · exact e1 z)]
      exact f3 _ _ e2 (fun z => e1 (z ▸ w.mem))
    have S3 : Sn K (D0 :: M) J ((L2.wipe σ [i]).set i (some (.int (m : Int)))) H3 ((ρ.set i .any).set i (.dat (.int m))) := ⟨((S1.e.le le).wipe (i := i)).set (i := i) (d := .int m) (v := .int m) rfl, g3, j3⟩
    refine turn D0 _ H3 m hm S3 _ fun x v H4 px r4 g4 j4 rv => ?_
    have hD4 : H4 D0 = some (.lst acc) := r4 _ _ hD (Ne.symm ndd)
    have f4 : Fm (D0 :: M) H3 H4 := Fm.of1 (List.mem_cons_of_mem _ w.mem) r4
    have ra4 : RpL K (wo (D0 :: M) H4) (xs.map f) acc := RpL.same f4 _ ra
    refine ⟨acc, hD4, ?_, xs ++ [x], acc ++ [v], by rw [List.length_append, hl]; rfl, ?_, ?_, g4.at trivial, w.app j4 hD4 nD, upd_same, ?_⟩
    · rw [ra4.len, List.length_map, hl]
      omega
    · intro y hy
      rcases List.mem_append.mp hy with hy | hy
      · exact hp y hy
      · rw [List.mem_singleton.mp hy]
        exact px
    · intro b o hb nb
      have nb0 : b ≠ D0 := fun z => by
        rw [z, hD0] at hb
        cases hb
      rw [upd_ne nb0]
      exact r4 _ _ (f3 _ _ hb nb) nb
    · rw [wo_upd List.mem_cons_self, List.map_append]
      exact ra4.snoc rv
  · rintro H3 ⟨xs, acc, hl, hp, f3, g3, j3, hD, ra⟩
    exact k xs _ H3 hl hp (f1.trans f3) (S1.fr1 w.toDw f3 g3.tl j3) (lc_done nD hD ra)
/-- .. where n is known -/
theorem dr_list {α : Type} {i n : Nat} {ta : TA} {te : TE} {Q : VK} (P : α → Prop) (f : α → D) (w : DwA J dd M) (S : Sn K M J σ H ρ) (hn : n < sizeLine)
    (ha : ∀ Q' : List V → Hp → Prop, (∀ H1, Fr1 dd H H1 → Sn K M J σ H1 ρ → Q' [.int n] H1) → ta σ H Q')
    (turn : ∀ (D0 : Addr) (σ' : L2.St) (H' : Hp) (m : Nat), m < n → Sn K (D0 :: M) J σ' H' ((ρ.set i .any).set i (.dat (.int m))) → ∀ Q' : VK, (∀ (x : α) (v : V) (H'' : Hp), P x → Fr1 dd H' H'' → Gd K (D0 :: M) H'' → J H'' → Rp K (wo (D0 :: M) H'') (f x) v → Q' v H'') → te σ' H' Q')
    (k : ∀ (xs : List α) (v : V) (H' : Hp), xs.length = n → (∀ x ∈ xs, P x) → Fr1 dd H H' → Sn K M J σ H' ρ → Rp K (wo M H') (.lst (xs.map f)) v → Q v H') : tLc (iRng1 ta) (gName i) tYes te [i] σ H Q :=
  dr_listN (Pn := fun m => m = n) P f w S (fun m e => by rw [e]; exact hn) (fun Q' k' => ha Q' fun H1 f1 S1 => k' n H1 rfl f1 S1) (fun m e => by rw [e]; exact turn) (fun m e => by rw [e]; exact k)
theorem rd_and1 {ta tb : TE} (ha : Rd K M ta σ H (.bl true)) (hb : Rd K M tb σ H (.bl true)) : Rd K M (tAndV ta tb) σ H (.bl true) := fun H1 s1 g Q k => ha H1 s1 g _ fun v H2 s2 g2 r2 => by
  cases r2
  exact ⟨true, rfl, by rw [if_pos rfl]; exact hb H2 (s1.trans s2) g2 _ fun w H3 s3 g3 r3 => k w H3 (s2.trans s3) g3 r3⟩
theorem rd_neBl {ta tb : TE} {a b : Bool} (ha : Rd K M ta σ H (.bl a)) (hb : Rd K M tb σ H (.bl b)) : Rd K M (tOp rNe ta tb) σ H (.bl (!decide (a = b))) :=
  rd_op ha hb fun x y H1 Q g hx hy k => by
    cases hx
    cases hy
    refine ⟨rfl, k _ H1 (Same.refl _) g ?_⟩
    show V.bl (!decide (V.bl a = V.bl b)) = V.bl (!decide (a = b))
    simp
theorem rd_negI {t : TE} {i : Int} (h : Rd K M t σ H (.int i)) : Rd K M (tUn (rU fun i => .int (-i)) t) σ H (.int (-i)) := fun H1 s1 g Q k => h H1 s1 g _ fun x H2 s2 g2 rx => ⟨i, rx, k _ H2 s2 g2 rfl⟩
theorem rd_initM {α : Type} {f : α → D} {xs : List α} {ta tb : TE} (ha : Rd K M ta σ H (.lst (xs.map f))) (hb : Rd K M tb σ H (.int (-1))) : Rd K M (tSl (rSlL K) ta tNoPart (tPart tb)) σ H (.lst ((xs.take (xs.length - 1)).map f)) :=
  (rd_slL ha rdo_none (rdo_some hb)).cast (by
    unfold cutD
    have e : HT.sIx (xs.map f).length (xs.map f).length (some (-1)) = xs.length - 1 := by
      show (if (-1 : Int) < 0 then ((-1 : Int) + ((xs.map f).length : Int)).toNat else min (-1 : Int).toNat (xs.map f).length) = xs.length - 1
      rw [if_pos (by decide), List.length_map]
      omega
    rw [e, HT.sIx_none, List.drop_zero, Nat.sub_zero, List.map_take])
theorem rd_leS {ta tb : TE} {i j : Str} (ha : Rd K M ta σ H (.str i)) (hb : Rd K M tb σ H (.str j)) : Rd K M (tOp (fun x y H Q => ∃ i j, x = .str i ∧ y = .str j ∧ Q (.bl (!decide (j.cps.toList < i.cps.toList))) H) ta tb) σ H (.bl (!decide (j.cps.toList < i.cps.toList))) :=
  rd_op ha hb fun x y H1 Q g hx hy k => ⟨i, j, hx, hy, k _ H1 (Same.refl _) g rfl⟩
/-! peeling -/
theorem go_asg {t : TE} {gt : TG} {D : Ends} (h : t σ H fun x H1 => gt x σ H1 D.nx) : tAsg t gt D σ H := h
theorem go_op {r : R2} {ta tb : TE} {Q : VK} (h : ta σ H fun x H1 => tb σ H1 fun y H2 => r x y H2 Q) : tOp r ta tb σ H Q := h
theorem go_call {sp : Sp} {E : XK} {t : TA} {Q : VK} (h : t σ H fun vs H1 => sp (vs ++ []) H1 Q E) : tCall sp [] E t σ H Q := h
theorem go_cons {ta : TE} {tr : TA} {Q : List V → Hp → Prop} (h : ta σ H fun x H1 => tr σ H1 fun xs H2 => Q (x :: xs) H2) : tCons ta tr σ H Q := h
theorem go_tup {t : TA} {Q : VK} (h : t σ H fun xs H1 => xs.length ≤ sizeLine ∧ ∀ p, H1 p = none → Q (.ref p) (upd H1 p (.tup xs))) : tTup t σ H Q := h
theorem go_lst {t : TA} {Q : VK} (h : t σ H fun xs H1 => xs.length ≤ sizeLine ∧ ∀ p, H1 p = none → Q (.ref p) (upd H1 p (.lst xs))) : tLst t σ H Q := h
/-- a, b = x, y where the pair is made of values that are there -/
theorem put_tup2 {i j : Nat} {v1 v2 : V} {x y : D} {N : L2.St → Hp → Prop} (w : Dw J dd M) (S : Sn K M J σ H ρ) (r1 : Rp K (wo M H) x v1) (r2 : Rp K (wo M H) y v2) (k : ∀ σ' H', Same H H' → Sn K M J σ' H' ((ρ.set i (.dat x)).set j (.dat y)) → N σ' H') :
    [v1, v2].length ≤ sizeLine ∧ ∀ p, H p = none → gTup K 2 (gCons (gName i) (gCons (gName j) gNil)) (.ref p) σ (upd H p (.tup [v1, v2])) N := by
  refine ⟨by show 2 ≤ sizeLine; decide, fun p hp => ⟨p, _, rfl, SqT.of upd_same, rfl, _, _, rfl, _, _, rfl, rfl, ?_⟩⟩
  have s : Same H (upd H p (.tup [v1, v2])) := same_new hp
  exact k _ _ s ⟨((S.e.same s).set (Rp.same (swo s) _ r1)).set (Rp.same (swo s) _ r2), S.g.same s, w.same S.j s⟩
/-- if test: .., the two ways joined -/
theorem wp_join {X : Cx} {st : Stmt} {b body : List Stmt} {tt : TT} {D : Ends} (Jn : L2.St → Hp → Prop) (hps : PS X st (tIfS tt (wpS X body) tNext)) (h : ∀ Nx : L2.St → Hp → Prop, (∀ σ H, Jn σ H → Nx σ H) → tt σ H (fun bb H1 => if bb = true then wpS X body { D with nx := Nx } σ H1 else Nx σ H1))
    (k : ∀ σ H, Jn σ H → wpS X b D σ H) : wpS X (st :: b) D σ H := wp_cons hps (h _ k)
theorem rdt_and {a b : Bool} {ta tb : TT} (h : RdT K M ta σ H a) (h' : a = true → RdT K M tb σ H b) (hb : a = false → b = false) : RdT K M (tAnd ta tb) σ H b := fun H1 s1 g Q k => h H1 s1 g _ fun H2 s2 g2 => by
  cases a with
  | false => rw [hb rfl] at k; exact iteF (k H2 s2 g2)
  | true => exact iteT (h' rfl H2 (s1.trans s2) g2 _ fun H3 s3 => k H3 (s2.trans s3))
theorem rdt_and3 {a b c : Bool} {ta tb tc : TT} (h1 : RdT K M ta σ H a) (h2 : RdT K M tb σ H b) (h3 : RdT K M tc σ H c) : RdT K M (tAnd ta (tAnd tb tc)) σ H (a && (b && c)) := by
  refine rdt_and h1 (fun e => ?_) (fun e => by rw [e]; rfl)
  rw [e]
  refine rdt_and h2 (fun e => ?_) (fun e => by rw [e]; rfl)
  rw [e]
  exact h3
theorem rdt_and2 {a b : Bool} {ta tb : TT} (h1 : RdT K M ta σ H a) (h2 : RdT K M tb σ H b) : RdT K M (tAnd ta tb) σ H (a && b) := by
  refine rdt_and h1 (fun e => ?_) (fun e => by rw [e]; rfl)
  rw [e]
  exact h2
/-- the text of labels, joined -/
theorem rd_joinL {to : TE} {u : TA} {rs : List Rule} (h8 : rs.length ≤ 100) (hs : ((rs.map Rule.label).map (·.length)).sum ≤ 16 * rs.length) (h : Rd K M to σ H (.str " ")) (hu : RdA K M u σ H [.lst (lbD rs)]) : Rd K M (tBM K "str" (rJn K) to u) σ H (.str (txtOf rs)) :=
  fun H1 s1 g Q k => h H1 s1 g _ fun x H2 s2 g2 rx => by
    cases rx
    refine ⟨rfl, hu H2 (s1.trans s2) g2 _ fun xs H3 s3 g3 r3 => ?_⟩
    obtain ⟨v, rfl, a, vs, rfl, e1, r1⟩ := rp1 r3
    rw [rp_lbs.mp r1] at e1
    refine ⟨_, a, rs.map Rule.label, rfl, rfl, .inl (SqL.of (wo_le _ _ e1)), ?_, k _ H3 (s2.trans s3) g3 rfl⟩
    have lo : (" " : Str).length = 1 := by decide +kernel
    rw [List.length_map, lo]
    omega
end
end SC
set_option maxRecDepth 100000
set_option maxHeartbeats 2000000
/-! # Part Wo: worktops as the laws keep them: now, past, undone -/
namespace SC
open PySem PySem.Spec PyProof.Rows L2 TL
structure N3 where
  rs : List Rule
  hs : List (Option Int)
  os : List Int
def N3.d (n : N3) : D := .tup [.lst (lbD n.rs), .lst (n.hs.map dO), .lst (n.os.map D.int)]
def pastD (p : Str × N3) : D := .tup [.str p.1, p.2.d]
def undD (u : (Str × N3) × N3) : D := .tup [pastD u.1, u.2.d]
structure W3 where
  now : N3
  past : List (Str × N3)
  und : List ((Str × N3) × N3)
def W3.d (w : W3) : D := .lst [w.now.d, .lst (w.past.map pastD), .lst (w.und.map undD)]
inductive Op where
  | put (n : Int) | take (k : Nat) | swap (k : Nat) | undo | redo
def Op.word : Op → Str
  | .put _ => "put"
  | .take _ => "take"
  | .swap _ => "swap"
  | .undo => "undo"
  | .redo => "redo"
def Op.d : Op → D
  | .put n => .tup [.str "put", .int n]
  | .take k => .tup [.str "take", .int k]
  | .swap k => .tup [.str "swap", .int k]
  | .undo => .tup [.str "undo"]
  | .redo => .tup [.str "redo"]
def Op.ok : Op → Prop
  | .put n => -1000000000 ≤ n
  | _ => True
def Op.is3 : Op → Prop
  | .undo => False
  | .redo => False
  | _ => True
def onW (n : N3) : Op → Er ⊕ (D × N3)
  | .put m => if 1000000000 < m then .inl .number else .inr (dO (stepR n.rs n.hs (some m)).2, ⟨n.rs, (stepR n.rs n.hs (some m)).1, n.os ++ (stepR n.rs n.hs (some m)).2.toList⟩)
  | .take k => if k < n.rs.length then (match n.hs[k]? with
      | some (some v) => .inr (.int v, ⟨n.rs, n.hs.take k ++ n.hs.drop (k + 1) ++ [none], n.os⟩)
      | _ => .inl .number) else .inl .cell
  | .swap k => (match n.rs[k]?, n.rs[k + 1]? with
      | some x, some y => .inr (.tup [.str y.label, .str x.label], ⟨swp n.rs k, n.hs, n.os⟩)
      | _, _ => .inl .cell)
  | _ => .inl .cell
def workedW (w : W3) (op : Op) : Er ⊕ (D × W3) := match op with
  | .undo => (match w.past.getLast? with
      | none => .inr (.bl false, w)
      | some p => .inr (.bl true, ⟨p.2, w.past.dropLast, w.und ++ [(p, w.now)]⟩))
  | .redo => (match w.und.getLast? with
      | none => .inr (.bl false, w)
      | some u => .inr (.bl true, ⟨u.2, w.past ++ [u.1], w.und.dropLast⟩))
  | op => (match onW w.now op with
      | .inl e => .inl e
      | .inr (v, n) => .inr (v, ⟨n, w.past ++ [(op.word, w.now)], []⟩))
def onD (n : N3) : Er ⊕ (D × N3) → D
  | .inl e => .tup [.str e.word, .int 0, n.d]
  | .inr (v, n') => .tup [.str "", v, n'.d]
def workedD : Er ⊕ (D × W3) → D
  | .inl e => .tup [.str e.word, .int 0]
  | .inr (v, w) => .tup [.str "", v, w.d]
theorem worked3 {w : W3} {op : Op} (h : op.is3) : workedW w op = (match onW w.now op with
      | .inl e => .inl e
      | .inr (v, n) => .inr (v, ⟨n, w.past ++ [(op.word, w.now)], []⟩)) := by
  cases op with
  | undo => exact h.elim
  | redo => exact h.elim
  | put n => rfl
  | take k => rfl
  | swap k => rfl
/-! sizes -/
def N3.ok (N : Nat) (n : N3) : Prop := (∀ r ∈ n.rs, r.ok) ∧ 1 ≤ n.rs.length ∧ n.rs.length ≤ 8 ∧ n.hs.length = n.rs.length ∧ n.os.length ≤ N
structure W3.ok (N : Nat) (w : W3) : Prop where
  now : w.now.ok N
  past : ∀ p ∈ w.past, PyData.strOk p.1 = true ∧ p.2.ok N
  und : ∀ u ∈ w.und, (PyData.strOk u.1.1 = true ∧ u.1.2.ok N) ∧ u.2.ok N
  lp : w.past.length ≤ N
  lu : w.und.length ≤ N
theorem N3.ok.mono {N N' : Nat} {n : N3} (h : n.ok N) (l : N ≤ N') : n.ok N' := ⟨h.1, h.2.1, h.2.2.1, h.2.2.2.1, Nat.le_trans h.2.2.2.2 l⟩
theorem swp_len {α : Type} (l : List α) (k : Nat) : (swp l k).length = l.length := by
  unfold swp
  split
  · rw [List.length_set, List.length_set]
  · rfl
theorem swp_mem {α : Type} {l : List α} {k : Nat} {x : α} (h : x ∈ swp l k) : x ∈ l := by
  unfold swp at h
  split at h
  · rename_i a b h1 h2
    rcases List.mem_or_eq_of_mem_set h with h | rfl
    · rcases List.mem_or_eq_of_mem_set h with h | rfl
      · exact h
      · exact List.mem_of_getElem? h2
    · exact List.mem_of_getElem? h1
  · exact h
theorem opt_len (o : Option Int) : o.toList.length ≤ 1 := by cases o <;> simp
theorem on_ok {N : Nat} {n : N3} {op : Op} {v : D} {n' : N3} (h : n.ok N) (e : onW n op = .inr (v, n')) : n'.ok (N + 1) := by
  obtain ⟨h1, h2, h3, h4, h5⟩ := h
  cases op with
  | put m =>
    unfold onW at e
    dsimp only at e
    split at e
    · cases e
    · cases e
      have := opt_len (stepR n.rs n.hs (some m)).2
      exact ⟨h1, h2, h3, (step_len _ _ _).trans h4, by show List.length (_ ++ _) ≤ _; rw [List.length_append]; omega⟩
  | take k =>
    unfold onW at e
    dsimp only at e
    split at e
    · split at e
      · rename_i v hv
        cases e
        exact ⟨h1, h2, h3, (take_len hv).trans h4, by show n.os.length ≤ _; omega⟩
      · cases e
    · cases e
  | swap k =>
    unfold onW at e
    dsimp only at e
    split at e
    · cases e
      exact ⟨fun r hr => h1 r (swp_mem hr), by show 1 ≤ List.length (swp _ _); rw [swp_len]; exact h2, by show List.length (swp _ _) ≤ 8; rw [swp_len]; exact h3, by show n.hs.length = List.length (swp _ _); rw [swp_len]; exact h4, by show n.os.length ≤ _; omega⟩
    · cases e
  | undo => cases e
  | redo => cases e
theorem word_ok (op : Op) : PyData.strOk op.word = true := by
  cases op with
  | put n => show PyData.strOk "put" = true; decide +kernel
  | take n => show PyData.strOk "take" = true; decide +kernel
  | swap n => show PyData.strOk "swap" = true; decide +kernel
  | undo => show PyData.strOk "undo" = true; decide +kernel
  | redo => show PyData.strOk "redo" = true; decide +kernel
theorem worked_ok {N : Nat} {w : W3} {op : Op} {v : D} {w' : W3} (h : w.ok N) (e : workedW w op = .inr (v, w')) : w'.ok (N + 1) := by
  obtain ⟨h1, h2, h3, h4, h5⟩ := h
  have up : ∀ {n : N3}, n.ok N → n.ok (N + 1) := fun x => x.mono (Nat.le_succ _)
  by_cases h3' : op.is3
  · rw [worked3 h3'] at e
    split at e
    · cases e
    · rename_i v2 n2 e2
      cases e
      refine ⟨on_ok h1 e2, fun p hp => ?_, (fun u hu => by cases hu), ?_, Nat.zero_le _⟩
      · rcases List.mem_append.mp hp with hp | hp
        · exact ⟨(h2 p hp).1, up (h2 p hp).2⟩
        · rw [List.mem_singleton.mp hp]
          exact ⟨word_ok op, up h1⟩
      · show List.length (_ ++ _) ≤ _
        rw [List.length_append]
        exact Nat.succ_le_succ h4
  · cases op with
    | put n => exact absurd trivial h3'
    | take n => exact absurd trivial h3'
    | swap n => exact absurd trivial h3'
    | undo =>
      unfold workedW at e
      dsimp only at e
      split at e
      · cases e
        exact ⟨up h1, fun p hp => ⟨(h2 p hp).1, up (h2 p hp).2⟩, fun u hu => ⟨⟨(h3 u hu).1.1, up (h3 u hu).1.2⟩, up (h3 u hu).2⟩, by omega, by omega⟩
      · rename_i p hp
        cases e
        have pm := List.mem_of_getLast? hp
        refine ⟨up (h2 p pm).2, fun q hq => ?_, fun u hu => ?_, ?_, ?_⟩
        · have hq' := List.dropLast_subset _ hq
          exact ⟨(h2 q hq').1, up (h2 q hq').2⟩
        · rcases List.mem_append.mp hu with hu | hu
          · exact ⟨⟨(h3 u hu).1.1, up (h3 u hu).1.2⟩, up (h3 u hu).2⟩
          · rw [List.mem_singleton.mp hu]
            exact ⟨⟨(h2 p pm).1, up (h2 p pm).2⟩, up h1⟩
        · show (w.past.dropLast).length ≤ _
          rw [List.length_dropLast]
          omega
        · show List.length (_ ++ _) ≤ _
          rw [List.length_append]
          exact Nat.succ_le_succ h5
    | redo =>
      unfold workedW at e
      dsimp only at e
      split at e
      · cases e
        exact ⟨up h1, fun p hp => ⟨(h2 p hp).1, up (h2 p hp).2⟩, fun u hu => ⟨⟨(h3 u hu).1.1, up (h3 u hu).1.2⟩, up (h3 u hu).2⟩, by omega, by omega⟩
      · rename_i u hu
        cases e
        have um := List.mem_of_getLast? hu
        refine ⟨up (h3 u um).2, fun q hq => ?_, fun x hx => ?_, ?_, ?_⟩
        · rcases List.mem_append.mp hq with hq | hq
          · exact ⟨(h2 q hq).1, up (h2 q hq).2⟩
          · rw [List.mem_singleton.mp hq]
            exact ⟨(h3 u um).1.1, up (h3 u um).1.2⟩
        · have hx' := List.dropLast_subset _ hx
          exact ⟨⟨(h3 x hx').1.1, up (h3 x hx').1.2⟩, up (h3 x hx').2⟩
        · show List.length (_ ++ _) ≤ _
          rw [List.length_append]
          exact Nat.succ_le_succ h4
        · show (w.und.dropLast).length ≤ _
          rw [List.length_dropLast]
          omega
/-! the program's steps, as the laws tell them -/
def stAt (ss : List St1) (j : Nat) : N3 := match ss[j]? with
  | some s => ⟨s.rs, s.hs, (ss.take (j + 1)).filterMap St1.out⟩
  | none => ⟨[], [], []⟩
def wdAt (ss : List St1) (j : Nat) : Str := match ss[j]? with
  | some s => s.word
  | none => ""
structure Rel (ss : List St1) (i : Nat) (w : W3) : Prop where
  lt : i < ss.length
  now : w.now = stAt ss i
  pl : w.past.length = i
  pa : ∀ j, j < i → w.past[j]? = some (wdAt ss (j + 1), stAt ss j)
  ul : w.und.length + i + 1 = ss.length
  ua : ∀ t, t < w.und.length → w.und[t]? = some ((wdAt ss (ss.length - 1 - t), stAt ss (ss.length - 2 - t)), stAt ss (ss.length - 1 - t))
theorem last_at {α : Type} {l : List α} {n : Nat} {x : α} (h : l.length = n + 1) (e : l[n]? = some x) : l.getLast? = some x := by
  rw [List.getLast?_eq_getElem?, h, Nat.add_sub_cancel]
  exact e
theorem rel_undo0 {ss : List St1} {w : W3} (h : Rel ss 0 w) : w.past.getLast? = none := by
  rw [List.eq_nil_of_length_eq_zero h.pl]
  rfl
theorem rel_undo {ss : List St1} {i : Nat} {w : W3} (h : Rel ss (i + 1) w) : ∃ p, w.past.getLast? = some p ∧ Rel ss i ⟨p.2, w.past.dropLast, w.und ++ [(p, w.now)]⟩ := by
  have e := h.pa i (Nat.lt_succ_self i)
  refine ⟨_, last_at h.pl e, Nat.lt_of_succ_lt h.lt, rfl, ?_, fun j hj => ?_, ?_, fun t ht => ?_⟩
  · show (w.past.dropLast).length = i
    rw [List.length_dropLast, h.pl]
    rfl
  · show (w.past.dropLast)[j]? = _
    rw [List.getElem?_dropLast, if_pos (by rw [h.pl]; omega)]
    exact h.pa j (by omega)
  · show (w.und ++ [_]).length + i + 1 = ss.length
    rw [List.length_append, List.length_singleton, ← h.ul]
    omega
  · show (w.und ++ [_])[t]? = _
    have ht : t < (w.und ++ [((wdAt ss (i + 1), stAt ss i), w.now)]).length := ht
    rw [List.length_append, List.length_singleton] at ht
    rcases Nat.lt_or_ge t w.und.length with u | u
    · rw [List.getElem?_append_left u]
      exact h.ua t u
    · have et : t = w.und.length := by omega
      have e2 := h.ul
      rw [List.getElem?_append_right u, et, Nat.sub_self]
      have i1 : ss.length - 1 - w.und.length = i + 1 := by omega
      have i2 : ss.length - 2 - w.und.length = i := by omega
      rw [i1, i2, ← h.now]
      rfl
theorem rel_redo0 {ss : List St1} {i : Nat} {w : W3} (h : Rel ss i w) (e : i + 1 = ss.length) : w.und.getLast? = none := by
  have := h.ul
  rw [List.eq_nil_of_length_eq_zero (show w.und.length = 0 by omega)]
  rfl
theorem rel_redo {ss : List St1} {i : Nat} {w : W3} (h : Rel ss i w) (hi : i + 1 < ss.length) : ∃ u, w.und.getLast? = some u ∧ Rel ss (i + 1) ⟨u.2, w.past ++ [u.1], w.und.dropLast⟩ := by
  have e0 := h.ul
  obtain ⟨k, hk⟩ : ∃ k, w.und.length = k + 1 := ⟨w.und.length - 1, by omega⟩
  have e := h.ua k (by omega)
  have i1 : ss.length - 1 - k = i + 1 := by omega
  have i2 : ss.length - 2 - k = i := by omega
  rw [i1, i2] at e
  refine ⟨_, last_at hk e, hi, rfl, ?_, fun j hj => ?_, ?_, fun t ht => ?_⟩
  · show (w.past ++ [_]).length = i + 1
    rw [List.length_append, h.pl]
    rfl
  · show (w.past ++ [_])[j]? = _
    rcases Nat.lt_or_ge j i with u | u
    · rw [List.getElem?_append_left (by rw [h.pl]; exact u)]
      exact h.pa j u
    · have ej : j = i := by omega
      rw [List.getElem?_append_right (by rw [h.pl]; exact u), h.pl, ej, Nat.sub_self]
      rfl
  · show (w.und.dropLast).length + (i + 1) + 1 = ss.length
    rw [List.length_dropLast]
    omega
  · show (w.und.dropLast)[t]? = _
    have ht : t < (w.und.dropLast).length := ht
    rw [List.length_dropLast] at ht
    rw [List.getElem?_dropLast, if_pos ht]
    exact h.ua t (by omega)
theorem st_adv {ss : List St1} {i j : Nat} {s' : St1} (h : i < ss.length) (hj : j ≤ i) : stAt (ss.take (i + 1) ++ [s']) j = stAt ss j ∧ wdAt (ss.take (i + 1) ++ [s']) j = wdAt ss j := by
  have l : (ss.take (i + 1)).length = i + 1 := by rw [List.length_take]; omega
  have e : (ss.take (i + 1) ++ [s'])[j]? = ss[j]? := by rw [List.getElem?_append_left (by omega), List.getElem?_take_of_lt (by omega)]
  have e2 : (ss.take (i + 1) ++ [s']).take (j + 1) = ss.take (j + 1) := by
    rw [List.take_append_of_le_length (by omega), List.take_take, Nat.min_eq_left (by omega)]
  unfold stAt wdAt
  rw [e, e2]
  exact ⟨rfl, rfl⟩
theorem rel_adv {ss : List St1} {i : Nat} {w : W3} (h : Rel ss i w) (s' : St1) : Rel (ss.take (i + 1) ++ [s']) (i + 1) ⟨⟨s'.rs, s'.hs, w.now.os ++ s'.out.toList⟩, w.past ++ [(s'.word, w.now)], []⟩ := by
  have hl := h.lt
  have l : (ss.take (i + 1)).length = i + 1 := by rw [List.length_take]; omega
  have ll : (ss.take (i + 1) ++ [s']).length = i + 2 := by rw [List.length_append, l]; rfl
  have e : (ss.take (i + 1) ++ [s'])[i + 1]? = some s' := by
    rw [List.getElem?_append_right (by omega), l, Nat.sub_self]
    rfl
  refine ⟨by omega, ?_, ?_, fun j hj => ?_, by rw [ll]; show 0 + (i + 1) + 1 = i + 2; omega, fun t ht => by cases ht⟩
  · unfold stAt
    rw [e]
    dsimp only
    rw [List.take_of_length_le (by omega), List.filterMap_append]
    have en := h.now
    have eo : w.now.os = (ss.take (i + 1)).filterMap St1.out := by
      rw [en]
      unfold stAt
      rw [List.getElem?_eq_getElem hl]
    rw [eo]
    cases ho : s'.out <;> simp [List.filterMap, ho]
  · show (w.past ++ [_]).length = i + 1
    rw [List.length_append, h.pl]
    rfl
  · show (w.past ++ [_])[j]? = _
    rcases Nat.lt_or_ge j i with u | u
    · rw [List.getElem?_append_left (by rw [h.pl]; exact u), (st_adv hl (by omega)).1, (st_adv hl (show j + 1 ≤ i by omega)).2]
      exact h.pa j u
    · have ej : j = i := by omega
      rw [List.getElem?_append_right (by rw [h.pl]; exact u), h.pl, ej, Nat.sub_self, (st_adv hl (Nat.le_refl i)).1, ← h.now]
      unfold wdAt
      rw [e]
      rfl
theorem rel_at {ss : List St1} {i : Nat} {w : W3} (h : Rel ss i w) : ∃ s, ss[i]? = some s ∧ w.now = ⟨s.rs, s.hs, (ss.take (i + 1)).filterMap St1.out⟩ := by
  refine ⟨_, List.getElem?_eq_getElem h.lt, ?_⟩
  rw [h.now]
  unfold stAt
  rw [List.getElem?_eq_getElem h.lt]
theorem rel_words {ss : List St1} {i : Nat} {w : W3} (h : Rel ss i w) : ((ss.take (i + 1)).drop 1).map St1.word = w.past.map (·.1) := by
  apply List.ext_getElem?
  intro j
  rw [List.getElem?_map, List.getElem?_map, List.getElem?_drop]
  have hl := h.lt
  rcases Nat.lt_or_ge j i with u | u
  · rw [h.pa j u, List.getElem?_take_of_lt (by omega)]
    unfold wdAt
    have e : (1 + j) = j + 1 := by omega
    rw [e, List.getElem?_eq_getElem (show j + 1 < ss.length by omega)]
    rfl
  · rw [List.getElem?_eq_none (show w.past.length ≤ j by rw [h.pl]; exact u), List.getElem?_eq_none (by rw [List.length_take]; omega)]
    rfl
/-! statement by statement, in a def that only looks -/
structure En (K : PySem.W.Frag) (M : List Addr) (σ : L2.St) (H : Hp) (ρ : List Sl) : Prop where
  e : Env K M σ H ρ
  g : Gd K M H
section
variable {K : PySem.W.Frag} {M : List Addr} {σ : L2.St} {H H' H1 : Hp} {ρ : List Sl}
theorem En.rd (S : En K M σ H ρ) {i : Nat} {d : D} (h : ρ[i]? = some (.dat d)) : Rd K M (tVar i) σ H d := S.e.rd h
theorem En.same (S : En K M σ H ρ) (s : Same H H') : En K M σ H' ρ := ⟨S.e.same s, S.g.same s⟩
theorem en_set {X : Cx} {st : Stmt} {b : List Stmt} {t : TE} {i : Nat} {d : D} {D : Ends} (hps : PS X st (tAsg t (gName i))) (S : En K M σ H ρ) (h : Rd K M t σ H d) (k : ∀ σ' H', Same H H' → En K M σ' H' (ρ.set i (.dat d)) → wpS X b D σ' H') : wpS X (st :: b) D σ H :=
  wp_cons hps (use_set h S.g fun v H2 s g r => k _ H2 s ⟨(S.e.same s).set r, g⟩)
theorem en_tup2 {X : Cx} {st : Stmt} {b : List Stmt} {t : TE} {i j : Nat} {x y : D} {D : Ends} (hps : PS X st (tAsg t (gTup K 2 (gCons (gName i) (gCons (gName j) gNil))))) (S : En K M σ H ρ) (h : Rd K M t σ H (.tup [x, y])) (k : ∀ σ' H', Same H H' → En K M σ' H' ((ρ.set i (.dat x)).set j (.dat y)) → wpS X b D σ' H') : wpS X (st :: b) D σ H :=
  wp_cons hps (use_tup2 h S.g fun v u H2 s g r1 r2 => k _ H2 s ⟨((S.e.same s).set r1).set r2, g⟩)
theorem en_tup3 {X : Cx} {st : Stmt} {b : List Stmt} {t : TE} {i j l : Nat} {x y z : D} {D : Ends} (hps : PS X st (tAsg t (gTup K 3 (gCons (gName i) (gCons (gName j) (gCons (gName l) gNil)))))) (S : En K M σ H ρ) (h : Rd K M t σ H (.tup [x, y, z])) (k : ∀ σ' H', Same H H' → En K M σ' H' (((ρ.set i (.dat x)).set j (.dat y)).set l (.dat z)) → wpS X b D σ' H') : wpS X (st :: b) D σ H :=
  wp_cons hps (use_tup3 h S.g fun v u q H2 s g r1 r2 r3 => k _ H2 s ⟨(((S.e.same s).set r1).set r2).set r3, g⟩)
theorem en_if {X : Cx} {st : Stmt} {b body : List Stmt} {tt : TT} {c : Bool} {D : Ends} (hps : PS X st (tIfS tt (wpS X body) tNext)) (S : En K M σ H ρ) (h : RdT K M tt σ H c) (kt : c = true → ∀ H', Same H H' → En K M σ H' ρ → wpS X body { D with nx := wpS X b D } σ H') (kf : c = false → ∀ H', Same H H' → En K M σ H' ρ → wpS X b D σ H') : wpS X (st :: b) D σ H :=
  wp_cons hps (use_if h S.g fun H2 s g => by
    cases c with
    | true => exact (if_pos rfl).mpr (kt rfl H2 s ⟨S.e.same s, g⟩)
    | false => exact (if_neg (fun z => by cases z)).mpr (kf rfl H2 s ⟨S.e.same s, g⟩))
theorem en_ret {X : Cx} {st : Stmt} {t : TE} {d : D} {D : Ends} (hps : PS X st (tRet t)) (S : En K M σ H ρ) (h : Rd K M t σ H d) (k : ∀ v H', Same H H' → Gd K M H' → Rp K (wo M H') d v → D.rt v H') : wpS X [st] D σ H :=
  wp_one hps (use_ret h S.g k)
theorem rd_intB {u : TA} {b : Bool} (h : RdA K M u σ H [.bl b]) : Rd K M (tCB (fun xs H Q => (∃ i, xs = [.int i] ∧ Q (.int i) H) ∨ ∃ k, xs = [.bl k] ∧ Q (.int (if k then 1 else 0)) H) u) σ H (.int (if b then 1 else 0)) :=
  rd_cb h fun xs H1 Q g hx k => by
    obtain ⟨v, rfl, rv⟩ := rp1 hx
    cases rv
    exact .inr ⟨b, rfl, k _ H1 (Same.refl _) g rfl⟩
theorem rd_last {α : Type} {f : α → D} {xs : List α} {x : α} {ta tb : TE} (hx : xs.getLast? = some x) (ha : Rd K M ta σ H (.lst (xs.map f))) (hb : Rd K M tb σ H (.int (-1))) : Rd K M (tOp (rIxL K) ta tb) σ H (f x) := by
  refine rd_ixL ?_ ha hb
  have hl : 0 < xs.length := by
    cases xs with
    | nil => cases hx
    | cons y ys => exact Nat.succ_pos _
  rw [List.getLast?_eq_getElem?] at hx
  have e : ixN (xs.map f).length (-1) = some (xs.length - 1) := by
    unfold ixN
    rw [List.length_map, if_neg (by decide), if_pos (by omega)]
    congr 1
    omega
  unfold atI
  rw [e]
  show (xs.map f)[xs.length - 1]? = some (f x)
  rw [List.getElem?_map, hx]
  rfl
end
end SC
set_option maxRecDepth 100000
set_option maxHeartbeats 2000000
/-! # Part Cf: chains that are made: the mathematics of chain_for -/
namespace SC
open PySem PySem.Spec PyProof.Rows L2 TL
def words4 : List Rule := [.first, .greater, .last, .less]
/-- what a single cell lets out -/
def o1 (r : Rule) (ns : List Int) : List Int := (runR [r] (nones 1) ns).1.filterMap id
theorem fm_some (xs : List Int) : (xs.map some).filterMap id = xs := by
  induction xs with
  | nil => rfl
  | cons x xs ih => simp
theorem fm_nones (n : Nat) : (nones n).filterMap id = [] := by
  induction n with
  | zero => rfl
  | succ n ih => simp [nones, List.replicate_succ]
theorem o1_shape (r : Rule) (ns : List Int) : (runR [r] (nones 1) ns).1 = nones (min 1 ns.length) ++ (o1 r ns).map some ∧ (o1 r ns).length = ns.length - 1 := by
  obtain ⟨ds, e, l⟩ := run_shape [r] ns [] 1 rfl
  have e' : (runR [r] (nones 1) ns).1 = nones (min 1 ns.length) ++ ds.map some := by
    rw [List.map_nil, List.nil_append] at e
    exact e
  have ed : o1 r ns = ds := by
    unfold o1
    rw [e', List.filterMap_append, fm_nones, fm_some, List.nil_append]
  rw [ed]
  exact ⟨e', l⟩
theorem o1_drop (r : Rule) (ns : List Int) : (runR [r] (nones 1) ns).1.drop 1 = (o1 r ns).map some := by
  rw [(o1_shape r ns).1]
  cases ns with
  | nil =>
    have l := (o1_shape r []).2
    rw [List.length_nil] at l
    rw [List.eq_nil_of_length_eq_zero l]
    rfl
  | cons n ns =>
    have e : min 1 (n :: ns).length = 1 := by rw [List.length_cons]; omega
    rw [e]
    rfl
theorem o1_pred {P : Int → Prop} {r : Rule} {ns : List Int} (h : ∀ x ∈ ns, P x) : ∀ x ∈ o1 r ns, P x := fun x hx => by
  unfold o1 at hx
  obtain ⟨o, h1, h2⟩ := List.mem_filterMap.mp hx
  have e : o = some x := h2
  rw [e] at h1
  exact run_pred [r] ns (nones 1) (fun y hy => by simp [nones] at hy) h x h1
def outsN : List Rule → List Int → List Int
  | [], ns => ns
  | r :: rs, ns => outsN rs (o1 r ns)
theorem run_none (ns : List Int) : (runR [] [] ns).1 = ns.map some := by
  induction ns with
  | nil => rfl
  | cons n ns ih =>
    unfold runR
    rw [step_nil]
    show some n :: (runR [] [] ns).1 = _
    rw [ih]
    rfl
theorem weave_some : ∀ (xs : List Int) (ys : List (Option Int)), xs.length = ys.length → weave (xs.map some) ys = ys
  | [], [], _ => rfl
  | x :: xs, y :: ys, h => by
    show y :: weave (xs.map some) ys = y :: ys
    rw [weave_some xs ys (by simpa using h)]
theorem run_outsN : ∀ (rs : List Rule) (ns : List Int), rs.length ≤ ns.length → (runR rs (nones rs.length) ns).1 = nones rs.length ++ (outsN rs ns).map some
  | [], ns, _ => run_none ns
  | r :: rs, [], h => by simp at h
  | r :: rs, n :: ns, h => by
    have c := run_comp [r] rs (n :: ns) (nones 1) (nones rs.length) rfl
    have e1 : nones 1 ++ nones rs.length = nones (r :: rs).length := by
      rw [List.length_cons]
      simp [nones, List.replicate_succ]
    rw [e1] at c
    have c1 := congrArg Prod.fst c
    show (runR ([r] ++ rs) (nones (r :: rs).length) (n :: ns)).1 = _
    rw [c1]
    show weave (runR [r] (nones 1) (n :: ns)).1 (runR rs (nones rs.length) (o1 r (n :: ns))).1 = _
    have s := o1_shape r (n :: ns)
    have e2 : min 1 (n :: ns).length = 1 := by rw [List.length_cons]; omega
    rw [s.1, e2]
    have ih := run_outsN rs (o1 r (n :: ns)) (by rw [s.2]; simp at h ⊢; omega)
    have l := (run_len rs (o1 r (n :: ns)) (nones rs.length)).1
    show none :: weave ((o1 r (n :: ns)).map some) (runR rs (nones rs.length) (o1 r (n :: ns))).1 = _
    rw [weave_some _ _ l.symm, ih]
    show none :: (nones rs.length ++ _) = _
    rw [List.length_cons]
    simp [nones, List.replicate_succ, outsN]
def cellsF : Nat → List Int → List Int → Option (List Rule)
  | 0, ns, wt => if ns = wt then some [] else none
  | m + 1, ns, wt => words4.findSome? fun r => (cellsF m (o1 r ns) wt).map (r :: ·)
def allL : Nat → List (List Rule)
  | 0 => [[]]
  | m + 1 => words4.flatMap fun r => (allL m).map (r :: ·)
theorem cellsF_find : ∀ (m : Nat) (ns wt : List Int), cellsF m ns wt = (allL m).find? fun rs => decide (outsN rs ns = wt)
  | 0, ns, wt => by
    unfold cellsF allL
    by_cases h : ns = wt <;> simp [outsN, h]
  | m + 1, ns, wt => by
    unfold cellsF allL
    rw [List.find?_flatMap]
    congr 1
    funext r
    rw [List.find?_map, cellsF_find m]
    rfl
theorem allL_snoc : ∀ m : Nat, allL (m + 1) = (allL m).flatMap fun s => words4.map fun w => s ++ [w]
  | 0 => rfl
  | m + 1 => by
    have e : allL (m + 1 + 1) = words4.flatMap fun r => (allL (m + 1)).map (r :: ·) := rfl
    rw [e, allL_snoc m]
    have e2 : allL (m + 1) = words4.flatMap fun r => (allL m).map (r :: ·) := rfl
    rw [← allL_snoc m, e2, List.flatMap_assoc]
    congr 1
    funext r
    rw [← e2, allL_snoc m, List.map_flatMap, List.flatMap_map]
    congr 1
theorem allL_len : ∀ (m : Nat), ∀ rs ∈ allL m, rs.length = m
  | 0, rs, h => by
    rw [List.mem_singleton.mp h]
    rfl
  | m + 1, rs, h => by
    obtain ⟨r, _, h2⟩ := List.mem_flatMap.mp h
    obtain ⟨q, h3, rfl⟩ := List.mem_map.mp h2
    rw [List.length_cons, allL_len m q h3]
theorem words4_ok : ∀ r ∈ words4, r.ok := fun r hr => by
  rcases List.mem_cons.mp hr with rfl | hr
  · trivial
  rcases List.mem_cons.mp hr with rfl | hr
  · trivial
  rcases List.mem_cons.mp hr with rfl | hr
  · trivial
  rw [List.mem_singleton.mp hr]
  trivial
theorem allL_ok : ∀ (m : Nat), ∀ rs ∈ allL m, ∀ r ∈ rs, r.ok
  | 0, rs, h, r, hr => by
    rw [List.mem_singleton.mp h] at hr
    cases hr
  | m + 1, rs, h, r, hr => by
    obtain ⟨q, h1, h2⟩ := List.mem_flatMap.mp h
    obtain ⟨qs, h3, rfl⟩ := List.mem_map.mp h2
    rcases List.mem_cons.mp hr with rfl | hr
    · exact words4_ok _ h1
    · exact allL_ok m qs h3 r hr
theorem allL_count : ∀ m : Nat, (allL m).length = 4 ^ m
  | 0 => rfl
  | m + 1 => by
    unfold allL
    rw [List.length_flatMap]
    simp [words4, allL_count m, Nat.pow_succ]
    omega
/-- what chain_for finds, as the law's own search finds it -/
theorem find_same {m : Nat} {ns wt : List Int} (h : m ≤ ns.length) : (allL m).find? (fun rs => decide ((runR rs (nones rs.length) ns).1 = nones m ++ wt.map some)) = cellsF m ns wt := by
  rw [cellsF_find]
  have key : ∀ l : List (List Rule), (∀ rs ∈ l, rs.length = m) → l.find? (fun rs => decide ((runR rs (nones rs.length) ns).1 = nones m ++ wt.map some)) = l.find? fun rs => decide (outsN rs ns = wt) := by
    intro l
    induction l with
    | nil => intro _; rfl
    | cons rs l ih =>
      intro hl
      have e := hl rs List.mem_cons_self
      have k : decide ((runR rs (nones rs.length) ns).1 = nones m ++ wt.map some) = decide (outsN rs ns = wt) := by
        rw [run_outsN rs ns (by omega), e]
        apply decide_eq_decide.mpr
        constructor
        · intro z
          have z2 := List.append_cancel_left z
          exact (List.map_inj_right (fun _ _ h => Option.some.inj h)).mp z2
        · rintro rfl
          rfl
      rw [List.find?_cons, List.find?_cons, k, ih fun q hq => hl q (List.mem_cons_of_mem _ hq)]
  exact key _ (allL_len m)
/-! == of lists of numbers -/
theorem eqv_ints : ∀ ns ms : List Int, PyData.eqvAll (toPyL (ns.map D.int)) (toPyL (ms.map D.int)) = decide (ns = ms)
  | [], [] => by simp [toPyL, PyData.eqvAll]
  | [], m :: ms => by simp [toPyL, PyData.eqvAll]
  | n :: ns, [] => by simp [toPyL, PyData.eqvAll]
  | n :: ns, m :: ms => by
    have ih := eqv_ints ns ms
    simp only [List.map_cons, toPyL, toPy, PyData.eqvAll, PyData.eqv, ih]
    by_cases h1 : n = m <;> by_cases h2 : ns = ms <;> simp [h1, h2]
theorem eqD_ints (ns ms : List Int) : eqD (.lst (ns.map D.int)) (.lst (ms.map D.int)) = decide (ns = ms) := by
  unfold eqD
  simp only [toPy, PyData.eqv]
  exact eqv_ints ns ms
theorem eqv_opts : ∀ ns ms : List (Option Int), PyData.eqvAll (toPyL (ns.map dO)) (toPyL (ms.map dO)) = decide (ns = ms)
  | [], [] => by simp [toPyL, PyData.eqvAll]
  | [], m :: ms => by simp [toPyL, PyData.eqvAll]
  | n :: ns, [] => by simp [toPyL, PyData.eqvAll]
  | n :: ns, m :: ms => by
    have ih := eqv_opts ns ms
    have e : PyData.eqv (toPy (dO n)) (toPy (dO m)) = decide (n = m) := by
      cases n <;> cases m <;> simp [dO, toPy, PyData.eqv]
      rename_i a b
      by_cases h : a = b <;> simp [h]
    simp only [List.map_cons, toPyL, PyData.eqvAll, ih, e]
    by_cases h1 : n = m <;> by_cases h2 : ns = ms <;> simp [h1, h2]
theorem eqD_opts (ns ms : List (Option Int)) : eqD (.lst (ns.map dO)) (.lst (ms.map dO)) = decide (ns = ms) := by
  unfold eqD
  simp only [toPy, PyData.eqv]
  exact eqv_opts ns ms
theorem find_at {α β : Type} {f : α → Option β} : ∀ {l : List α} {i : Nat} {x : α} {y : β}, l[i]? = some x → f x = some y → (∀ j z, j < i → l[j]? = some z → f z = none) → l.findSome? f = some y
  | [], _, _, _, h, _, _ => by simp at h
  | a :: l, 0, x, y, h, e, _ => by
    simp at h
    subst h
    simp [List.findSome?, e]
  | a :: l, i + 1, x, y, h, e, hn => by
    have e0 := hn 0 a (Nat.succ_pos _) rfl
    have ih := find_at (l := l) (i := i) (by simpa using h) e fun j z hj hz => hn (j + 1) z (by omega) (by simpa using hz)
    simp [List.findSome?, e0, ih]
end SC
set_option maxRecDepth 100000
set_option maxHeartbeats 2000000
/-! # Part Gh: lambdas that live on in lists: the cells that they captured are tracked while others run -/
namespace SC
open PySem PySem.Spec PyProof.Rows L2 TL
/-- the object at b is o -/
def PinO (b : Addr) (o : Obj) : HO := .ext fun h => h.get? b = some o
theorem pinO_ok {P : Program} {w : World} {H : Hp} {h : Heap} {b : Addr} {o : Obj} (e : h.get? b = some o) : ObjOk P w H h b (PinO b o) := ⟨e, ⟨o, e⟩, fun _ _ p k => k _ p⟩
theorem pinO_at {P : Program} {w : World} {H : Hp} {h : Heap} {b : Addr} {o : Obj} (hok : HOk P w H h) (e : H b = some (PinO b o)) : h.get? b = some o := (hok b _ e).1
def addG (H : Hp) (G : Addr → Option Obj) : Hp := fun b => match G b with
  | some o => some (PinO b o)
  | none => H b
def cutG (H : Hp) (G : Addr → Option Obj) : Hp := fun b => match G b with
  | some _ => none
  | none => H b
section
variable {H H' : Hp} {G : Addr → Option Obj} {b : Addr} {o : Obj}
theorem addG_some (e : G b = some o) : addG H G b = some (PinO b o) := by unfold addG; rw [e]
theorem addG_none (e : G b = none) : addG H G b = H b := by unfold addG; rw [e]
theorem cutG_some (e : G b = some o) : cutG H G b = none := by unfold cutG; rw [e]
theorem cutG_none (e : G b = none) : cutG H G b = H b := by unfold cutG; rw [e]
/-- the ghosts stand in H -/
def GIn (G : Addr → Option Obj) (H : Hp) : Prop := ∀ b o, G b = some o → H b = some (PinO b o)
/-- H knows nothing of the ghosts -/
def GOut (G : Addr → Option Obj) (H : Hp) : Prop := ∀ b o, G b = some o → H b = none
theorem GIn.same (g : GIn G H) (s : ∀ b o, H b = some o → H' b = some o) : GIn G H' := fun b o e => s _ _ (g b o e)
theorem gin_add : GIn G (addG H G) := fun b o e => addG_some e
theorem gout_cut : GOut G (cutG H G) := fun b o e => cutG_some e
theorem GIn.none (g : GIn G H) {u : Option HO} (e : H b = u) (n : ∀ o, u ≠ some (PinO b o)) : G b = none := by
  cases q : G b with
  | none => rfl
  | some o => exact absurd (e.symm.trans (g b o q)) (n o)
theorem GOut.none (g : GOut G H) {u : HO} (e : H b = some u) : G b = none := by
  cases q : G b with
  | none => rfl
  | some o =>
    rw [g b o q] at e
    cases e
theorem add_cut (g : GIn G H) : addG (cutG H G) G = H := by
  funext b
  cases q : G b with
  | none => rw [addG_none q, cutG_none q]
  | some o => rw [addG_some q, g b o q]
theorem cut_add (g : GOut G H) : cutG (addG H G) G = H := by
  funext b
  cases q : G b with
  | none => rw [cutG_none q, addG_none q]
  | some o => rw [cutG_some q, g b o q]
theorem add_same (s : ∀ b o, H b = some o → H' b = some o) : ∀ b o, addG H G b = some o → addG H' G b = some o := fun b o e => by
  cases q : G b with
  | none => rw [addG_none q] at e ⊢; exact s _ _ e
  | some u => rw [addG_some q] at e ⊢; exact e
theorem cut_same (s : ∀ b o, H b = some o → H' b = some o) : ∀ b o, cutG H G b = some o → cutG H' G b = some o := fun b o e => by
  cases q : G b with
  | none => rw [cutG_none q] at e ⊢; exact s _ _ e
  | some u => rw [cutG_some q] at e; cases e
end
theorem pinO_ne {b : Addr} {o : Obj} {u : HO} (h : ∀ φ, u ≠ .ext φ) : some u ≠ some (PinO b o) := fun z => h _ (Option.some.inj z)
section
variable {P : Program} {w : World} {K : PySem.W.Frag} {mg : Str → Option Value} {base : Heap} {A : Around} {outer : List PySem.Env} {s s' : Shared} {H HZ : Hp} {G : Addr → Option Obj}
theorem hok_add {h : Heap} (hok : HOk P w H h) (go : GOut G H) (gs : ∀ b o, G b = some o → h.get? b = some o) : HOk P w (addG H G) h := fun b u e => by
  cases q : G b with
  | some o =>
    rw [addG_some q] at e
    cases e
    exact pinO_ok (gs b o q)
  | none =>
    rw [addG_none q] at e
    exact (hok b u e).stay (fun _ _ _ z => z) (fun c z => by rw [addG_none (go.none z)]; exact z) (fun c xs z => by rw [addG_none (go.none z)]; exact z)
theorem hok_cut {h : Heap} (hok : HOk P w HZ h) (gi : GIn G HZ) : HOk P w (cutG HZ G) h := fun b u e => by
  cases q : G b with
  | some o =>
    rw [cutG_some q] at e
    cases e
  | none =>
    rw [cutG_none q] at e
    exact (hok b u e).stay (fun _ _ _ z => z) (fun c z => by rw [cutG_none (gi.none z fun o => pinO_ne fun φ y => by cases y)]; exact z) (fun c xs z => by rw [cutG_none (gi.none z fun o => pinO_ne fun φ y => by cases y)]; exact z)
theorem env0_add (e0 : Env0 P w K mg base A outer s H) (go : GOut G H) (gs : ∀ b o, G b = some o → s.heap.get? b = some o) (gb : ∀ b o, G b = some o → base.get? b = none) (gf : ∀ b o, G b = some o → b ∉ frs outer) : Env0 P w K mg base A outer s (addG H G) := by
  refine ⟨e0.frames, e0.mod, fun b o e => ⟨(e0.bs b o e).1, ?_⟩, e0.bsz, e0.funs, fun b hb => ?_, hok_add e0.hok go gs, e0.bare⟩
  · cases q : G b with
    | some u => rw [gb b u q] at e; cases e
    | none => rw [addG_none q]; exact (e0.bs b o e).2
  · cases q : G b with
    | some u => exact absurd hb (gf b u q)
    | none => rw [addG_none q]; exact e0.frf b hb
theorem env0_cut (e0 : Env0 P w K mg base A outer s HZ) (gi : GIn G HZ) : Env0 P w K mg base A outer s (cutG HZ G) := by
  have h : ∀ b, HZ b = none → cutG HZ G b = none := fun b e => by
    cases q : G b with
    | some o => exact cutG_some q
    | none => rw [cutG_none q]; exact e
  exact ⟨e0.frames, e0.mod, fun b o e => ⟨(e0.bs b o e).1, h b (e0.bs b o e).2⟩, e0.bsz, e0.funs, fun b hb => h b (e0.frf b hb), hok_cut e0.hok gi, e0.bare⟩
/-- a call that ran with the ghosts tracked: back to where nobody tracks them -/
theorem ce_add {Q : VK} {u : Value} (go : GOut G H) (gs : ∀ b o, G b = some o → s.heap.get? b = some o) (gf : ∀ b o, G b = some o → b ∉ frs outer) (c : CE outer P w (addG H G) s (fun v H' => GIn G H' ∧ Q v (cutG H' G)) u s') : CE outer P w H s Q u s' := by
  obtain ⟨v, H', os, bare, un, hok, r, gi, q⟩ := c
  refine ⟨v, cutG H' G, os, bare, ⟨fun b o e n hb _ => ?_, fun b o e n hb _ => ?_, fun b o e n _ => ?_, fun b o e _ => un.there b o e (by simp), fun b xs e => ?_, fun b o xs e => ?_, fun b ps e => ?_⟩, hok_cut hok gi, r, q⟩
  · cases z : G b with
    | some o' =>
      have y := gs b o' z
      rw [e] at y
      cases y
      exact pinO_at hok (gi b o z)
    | none => exact un.keep b o e (by rw [addG_none z]; exact n) hb (by simp)
  · cases z : G b with
    | some o' => exact absurd hb (gf b o' z)
    | none => exact un.slot b o e (by rw [addG_none z]; exact n) hb (by simp)
  · cases z : G b with
    | some o' => exact cutG_some z
    | none => rw [cutG_none z]; exact un.free b o e (by rw [addG_none z]; exact n) (by simp)
  · have z := go.none e
    rw [cutG_none z]
    exact un.tups b xs (by rw [addG_none z]; exact e)
  · have z := go.none e
    rw [cutG_none z]
    exact un.frzs b o xs (by rw [addG_none z]; exact e)
  · have z := go.none e
    rw [cutG_none z]
    exact un.tbls b ps (by rw [addG_none z]; exact e)
/-- a call that ran while nobody tracked the ghosts: back to where they are tracked -/
theorem ce_cut {Q : VK} {u : Value} (gi : GIn G HZ) (hokZ : HOk P w HZ s.heap) (gf : ∀ b o, G b = some o → b ∉ frs outer) (c : CE outer P w (cutG HZ G) s (fun v H' => GOut G H' → Q v (addG H' G)) u s') : CE outer P w HZ s Q u s' := by
  obtain ⟨v, H', os, bare, un, hok, r, q⟩ := c
  have gs : ∀ b o, G b = some o → s.heap.get? b = some o := fun b o e => pinO_at hokZ (gi b o e)
  have go : GOut G H' := fun b o e => un.free b o (gs b o e) (cutG_some e) (by simp)
  have gs' : ∀ b o, G b = some o → s'.heap.get? b = some o := fun b o e => un.keep b o (gs b o e) (cutG_some e) (gf b o e) (by simp)
  have nn : ∀ b, HZ b = none → G b = none := fun b e => gi.none e fun o => by simp
  refine ⟨v, addG H' G, os, bare, ⟨fun b o e n hb _ => un.keep b o e (by rw [cutG_none (nn b n)]; exact n) hb (by simp), fun b o e n hb _ => un.slot b o e (by rw [cutG_none (nn b n)]; exact n) hb (by simp), fun b o e n _ => by rw [addG_none (nn b n)]; exact un.free b o e (by rw [cutG_none (nn b n)]; exact n) (by simp),
    fun b o e _ => un.there b o e (by simp), fun b xs e => ?_, fun b o xs e => ?_, fun b ps e => ?_⟩, hok_add hok go gs', r, q go⟩
  · have z : G b = none := gi.none e fun o => pinO_ne fun φ y => by cases y
    rw [addG_none z]
    exact un.tups b xs (by rw [cutG_none z]; exact e)
  · have z : G b = none := gi.none e fun o => pinO_ne fun φ y => by cases y
    rw [addG_none z]
    exact un.frzs b o xs (by rw [cutG_none z]; exact e)
  · have z : G b = none := gi.none e fun o => pinO_ne fun φ y => by cases y
    rw [addG_none z]
    exact un.tbls b ps (by rw [cutG_none z]; exact e)
theorem cx_cut {E : XK} {u : Value} (gi : GIn G HZ) (hokZ : HOk P w HZ s.heap) (gf : ∀ b o, G b = some o → b ∉ frs outer) (c : L2.CX P w outer (cutG HZ G) s (fun c d H' => GOut G H' → E c d (addG H' G)) u s') : L2.CX P w outer HZ s E u s' := by
  obtain ⟨a, B, H', cls, d, rfl, fl, hok, un, na, os, ag, q⟩ := c
  have gs : ∀ b o, G b = some o → s.heap.get? b = some o := fun b o e => pinO_at hokZ (gi b o e)
  have go : GOut G H' := fun b o e => un.free b o (gs b o e) (cutG_some e)
  have gs' : ∀ b o, G b = some o → B.get? b = some o := fun b o e => un.keep b o (gs b o e) (cutG_some e) (gf b o e)
  have nn : ∀ b, HZ b = none → G b = none := fun b e => gi.none e fun o => by simp
  have nG : G a = none := by
    cases z : G a with
    | none => rfl
    | some o =>
      have y := gs' a o z
      rw [fl.2.1] at y
      cases y
  refine ⟨a, B, addG H' G, cls, d, rfl, fl, hok_add hok go gs', ⟨fun b o e n hb => un.keep b o e (by rw [cutG_none (nn b n)]; exact n) hb, fun b o e hb => un.slot b o e hb, fun b o e n => by rw [addG_none (nn b n)]; exact un.free b o e (by rw [cutG_none (nn b n)]; exact n),
    fun b o e hb => un.there b o e hb, fun b xs e => ?_, fun b o xs e => ?_, fun b ps e => ?_⟩, by rw [addG_none nG]; exact na, os, ag, q go⟩
  · have z : G b = none := gi.none e fun o => pinO_ne fun φ y => by cases y
    rw [addG_none z]
    exact un.tups b xs (by rw [cutG_none z]; exact e)
  · have z : G b = none := gi.none e fun o => pinO_ne fun φ y => by cases y
    rw [addG_none z]
    exact un.frzs b o xs (by rw [cutG_none z]; exact e)
  · have z : G b = none := gi.none e fun o => pinO_ne fun φ y => by cases y
    rw [addG_none z]
    exact un.tbls b ps (by rw [cutG_none z]; exact e)
theorem cr_cut {Q : VK} {E : XK} {r : Result} (gi : GIn G HZ) (hokZ : HOk P w HZ s.heap) (gf : ∀ b o, G b = some o → b ∉ frs outer) (c : CR (L2.CX P w) outer P w (cutG HZ G) s (fun v H' => GOut G H' → Q v (addG H' G)) (fun c d H' => GOut G H' → E c d (addG H' G)) r s') : CR (L2.CX P w) outer P w HZ s Q E r s' := by
  cases r with
  | error e => exact cx_cut gi hokZ gf c
  | ok fl =>
    cases fl with
    | ret u => exact ce_cut gi hokZ gf c
    | next => exact c
    | brk => exact c
    | cont => exact c
theorem cr_add {Q : VK} {E : XK} {r : Result} (go : GOut G H) (gs : ∀ b o, G b = some o → s.heap.get? b = some o) (gf : ∀ b o, G b = some o → b ∉ frs outer) (c : CR CX0 outer P w (addG H G) s (fun v H' => GIn G H' ∧ Q v (cutG H' G)) E r s') : CR CX0 outer P w H s Q E r s' := by
  cases r with
  | error e => exact c
  | ok fl =>
    cases fl with
    | ret u => exact ce_add go gs gf c
    | next => exact c
    | brk => exact c
    | cont => exact c
end
end SC
set_option maxRecDepth 100000
set_option maxHeartbeats 2000000
/-! # Part Gi: a lambda as a thing that may be called by anyone -/
namespace SC
open PySem PySem.Spec PyProof.Rows L2 TL
/-- the defaults of a lambda: none, or a tuple that H knows -/
def DfIn (H : Hp) (dV : Value) (dvs : List V) : Prop := (dvs = [] ∧ dV = .none) ∨ (dvs ≠ [] ∧ ∃ T : Addr, dV = .ref T ∧ H T = some (.tup dvs))
theorem DfIn.same {H H' : Hp} {dV : Value} {dvs : List V} (d : DfIn H dV dvs) (s : ∀ b o, H b = some o → H' b = some o) : DfIn H' dV dvs := d.imp id fun ⟨n, T, e, h⟩ => ⟨n, T, e, s _ _ h⟩
/-- no name of its own but parameters that N does not know -/
structure LamD (N : List Str) (sc scope : Scope) : Prop where
  kind : scope.kind = .function
  co : scope.isCoroutine = false
  gen : scope.isGenerator = false
  own : ∀ y ∈ scope.names, y.2 ≠ .cell ∧ (y.2 = .local → y.1 ∉ N)
  free : ∀ y ∈ scope.names, y.2 = .free → sc.names.lookup y.1 = some .cell ∨ sc.names.lookup y.1 = some .free
def lamDB (N : List Str) (sc scope : Scope) : Bool :=
  decide (scope.kind = .function) && !scope.isCoroutine && !scope.isGenerator && scope.names.all fun y => !decide (y.2 = .cell) && (!decide (y.2 = .local) || !N.contains y.1) && (!decide (y.2 = .free) || decide (sc.names.lookup y.1 = some .cell) || decide (sc.names.lookup y.1 = some .free))
theorem lamD_by {N : List Str} {sc scope : Scope} (h : lamDB N sc scope = true) : LamD N sc scope := by
  unfold lamDB at h
  simp only [Bool.and_eq_true, Bool.or_eq_true, Bool.not_eq_true', decide_eq_true_eq, decide_eq_false_iff_not, List.all_eq_true] at h
  obtain ⟨⟨⟨h1, h2⟩, h3⟩, h4⟩ := h
  refine ⟨h1, h2, h3, fun y hy => ⟨(h4 y hy).1.1, fun e => ?_⟩, fun y hy e => ?_⟩
  · rcases (h4 y hy).1.2 with z | z
    · exact absurd e z
    · simpa using z
  · rcases (h4 y hy).2 with (z | z) | z
    · exact absurd e z
    · exact .inl z
    · exact .inr z
/-- G holds the cells of X's names, and σ tells what is in them -/
structure ClosG (X : Cx) (G : Addr → Option Obj) (σ : L2.St) : Prop where
  inj : ∀ x y c, X.env.cells.lookup x = some c → X.env.cells.lookup y = some c → x = y
  has : ∀ x, (X.env.kindOf x = some .cell ∨ X.env.kindOf x = some .free) → ∃ c, X.env.cells.lookup x = some c
  cell : ∀ x c, X.env.cells.lookup x = some c → ∃ o v, G c = some o ∧ o.data = .cell v
  loc : ∀ (i : Nat) (x : Str) (v : V), X.N[i]? = some x → σ[i]? = some (some v) → (X.env.scope.names.lookup x = some .cell ∨ X.env.scope.names.lookup x = some .free) → ∃ u c o, RelV v u ∧ X.env.cells.lookup x = some c ∧ G c = some o ∧ o.data = .cell (some u)
  len : σ.length = X.N.length
open Classical in
noncomputable def cellsG (X : Cx) (h : Heap) : Addr → Option Obj := fun b => if (∃ x, X.env.cells.lookup x = some b) then h.get? b else none
section
variable {X : Cx} {pins : List (Addr × Obj)} {σ : L2.St} {H : Hp} {s : Shared}
theorem cellsG_some {h : Heap} {b : Addr} {o : Obj} (e : cellsG X h b = some o) : (∃ x, X.env.cells.lookup x = some b) ∧ h.get? b = some o := by
  unfold cellsG at e
  split at e
  · rename_i q
    exact ⟨q, e⟩
  · cases e
theorem cellsG_at {h : Heap} {b : Addr} {x : Str} (e : X.env.cells.lookup x = some b) : cellsG X h b = h.get? b := by
  unfold cellsG
  rw [if_pos ⟨x, e⟩]
theorem closG_of (I : Inv X pins σ H s) : ClosG X (cellsG X s.heap) σ := by
  refine ⟨I.ok.inj, I.ok.has, fun x c e => ?_, fun i x v e1 e2 k => ?_, I.len⟩
  · obtain ⟨v, o, ho, hd⟩ := I.cell x c e
    exact ⟨o, v, by rw [cellsG_at e]; exact ho, hd⟩
  · obtain ⟨m, _, hl⟩ := I.loc
    obtain ⟨u, r, q⟩ := hl i x v e1 e2 (.inr k)
    rcases q with ⟨z, _⟩ | ⟨_, c, ec, o, ho, hd⟩
    · have z : X.env.scope.names.lookup x = some .local := z
      rcases k with k | k <;> rw [k] at z <;> cases z
    · exact ⟨u, c, o, r, ec, by rw [cellsG_at ec]; exact ho, hd⟩
theorem gOut_of (I : Inv X pins σ H s) : GOut (cellsG X s.heap) H := fun b o e => by
  obtain ⟨⟨x, hx⟩, _⟩ := cellsG_some e
  exact I.freeC x b hx
theorem gBase_of (I : Inv X pins σ H s) (hfn : ∀ x, X.fn x = true) : ∀ b o, cellsG X s.heap b = some o → X.base.get? b = none := fun b o e => by
  obtain ⟨⟨x, hx⟩, _⟩ := cellsG_some e
  exact Heap.get?_none_of_le (Nat.le_trans I.ok.bsz (I.ok.cab x b (hfn x) hx))
theorem gFrs_of (I : Inv X pins σ H s) (hfn : ∀ x, X.fn x = true) : ∀ b o, cellsG X s.heap b = some o → b ∉ frs X.stack := fun b o e hb => by
  obtain ⟨⟨x, hx⟩, _⟩ := cellsG_some e
  rcases List.mem_cons.mp (I.stkSub b hb) with z | z
  · exact I.cne x b hx z
  · obtain ⟨_, o, ho, _⟩ := I.ok.funs.mem z
    exact absurd (Nat.lt_of_lt_of_le (Heap.lt_size ho) (I.ok.cab x b (hfn x) hx)) (Nat.lt_irrefl _)
end
/-- what may be called with nothing, where R stands -/
structure Callee (P : Program) (w : World) (K : PySem.W.Frag) (mg : Str → Option Value) (base : Heap) (k : Nat) (f : Addr) (R : Hp → Prop) (tl : XK → Hp → VK → Prop) : Prop where
  fn : ∀ (H : Hp) (h : Heap), HOk P w H h → R H → PySem.W.FnAt f h
  run : ∀ (A : Around) (outer : List PySem.Env) (s : Shared) (H : Hp) (Q : VK) (E : XK), Room (k + 1) A → Env0 P w K mg base A outer s H → R H → tl E H Q → codeAny (model P w) A (.call (.ref f) ⟨[], []⟩) (CR (L2.CX P w) outer P w H s Q E) s
/-- x(), x a name that holds it -/
theorem pe_callee {Z : Cx} {k i : Nat} {f : Addr} {a : Str} {R : Hp → Prop} {tl : XK → Hp → VK → Prop} {W : WX} {E : XK} {p1 p2 : Pos} (C : Callee Z.prog Z.w Z.K Z.mg Z.base k f R tl) (tk : Takes Z W) (hW : ∀ cls d σ' H', E cls d H' → W cls d σ' H') (hr : Room (k + 1) Z.A)
    (hN : Z.N[i]? = some a) (hv : Vis Z.env.scope a) (hd : (a == ("__debug__" : Str)) = false := by decide) (hcd : (a == ("__classdict__" : Str)) = false := by decide) :
    PE Z (.Call (.Name a p1) [] [] p2) (fun σZ HZ Q => σZ[i]? = some (some (.ref f)) ∧ R HZ ∧ tl E HZ Q) := by
  refine ⟨fun pinsZ sZ σZ HZ Q IZ h => ?_⟩
  obtain ⟨hs, hR, ht⟩ := h
  refine wpAny_Call_Name_kw (thn ((pe_var (pos := p1) (i := i) hN hv hd hcd).run pinsZ sZ σZ HZ (fun v H1 => v = .ref f ∧ H1 = HZ) IZ ⟨.ref f, hs, rfl, rfl⟩) fun u s1 ⟨v, H1, I1, r1, q1⟩ => ?_)
  obtain ⟨ev, eH⟩ := q1
  subst ev
  rw [eH] at I1
  obtain rfl : u = Value.ref f := r1
  refine PySem.W.callWith_F0 (C.fn _ _ I1.hok hR) ?_
  have hx : Passes (L2.CX Z.prog Z.w) Z E := passes_call tk hW
  refine wpAny_call (codeAny_mono (C.run Z.A Z.stack s1 HZ Q E hr I1.env0 hR ht) fun r s' hq => ?_)
  cases r with
  | error e => exact hx pinsZ σZ HZ s1 e s' I1 hq
  | ok fl =>
    cases fl with
    | ret u => exact I1.after hq
    | next => exact False.elim hq
    | brk => exact False.elim hq
    | cont => exact False.elim hq
/-- the lambda made in X stands at f -/
def LamAt (X : Cx) (params : Arguments) (body : Expr) (scope : Scope) (dvs : List V) (f : Addr) (H : Hp) : Prop := ∃ (c' : Addr) (dV doc pm ctv : Value),
  H f = some (PinO f (PySem.W.kdv_obj "<lambda>" (X.env.qual ++ "<lambda>") params (.expr body) scope (cloFrom X.env.cells scope.names []) dV doc pm c' ctv)) ∧ H c' = some (LamX.CodeO c' (X.env.qual ++ "<lambda>")) ∧ DfIn H dV dvs
theorem LamAt.same {X : Cx} {params : Arguments} {body : Expr} {scope : Scope} {dvs : List V} {f : Addr} {H H' : Hp} (l : LamAt X params body scope dvs f H) (s : ∀ b o, H b = some o → H' b = some o) : LamAt X params body scope dvs f H' := by
  obtain ⟨c', dV, doc, pm, ctv, h1, h2, h3⟩ := l
  exact ⟨c', dV, doc, pm, ctv, s _ _ h1, s _ _ h2, h3.same s⟩
/-- its parameters are filled by its defaults -/
def LamBind (params : Arguments) (body : Expr) (scope : Scope) (dvs : List V) : Prop := ∀ (P : Program) (w : World) (H : Hp) (s : Shared) (q : Str) (cl : List (Str × Addr)) (dV doc pm cdv ctv : Value), HOk P w H s.heap → DfIn H dV dvs →
  ∃ binds, BindsTo s (PySem.W.kdv_fn "<lambda>" q params (.expr body) scope cl dV doc pm cdv ctv) ⟨[], []⟩ binds ∧ ∀ y ∈ binds, scope.names.lookup y.1 = some .local
theorem lamBind0 {params : Arguments} {body : Expr} {scope : Scope} (h : ∀ (q : Str) (cl : List (Str × Addr)) (doc pm cdv ctv : Value), bindArgs (PySem.W.kdv_fn "<lambda>" q params (.expr body) scope cl .none doc pm cdv ctv) ⟨[], []⟩ = pure []) : LamBind params body scope [] := by
  intro P w H s q cl dV doc pm cdv ctv hok d
  rcases d with ⟨_, rfl⟩ | ⟨n, _⟩
  · exact ⟨[], .of_eq (h q cl doc pm cdv ctv), fun y hy => by cases hy⟩
  · exact absurd rfl n
theorem lamBind1 {params : Arguments} {body : Expr} {scope : Scope} {x : Str} {d : V} (hl : scope.names.lookup x = some .local) (h : ∀ (T : Addr) (q : Str) (cl : List (Str × Addr)) (doc pm cdv ctv : Value), ∃ k, bindArgs (PySem.W.kdv_fn "<lambda>" q params (.expr body) scope cl (.ref T) doc pm cdv ctv) ⟨[], []⟩ = seqItems? (.ref T) >>= k ∧ ∀ v, k (some #[v]) = pure [(x, v)]) :
    LamBind params body scope [d] := by
  intro P w H s q cl dV doc pm cdv ctv hok dd
  rcases dd with ⟨z, _⟩ | ⟨_, T, rfl, hT⟩
  · cases z
  · obtain ⟨_, its, r, o, e, _, n, hd⟩ := hok T _ hT
    obtain ⟨k, h1, h2⟩ := h T q cl doc pm cdv ctv
    cases r with
    | cons r1 r2 =>
      cases r2
      exact ⟨_, .of_defaults rfl e hd h1 (h2 _), fun y hy => by rw [List.mem_singleton.mp hy]; exact hl⟩
section
variable {X : Cx} {σ : L2.St}
theorem lam_start3 {G : Addr → Option Obj} {A : Around} {outer : List PySem.Env} {E : XK} {scope : Scope} {f c' : Addr} {h₁ : Heap} {tk : Nat} {HZ : Hp} {s1 : Shared} {m : Str → Option Value} (C : ClosG X G σ) (L : LamD X.N X.env.scope scope) (e0 : Env0 X.prog X.w X.K X.mg X.base A outer s1 HZ) (hd : A.handled = none)
    (gs : ∀ b o, G b = some o → s1.heap.get? b = some o) (go : GOut G HZ) (hns : h₁.Ns s1.heap.objs.size m) (kp : ∀ b o, s1.heap.get? b = some o → h₁.get? b = some o) :
    Inv (LamX.lamCx X A outer s1 HZ E scope f c') [] σ HZ { s1 with heap := h₁, toks := tk } := by
  have hfree : ∀ y ∈ scope.names, y.2 = .free → ∃ c, X.env.cells.lookup y.1 = some c := fun y hy e => by
    rcases L.free y hy e with k | k
    · exact C.has _ (.inl k)
    · exact C.has _ (.inr k)
  have cm : ∀ {y c}, (cloFrom X.env.cells scope.names []).lookup y = some c → X.env.cells.lookup y = some c := fun {y c} e => by
    rcases cloFrom_mem (PySem.mem_of_lookup e) with hm | ⟨h1, h2⟩
    · cases hm
    · obtain ⟨c1, hc⟩ := hfree _ h1 rfl
      have hc : X.env.cells.lookup y = some c1 := hc
      have e2 : c = c1 := by
        rw [h2, hc] <;> rfl
      rw [e2]
      exact hc
  have look : ∀ {y}, scope.names.lookup y = some .free → ∃ c, (cloFrom X.env.cells scope.names []).lookup y = some c := fun {y} hl => by
    have hy : (y, NameKind.free) ∈ scope.names := PySem.mem_of_lookup hl
    exact mem_lookup (cloFrom_has (cells := X.env.cells) (acc := []) hy)
  have noA : ∀ b : Addr, b ∉ (LamX.lamCx X A outer s1 HZ E scope f c').ex := fun b z => absurd (show b ∈ ([] : List Addr) from z) (by simp)
  refine ⟨⟨e0.mod, L.kind, rfl, rfl, Nat.le_refl _, fun y z c e1 e2 => C.inj y z c (cm e1) (cm e2), fun y hy => ?_, fun y c z _ => ?_, fun _ => hd, Around.frames_deeper e0.frames, .inr ⟨rfl, rfl⟩, fun b z => absurd z (noA b), e0.bs, e0.bsz, fun b _ _ => noA b,
      fun b z => absurd z (noA b), e0.funs, e0.frf⟩,
    rfl, e0.bare, Un.kept kp, ⟨_, hns, fun i y v e1 e2 e3 => ?_⟩, fun y c e => ?_, e0.hok.fresh (Nat.le_refl _), fun y c e => ?_, fun q hq => absurd (show q ∈ ([] : List (Addr × Obj)) ++ [] from hq) (by simp), e0.hok.kept kp, C.len⟩
  · have hy : scope.names.lookup y = some .cell ∨ scope.names.lookup y = some .free := hy
    rcases hy with hy | hy
    · exact absurd rfl (L.own _ (PySem.mem_of_lookup hy)).1
    · exact look hy
  · have z : false = true := z
    cases z
  · have e3 : Vis scope y := e3
    rcases e3 with k | k | k
    · exact absurd (List.mem_of_getElem? e1) ((L.own _ (PySem.mem_of_lookup k)).2 rfl)
    · exact absurd rfl (L.own _ (PySem.mem_of_lookup k)).1
    · obtain ⟨u, c, o, r, ec, hG, hdt⟩ := C.loc i y v e1 e2 (L.free _ (PySem.mem_of_lookup k) rfl)
      obtain ⟨c2, h2⟩ := look k
      have c1 := cm h2
      rw [ec] at c1
      cases c1
      exact ⟨u, r, .inr ⟨.inr k, c, h2, o, kp _ _ (gs _ _ hG), hdt⟩⟩
  · obtain ⟨o, v, hG, hdt⟩ := C.cell y c (cm e)
    exact ⟨v, o, kp _ _ (gs _ _ hG), hdt⟩
  · obtain ⟨o, v, hG, _⟩ := C.cell y c (cm e)
    exact go _ _ hG
/-- a lambda may be called by anyone who keeps its cells -/
theorem callee_lam {G : Addr → Option Obj} {params : Arguments} {body : Expr} {scope : Scope} {dvs : List V} {f : Addr} {k : Nat} {t : XK → TE} (C : ClosG X G σ) (L : LamD X.N X.env.scope scope) (hb : LamBind params body scope dvs)
    (hbody : ∀ (A : Around) (outer : List PySem.Env) (s : Shared) (H : Hp) (E : XK) (f c' : Addr), Room k (A.deeper (LamX.lamEnv X scope s.heap.objs.size f c')) → PE (LamX.lamCx X A outer s H E scope f c') body (t E)) :
    Callee X.prog X.w X.K X.mg X.base k f (fun H => GIn G H ∧ LamAt X params body scope dvs f H) (fun E H Q => t (fun c d H' => GOut G H' → E c d (addG H' G)) σ (cutG H G) (fun v H' => GOut G H' → Q v (addG H' G))) := by
  refine ⟨fun H h hok hR => ?_, fun A outer s H Q E hr e0 hR ht => ?_⟩
  · obtain ⟨_, c', dV, doc, pm, ctv, h1, _⟩ := hR
    exact ⟨_, _, _, _, pinO_at hok h1⟩
  · obtain ⟨gi, c', dV, doc, pm, ctv, h1, h2, h3⟩ := hR
    have of1 := pinO_at e0.hok h1
    have gf : ∀ b o, G b = some o → b ∉ frs outer := fun b o e hb => by
      have z := e0.frf b hb
      rw [gi b o e] at z
      cases z
    have gs : ∀ b o, G b = some o → s.heap.get? b = some o := fun b o e => pinO_at e0.hok (gi b o e)
    have lim : s.heap.NoLimit := e0.mod.nolimit.keeps fun b o e => (e0.bs b o e).1
    obtain ⟨⟨oc, vs, t0, hoc, hdc, hvc⟩, _, _⟩ := e0.hok c' _ h2
    obtain ⟨binds, hbd, hloc⟩ := hb X.prog X.w H s (X.env.qual ++ "<lambda>") (cloFrom X.env.cells scope.names []) dV doc pm (.ref c') ctv e0.hok h3
    refine codeAny_mono ?_ fun r s' c => cr_cut (Q := Q) (E := E) gi e0.hok gf c
    refine PySem.W.kla_callFunE hr.depth of1 rfl L.co L.gen rfl ⟨c', oc, vs, t0, rfl, hoc, hdc, hvc⟩ (hbd _ _ _ _ ?_)
    refine wpAny_newFunctionEnv (fun y hy => (L.own y hy).1) hloc (fun h₁ hns hsb => ⟨lim.fresh _ hsb, ?_⟩) L.kind
    show codeAny _ _ (.expr body (LamX.lamEnv X scope s.heap.objs.size f c')) _ _
    have kp : ∀ b o, s.heap.get? b = some o → h₁.get? b = some o := fun b o e => hsb.extBut b o (Nat.ne_of_lt (Heap.lt_size e)) (Heap.get?_push_of_some _ e)
    have J : Inv (LamX.lamCx X A outer s (cutG H G) (fun c d H' => GOut G H' → E c d (addG H' G)) scope f c') [] σ (cutG H G) { s with heap := h₁, toks := s.toks + binds.length } := lam_start3 C L (env0_cut e0 gi) hr.hd gs gout_cut hns kp
    refine PySem.W.kla_codeExpr (wpAny_mono ((hbody _ _ s (cutG H G) _ f c' (hr.deeper _)).run [] _ _ _ _ J ht) (fun v s' hq => ?_) fun e s' hq => hq)
    obtain ⟨w', H', J', rv, q⟩ := hq
    exact ⟨w', H', J'.os, J'.bare, J'.base, J'.hok, rv, q⟩
end
end SC
set_option maxRecDepth 100000
set_option maxHeartbeats 2000000
/-! # Part Gj: making such lambdas; calling a def that will call them -/
namespace SC
open PySem PySem.Spec PyProof.Rows L2 TL
section
variable {X : Cx} {pins : List (Addr × Obj)} {σ : L2.St} {H : Hp} {s : Shared}
theorem mk_core {T : List (Addr × Str)} {c P : Addr} {params : Arguments} {body : Expr} {scope : Scope} {pos : Pos} {dV : Value} {fl : Nat} {E : Value → Shared → Prop} {Q : Value → Shared → Prop} (I : Inv X pins σ H s) (TB : LamX.TabB X.base X.mg c P) (hcode : X.env.code = .ref c)
    (hm : (P, X.env.qual ++ "<lambda>") ∈ T) (hu : ∀ p ∈ T, p.1 = P → p.2 = X.env.qual ++ "<lambda>") (hT : LamX.Tabs T H) (hfree : ∀ y ∈ scope.names, y.2 = .free → ∃ c, X.env.cells.lookup y.1 = some c)
    (h : ∀ (f c' : Addr) (doc pm ctv : Value) (H1 : Hp) (s' : Shared), Inv X pins σ H1 s' → LamX.ExtN H H1 → LamX.Tabs T H1 → H f = none →
      H1 f = some (PinO f (PySem.W.kdv_obj "<lambda>" (X.env.qual ++ "<lambda>") params (.expr body) scope (cloFrom X.env.cells scope.names []) dV doc pm c' ctv)) → H1 c' = some (LamX.CodeO c' (X.env.qual ++ "<lambda>")) → Q (.ref f) s') :
    wpAny (model X.prog X.w) X.A (makeTail "<lambda>" (X.env.qual ++ "<lambda>") params (.expr body) scope X.env dV .none none pos fl) Q E s := by
  obtain ⟨ps, hP, ht, ha⟩ := hT _ hm
  have bP : s.heap.BuiltinsAt X.mg P := TB.bm.keeps I.bk
  have hP' : s.heap.get? P = some { cls := .none, data := .fields ps } := I.hok P _ hP
  cases hc : codeAmong pos ps.toList with
  | none =>
    refine PySem.W.kdv_makeTail (mg := X.mg) (c := c) (P := P) (ps := ps) (closure_ok hfree) I.ok.glob (I.mod.glob.keeps I.bk) hcode (TB.code.keeps I.bk) hP' ht hc TB.gP bP fun c' ctv doc h' tk hx hge hlt hrec htb => ?_
    obtain ⟨c2, oc, vs, t, e2, hoc, hd, hv⟩ := hrec
    cases e2
    have hsz : s.heap.objs.size ≤ h'.objs.size := Nat.le_trans hge (Nat.le_of_lt hlt)
    have nC : H c' = none := I.hok.fresh hge
    have I1 := LamX.inv_table (t' := tk) (more := #[rawInt pos.line, rawInt pos.col, .ref c']) (h' := h') I hP hx htb hge ⟨oc, vs, t, hoc, hd, hv⟩
    have hE : LamX.ExtN H (upd (upd H P (.tbl (ps ++ #[rawInt pos.line, rawInt pos.col, .ref c']))) c' (LamX.CodeO c' (X.env.qual ++ "<lambda>"))) := fun b o e n => by
      rw [upd_ne (ne_of_none e nC), upd_ne (fun z => n ps (Option.some.inj (e.symm.trans (by rw [z]; exact hP))))]
      exact e
    have eL : (ps ++ #[rawInt pos.line, rawInt pos.col, .ref c']).toList = ps.toList ++ [rawInt pos.line, rawInt pos.col, .ref c'] := by simp
    have T1 : LamX.Tabs T (upd (upd H P (.tbl (ps ++ #[rawInt pos.line, rawInt pos.col, .ref c']))) c' (LamX.CodeO c' (X.env.qual ++ "<lambda>"))) := fun p hp => by
      by_cases hb : p.1 = P
      · rw [hu p hp hb, hb]
        refine ⟨_, by rw [upd_ne (ne_of_none hP nC), upd_same], by rw [eL]; exact PySem.TriplesOk_snoc _ _ _ _ ht, fun p' cv hcv => ?_⟩
        rw [eL] at hcv
        rcases LamX.among_app _ ht hcv with z | z
        · obtain ⟨c0, e1, e2⟩ := ha p' cv z
          exact ⟨c0, e1, hE _ _ e2 LamX.codeO_ne⟩
        · exact ⟨c', z, upd_same⟩
      · obtain ⟨ps', a1, a2, a3⟩ := hT p hp
        refine ⟨ps', by rw [upd_ne (ne_of_none a1 nC), upd_ne hb]; exact a1, a2, fun p' cv hcv => ?_⟩
        obtain ⟨c0, e1, e2⟩ := a3 p' cv hcv
        exact ⟨c0, e1, hE _ _ e2 LamX.codeO_ne⟩
    have nf := I1.hok.fresh (Nat.le_refl h'.objs.size)
    have sm : ∀ b o, upd (upd H P (.tbl (ps ++ #[rawInt pos.line, rawInt pos.col, .ref c']))) c' (LamX.CodeO c' (X.env.qual ++ "<lambda>")) b = some o → upd (upd (upd H P (.tbl (ps ++ #[rawInt pos.line, rawInt pos.col, .ref c']))) c' (LamX.CodeO c' (X.env.qual ++ "<lambda>"))) h'.objs.size (PinO h'.objs.size (PySem.W.kdv_obj "<lambda>" (X.env.qual ++ "<lambda>") params (.expr body) scope (cloFrom X.env.cells scope.names []) dV doc ((X.mg "__name__").getD .none) c' ctv)) b = some o := fun b o e => by
      rw [upd_ne (ne_of_none e nf)]
      exact e
    refine h h'.objs.size c' doc ((X.mg "__name__").getD .none) ctv _ _ (I1.laid (t' := tk) (fun b o e => Heap.get?_push_of_some _ e) (Nat.le_refl _) (pinO_ok (Heap.get?_push_size _ rfl))) (hE.trans (.of sm)) (T1.ext sm) (I.hok.fresh hsz) upd_same (sm _ _ upd_same)
  | some cv =>
    obtain ⟨c', e, hco⟩ := ha pos cv hc
    subst e
    refine PySem.W.kdv_makeTailHit (mg := X.mg) (c := c) (P := P) (ps := ps) (closure_ok hfree) I.ok.glob (I.mod.glob.keeps I.bk) hcode (TB.code.keeps I.bk) hP' ht hc bP fun ctv doc h' tk hx hsz => ?_
    have nf := I.hok.fresh hsz
    have I1 : Inv X pins σ H { s with heap := h', toks := tk } := I.kept hx
    have sm : ∀ b o, H b = some o → upd H h'.objs.size (PinO h'.objs.size (PySem.W.kdv_obj "<lambda>" (X.env.qual ++ "<lambda>") params (.expr body) scope (cloFrom X.env.cells scope.names []) dV doc ((X.mg "__name__").getD .none) c' ctv)) b = some o := fun b o e => by
      rw [upd_ne (ne_of_none e nf)]
      exact e
    exact h h'.objs.size c' doc ((X.mg "__name__").getD .none) ctv _ _ (I1.laid (t' := tk) (fun b o e => Heap.get?_push_of_some _ e) (Nat.le_refl _) (pinO_ok (Heap.get?_push_size _ rfl))) (.of sm) (hT.ext sm) nf upd_same (sm _ _ hco)
end
/-- lambda ..: body, made in X -/
def tMkL (X : Cx) (T : List (Addr × Str)) (params : Arguments) (body : Expr) (scope : Scope) (dvs : List V) : TE := fun _ H Q => LamX.Tabs T H ∧ ∀ (f : Addr) (H1 : Hp), H f = none → LamX.ExtN H H1 → LamX.Tabs T H1 → LamAt X params body scope dvs f H1 → Q (.ref f) H1
section
variable {X : Cx} {T : List (Addr × Str)} {c P : Addr} {params : Arguments} {body : Expr} {scope : Scope} {pos : Pos}
theorem LamD.has {N : List Str} (L : LamD N X.env.scope scope) (ok : X.Ok) : ∀ y ∈ scope.names, y.2 = .free → ∃ c, X.env.cells.lookup y.1 = some c := fun y hy e => by
  rcases L.free y hy e with k | k
  · exact ok.has _ (.inl k)
  · exact ok.has _ (.inr k)
theorem pe_mkL0 {N : List Str} (TB : LamX.TabB X.base X.mg c P) (hcode : X.env.code = .ref c) (hm : (P, X.env.qual ++ "<lambda>") ∈ T) (hu : ∀ p ∈ T, p.1 = P → p.2 = X.env.qual ++ "<lambda>") (L : LamD N X.env.scope scope) (hdef : defaultsOf params X.env = ([], [])) :
    PE X (.Lambda params body scope pos) (tMkL X T params body scope []) := by
  refine ⟨fun pins s σ H Q I h => ?_⟩
  obtain ⟨hT, h⟩ := h
  refine PySem.W.kla_eval hdef ?_
  rw [makeFunction_eq]
  simp only [List.zip_nil_right, List.filterMap_nil, List.isEmpty_nil, if_true, pure_bind]
  refine mk_core I TB hcode hm hu hT (L.has I.ok) fun f c' doc pm ctv H1 s' I1 eN T1 nf hf hc => ?_
  exact ⟨.ref f, H1, I1, rfl, h f H1 nf eN T1 ⟨c', _, doc, pm, ctv, hf, hc, .inl ⟨rfl, rfl⟩⟩⟩
theorem pe_mkL1 {N : List Str} {n : Int} {e : Expr} (TB : LamX.TabB X.base X.mg c P) (hcode : X.env.code = .ref c) (hm : (P, X.env.qual ++ "<lambda>") ∈ T) (hu : ∀ p ∈ T, p.1 = P → p.2 = X.env.qual ++ "<lambda>") (L : LamD N X.env.scope scope) (hd : params.defaults = [e]) (hk : params.kw_defaults = []) (he : PE X e (tC (.int n))) :
    PE X (.Lambda params body scope pos) (tMkL X T params body scope [.int n]) := by
  refine ⟨fun pins s σ H Q I h => ?_⟩
  obtain ⟨hT, h⟩ := h
  refine PySem.W.kdv_lam (by rw [hd]; rfl) hk ?_
  rw [hd]
  refine PySem.W.kdv_all1 (thn (he.run pins s σ H (fun v H1 => v = .int n ∧ H1 = H) I ⟨rfl, rfl⟩) fun u s1 ⟨v, H0, I1, r1, ev, eH⟩ => ?_)
  subst ev eH
  refine PySem.W.kdv_all0 ?_
  rw [makeFunction_eq]
  simp only [List.zip_nil_right, List.filterMap_nil, List.isEmpty_nil, List.isEmpty_cons, Bool.false_eq_true, if_false, if_true, pure_bind]
  refine wpAny_bind (wpAny_newTextTuple ?_)
  have nt := I1.hok.fresh (Nat.le_refl s1.heap.objs.size)
  have I2 := I1.laid (t' := s1.toks) (o := .tup [.int n]) (fun b o e => Heap.get?_push_of_some { cls := .type "tuple", data := .seq [u].toArray } e) (Nat.le_refl _) ⟨by show 1 ≤ sizeLine; decide, [u], .cons r1 .nil, _, Heap.get?_push_size _ rfl, rfl, _, rfl⟩
  have sm : ∀ b o, H0 b = some o → upd H0 s1.heap.objs.size (.tup [.int n]) b = some o := fun b o e => by
    rw [upd_ne (ne_of_none e nt)]
    exact e
  refine mk_core I2 TB hcode hm hu (hT.ext sm) (L.has I.ok) fun f c' doc pm ctv H1 s' I3 eN T1 nf hf hc => ?_
  have n1 : H0 f = none := by
    cases q : H0 f with
    | none => rfl
    | some o =>
      rw [sm _ _ q] at nf
      cases nf
  exact ⟨.ref f, H1, I3, rfl, h f H1 n1 ((LamX.ExtN.of sm).trans eN) T1 ⟨c', _, doc, pm, ctv, hf, hc, .inr ⟨by simp, _, rfl, eN _ _ upd_same fun ps z => by cases z⟩⟩⟩
end
/-- a lambda made in X, and what its body does -/
def LamOk (X : Cx) (k : Nat) (f : Addr) (H : Hp) (t : XK → TE) : Prop := ∃ (params : Arguments) (body : Expr) (scope : Scope) (dvs : List V), LamAt X params body scope dvs f H ∧ LamD X.N X.env.scope scope ∧ LamBind params body scope dvs ∧
  ∀ (A : Around) (outer : List PySem.Env) (s : Shared) (H : Hp) (E : XK) (f c' : Addr), Room k (A.deeper (LamX.lamEnv X scope s.heap.objs.size f c')) → PE (LamX.lamCx X A outer s H E scope f c') body (t E)
theorem LamOk.same {X : Cx} {k : Nat} {f : Addr} {H H' : Hp} {t : XK → TE} (l : LamOk X k f H t) (s : ∀ b o, H b = some o → H' b = some o) : LamOk X k f H' t := by
  obtain ⟨a, b, c, d, h1, h2⟩ := l
  exact ⟨a, b, c, d, h1.same s, h2⟩
/-- lambda ..: body, by what the body does -/
def tMkT (X : Cx) (T : List (Addr × Str)) (k : Nat) (t : XK → TE) : TE := fun _ H Q => LamX.Tabs T H ∧ ∀ (f : Addr) (H1 : Hp), H f = none → LamX.ExtN H H1 → LamX.Tabs T H1 → LamOk X k f H1 t → Q (.ref f) H1
section
variable {X : Cx} {T : List (Addr × Str)} {c P : Addr} {params : Arguments} {body : Expr} {scope : Scope} {pos : Pos} {k : Nat} {t : XK → TE}
theorem pe_mkT0 (TB : LamX.TabB X.base X.mg c P) (hcode : X.env.code = .ref c) (hm : (P, X.env.qual ++ "<lambda>") ∈ T) (hu : ∀ p ∈ T, p.1 = P → p.2 = X.env.qual ++ "<lambda>") (L : LamD X.N X.env.scope scope) (hdef : defaultsOf params X.env = ([], [])) (hb : LamBind params body scope [])
    (hbody : ∀ (A : Around) (outer : List PySem.Env) (s : Shared) (H : Hp) (E : XK) (f c' : Addr), Room k (A.deeper (LamX.lamEnv X scope s.heap.objs.size f c')) → PE (LamX.lamCx X A outer s H E scope f c') body (t E)) :
    PE X (.Lambda params body scope pos) (tMkT X T k t) :=
  ⟨fun pins s σ H Q I h => (pe_mkL0 TB hcode hm hu L hdef).run pins s σ H Q I ⟨h.1, fun f H1 a b c d => h.2 f H1 a b c ⟨_, _, _, _, d, L, hb, hbody⟩⟩⟩
theorem pe_mkT1 {n : Int} {e : Expr} (TB : LamX.TabB X.base X.mg c P) (hcode : X.env.code = .ref c) (hm : (P, X.env.qual ++ "<lambda>") ∈ T) (hu : ∀ p ∈ T, p.1 = P → p.2 = X.env.qual ++ "<lambda>") (L : LamD X.N X.env.scope scope) (hd : params.defaults = [e]) (hk : params.kw_defaults = []) (he : PE X e (tC (.int n))) (hb : LamBind params body scope [.int n])
    (hbody : ∀ (A : Around) (outer : List PySem.Env) (s : Shared) (H : Hp) (E : XK) (f c' : Addr), Room k (A.deeper (LamX.lamEnv X scope s.heap.objs.size f c')) → PE (LamX.lamCx X A outer s H E scope f c') body (t E)) :
    PE X (.Lambda params body scope pos) (tMkT X T k t) :=
  ⟨fun pins s σ H Q I h => (pe_mkL1 TB hcode hm hu L hd hk he).run pins s σ H Q I ⟨h.1, fun f H1 a b c d => h.2 f H1 a b c ⟨_, _, _, _, d, L, hb, hbody⟩⟩⟩
end
theorem cut_sub {H : Hp} {G : Addr → Option Obj} {b : Addr} {o : HO} (e : cutG H G b = some o) : H b = some o ∧ G b = none := by
  cases q : G b with
  | none => rw [cutG_none q] at e; exact ⟨e, rfl⟩
  | some u => rw [cutG_some q] at e; cases e
/-- x(e, ..) of a def that will call our lambdas: the cells that they captured are tracked while it runs -/
def tCallG (X : Cx) (sp : Sp) (t : TA) : TE := fun σ H Q => t σ H fun vs H1 => ∀ G, ClosG X G σ → GOut G H1 → sp vs (addG H1 G) (fun v H' => GIn G H' ∧ Q v (cutG H' G)) E0
section
variable {X : Cx} {k : Nat} {f : Addr} {fd : FuncData} {ps : List Str} {sp : Sp} {x : Str} {p pos : Pos} {e : Expr} {es : List Expr} {t : TA}
theorem pe_callG (F : FnOk X.prog X.w X.K X.mg X.base CX0 k f fd ps sp) (hr : Room k X.A) (hg : Gl X x) (hm : X.mg x = some (.ref f)) (hk : PySem.W.keepIn X.K (.ref f) = true) (hb : Binds X.K fd ps []) (hfn : ∀ x, X.fn x = true)
    (ha : PA X (e :: es) t) (hdb : (x == ("__debug__" : Str)) = false := by decide) (he : starEach (e :: es) X.env = (false, eval e X.env) :: starEach es X.env := by rfl) (hpl : (backTo pos (starEach es X.env)).any (·.1) = false := by rfl) :
    PE X (.Call (.Name x p) (e :: es) [] pos) (tCallG X sp t) := by
  refine ⟨fun pins s σ H Q I h => ?_⟩
  refine wpAny_Call_Name_kw (ld_glob I hg hm ?_ hdb)
  refine PySem.W.callWith_K (h₀ := X.base) I.ok.mod.kin hk (thn (ha.run pos pins s σ H _ I h) fun us s1 ⟨vs, H1, I1, r, q⟩ => ⟨I1.kIn, ?_⟩) he hpl
  have q1 := q _ (closG_of I1) (gOut_of I1)
  have gs : ∀ b o, cellsG X s1.heap b = some o → s1.heap.get? b = some o := fun b o z => (cellsG_some z).2
  have hl : us.length = ps.length := by rw [← r.length]; exact F.len _ _ _ _ q1
  refine wpAny_call (codeAny_mono (F.run X.A X.stack s1 _ ⟨us, []⟩ us vs _ _ hr (env0_add I1.env0 (gOut_of I1) gs (gBase_of I1 hfn) (gFrs_of I1 hfn)) ?_ r q1) fun r s' hq => ?_)
  · have z := hb s1 us I1.kIn (by rw [List.append_nil]; exact hl)
    rw [List.append_nil] at z
    exact z
  · have hq := cr_add (gOut_of I1) gs (gFrs_of I1 hfn) hq
    cases r with
    | error e => exact (show False from hq).elim
    | ok fl =>
      cases fl with
      | ret u => exact I1.after hq
      | next => exact False.elim hq
      | brk => exact False.elim hq
      | cont => exact False.elim hq
end
end SC
set_option maxRecDepth 100000
set_option maxHeartbeats 2000000
/-! # Part Nd: dicts whose keys are None, ints and texts -/
namespace SC
open PySem PySem.Spec PyProof.Rows L2 TL
/-- such a dict at a -/
def NdO (P : Program) (w : World) (a : Addr) (kvs : List (Option L2.Key × V)) : HO := .ext fun h => kvs.length ≤ sizeLine ∧ (a == sysModules) = false ∧ ∃ vs, KV kvs vs ∧ h.DictOf (noneKind P w) a vs
def nV : Option L2.Key → V
  | none => .non
  | some k => kV k
theorem nV_is {P : Program} {w : World} {k : Option L2.Key} {u : Value} (r : RelV (nV k) u) : (noneKind P w).is k u = true := by
  cases k with
  | none =>
    have e : u = .none := r
    rw [e]
    rfl
  | some k => exact kV_is (P := P) (w := w) r
section
variable {P : Program} {w : World} {H : Hp} {h : Heap} {a : Addr} {kvs : List (Option L2.Key × V)}
theorem nd_ok (z : kvs.length ≤ sizeLine) (hd : (a == sysModules) = false) {vs : List (Option L2.Key × Value)} (rel : KV kvs vs) (dd : h.DictOf (noneKind P w) a vs) : ObjOk P w H h a (NdO P w a kvs) := by
  refine ⟨⟨z, hd, vs, rel, dd⟩, ?_, fun h1 h2 ⟨z, y, vs, r, ob, es, ep, e, c⟩ st => ⟨z, y, vs, r, ob, es, ep, st _ e, c⟩⟩
  obtain ⟨ob, es, ep, e, c⟩ := dd
  exact ⟨ob, e⟩
theorem nd_of (ok : HOk P w H h) (e : H a = some (NdO P w a kvs)) : kvs.length ≤ sizeLine ∧ (a == sysModules) = false ∧ ∃ vs, KV kvs vs ∧ h.DictOf (noneKind P w) a vs := (ok a _ e).1
end
section
variable {X : Cx} {pins : List (Addr × Obj)} {σ : L2.St} {H : Hp} {s : Shared} {a : Addr} {kvs : List (Option L2.Key × V)} {k : Option L2.Key} {y v d : V} {u r : Value} {A : Around} {E : Value → Shared → Prop}
/-- d[k] = v -/
theorem nd_setItem {Q : Unit → Shared → Prop} (I : Inv X pins σ H s) (e : H a = some (NdO X.prog X.w a kvs)) (l : kvs.length < sizeLine) (ry : RelV (nV k) u) (rv : RelV v r) (h : ∀ s', Inv X pins σ (upd H a (NdO X.prog X.w a (putK kvs k v))) s' → Q () s') :
    wpAny (model X.prog X.w) A (setItem (.ref a) u r) Q E s := by
  obtain ⟨z, hd, vs, rel, dd⟩ := nd_of I.hok e
  have hz : vs.length ≤ sizeLine := by rw [← rel.length]; exact z
  have hl : (putK kvs k v).length ≤ sizeLine := by have := length_putK kvs k v; omega
  refine wpAny_setItem_pairs (knd := noneKind X.prog X.w) (hsz := hz) (nV_is ry) dd fun h' dd' hs => h _ ?_
  have he : ∃ q, h'.get? a = some q := let ⟨q, _, _, hq, _⟩ := dd'; ⟨q, hq⟩
  exact I.write (x := a) (e := a) (by rw [e]; trivial) (.inl rfl) (fun b q hb z => (hs.2 b hb).trans z) he (nd_ok hl hd (rel.put k rv) dd')
/-- d.get(k, x) -/
theorem nd_get2 {Q : Value → Shared → Prop} (I : Inv X pins σ H s) (e : H a = some (NdO X.prog X.w a kvs)) (ry : RelV (nV k) u) (rd : RelV d r) (h : ∀ w' s', Inv X pins σ H s' → RelV ((valV kvs k).getD d) w' → Q w' s') :
    wpAny (model X.prog X.w) A (call (.builtin "dict.get") [.ref a, u, r]) Q E s := by
  obtain ⟨z, hd, vs, rel, dd⟩ := nd_of I.hok e
  refine call_meetsIn PySem.F.slot_dict_get dd.typeIs PySem.F.entry_dict_get (PySem.F.args_dict_get_3 _ _ _) (meets_dict_get_default (noneKind X.prog X.w) a (nV_is ry) hd r) ⟨_, dd.mapOf, h _ _ (I.tok _) ?_⟩
  exact (rel.val k).getD rd
end
/-- {} -/
def tNdNew (X : Cx) : TE := fun _ H Q => ∀ p, H p = none → Q (.ref p) (upd H p (NdO X.prog X.w p []))
def tNdGet2 (X : Cx) (td ty tx : TE) : TE := fun σ H Q => td σ H fun x H1 => ∃ a, x = .ref a ∧ (∃ kvs, H1 a = some (NdO X.prog X.w a kvs)) ∧ ty σ H1 fun y H2 => tx σ H2 fun z H3 => ∃ kvs k, H3 a = some (NdO X.prog X.w a kvs) ∧ y = nV k ∧ Q ((valV kvs k).getD z) H3
def sNdPut (X : Cx) (td ty tv : TE) : TS := fun D σ H => tv σ H fun v H1 => td σ H1 fun x H2 => ty σ H2 fun y H3 => ∃ a kvs k, x = .ref a ∧ H3 a = some (NdO X.prog X.w a kvs) ∧ y = nV k ∧ kvs.length < sizeLine ∧ D.nx σ (upd H3 a (NdO X.prog X.w a (putK kvs k v)))
section
variable {X : Cx} {o e f i value : Expr} {apos cpos pos pos' : Pos} {td ty tx tv : TE}
theorem pe_ndNew {ps : Pos} : PE X (.Dict [] [] ps) (tNdNew X) := ⟨fun pins s σ H Q I h =>
  wpAny_Dict_empty ⟨.ref s.heap.objs.size, _, I.laid (a := s.heap.objs.size) (o := NdO X.prog X.w s.heap.objs.size []) (t' := s.toks) (fun _ _ q => Heap.get?_push_of_some _ q) (Nat.le_refl _) (nd_ok (by decide) (beq_false_of_ne (Nat.ne_of_gt I.big)) .nil (Heap.DictOf.new _)), rfl, h _ (I.hok.fresh (Nat.le_refl _))⟩⟩
theorem pe_ndget2 (ho : PE X o td) (he : PE X e ty) (hf : PE X f tx) (m : M2 X o "get" apos e f cpos) : PE X (.Call (.Attribute o "get" apos) [e, f] [] cpos) (tNdGet2 X td ty tx) := by
  refine ⟨fun pins s σ H Q I h => ?_⟩
  refine wpAny_Call_method m.base m.few m.line PySem.F.plainAttrs_dict PySem.F.slot_dict_get PySem.F.type_dict_get (thn (ho.run pins s σ H _ I h) fun u s1 ⟨x, H1, I1, rx, a, ex, ⟨kvs0, d0⟩, q1⟩ => ?_)
  subst ex
  obtain rfl : u = Value.ref a := rx
  obtain ⟨_, _, vs, _, dd⟩ := nd_of I1.hok d0
  have ty1 := dd.typeIs
  refine ⟨ty1, fun b q => ?_, ?_⟩
  · cases q
    obtain ⟨ob, _, _, h1, h2, _⟩ := dd
    exact ⟨ob, h1, h2.2.1⟩
  rw [m.trees]
  refine Calls.callWith_builtin rfl (Calls.evalArgs_plain (Calls.spliced_cons (thn (he.run pins s1 σ H1 _ I1 q1) fun iv s2 ⟨y, H2, I2, ry, q2⟩ =>
    Calls.spliced_cons (thn (hf.run pins s2 σ H2 _ I2 q2) fun fv s3 ⟨z, H3, I3, rz, kvs, k, g, ey, q3⟩ => Calls.spliced_nil ?_))))
  subst ey
  exact nd_get2 I3 g ry rz fun w' s4 I4 rw' => ⟨_, H3, I4, rw', q3⟩
theorem ps_ndput (ho : PE X o td) (hi : PE X i ty) (hv : PE X value tv) (hs : swapsWith value (some (.Subscript o i pos')) pos.line X.env = pure false) :
    PS X (.Assign [.Subscript o i pos'] value pos) (sNdPut X td ty tv) := by
  refine ⟨fun pins s σ H D I h => ?_⟩
  refine wpAny_Assign_Subscript (thn (hv.run pins s σ H _ I h) fun r s1 ⟨v, H1, I1, rv, q1⟩ => thn (ho.run pins s1 σ H1 _ I1 q1) fun u s2 ⟨x, H2, I2, rx, q2⟩ => thn (hi.run pins s2 σ H2 _ I2 q2) fun iv s3 ⟨y, H3, I3, ry, a, kvs, k, ex, g, ey, l, q3⟩ => ?_) hs
  subst ex ey
  obtain rfl : u = Value.ref a := rx
  exact nd_setItem I3 g l ry rv fun s4 I4 => ⟨σ, _, I4, q3⟩
end
end SC
set_option maxRecDepth 100000
set_option maxHeartbeats 2000000
/-! # Part Nk: dicts whose keys are nested tuples -/
namespace SC
open PySem PySem.Spec PyProof.Rows L2 TL
/-- a tuple, its object known or not -/
abbrev TupO := {o : HO // (∃ xs, o = .tup xs) ∨ ∃ ob xs, o = .frz ob (.tup xs)}
theorem TupO.noext (t : TupO) {φ : Heap → Prop} (h : some (HO.ext φ) = some t.1) : False := by
  obtain ⟨o, h1⟩ := t
  cases h
  rcases h1 with ⟨xs, e⟩ | ⟨ob, xs, e⟩ <;> cases e
theorem TupO.nolst (t : TupO) {xs : List V} (h : some (HO.lst xs) = some t.1) : False := by
  obtain ⟨o, h1⟩ := t
  cases h
  rcases h1 with ⟨xs, e⟩ | ⟨ob, xs, e⟩ <;> cases e
mutual
/-- the value v is the key k -/
inductive NK (H : Hp) : NestedKey → V → Prop
  | non : NK H .none .non
  | int {i : Int} : NK H (.num i) (.int i)
  | str {x : Str} : NK H (.text x) (.str x)
  | tup {a : Addr} {vs : List V} {ks : List NestedKey} : H a = some (.tup vs) → NKs H ks vs → NK H (.tup ks) (.ref a)
  | frz {a : Addr} {o : Obj} {vs : List V} {ks : List NestedKey} : H a = some (.frz o (.tup vs)) → NKs H ks vs → NK H (.tup ks) (.ref a)
inductive NKs (H : Hp) : List NestedKey → List V → Prop
  | nil : NKs H [] []
  | cons {k : NestedKey} {v : V} {ks : List NestedKey} {vs : List V} : NK H k v → NKs H ks vs → NKs H (k :: ks) (v :: vs)
end
mutual
theorem NK.keep {H H' : Hp} (ht : ∀ (b : Addr) (ys : TupO), H b = some ys.1 → H' b = some ys.1) : ∀ {k : NestedKey} {v : V}, NK H k v → NK H' k v
  | _, _, .non => .non
  | _, _, .int => .int
  | _, _, .str => .str
  | _, _, .tup e h => .tup (ht _ ⟨_, .inl ⟨_, rfl⟩⟩ e) (NKs.keep ht h)
  | _, _, .frz e h => .frz (ht _ ⟨_, .inr ⟨_, _, rfl⟩⟩ e) (NKs.keep ht h)
theorem NKs.keep {H H' : Hp} (ht : ∀ (b : Addr) (ys : TupO), H b = some ys.1 → H' b = some ys.1) : ∀ {ks : List NestedKey} {vs : List V}, NKs H ks vs → NKs H' ks vs
  | _, _, .nil => .nil
  | _, _, .cons h t => .cons (NK.keep ht h) (NKs.keep ht t)
end
mutual
theorem NK.is {P : Program} {w : World} {H : Hp} {h : Heap} (ok : HOk P w H h) : ∀ {k : NestedKey} {v : V} {u : Value}, NK H k v → RelV v u → NestedIs h k u
  | _, _, u, .non, r => by cases (show u = Value.none from r); exact .none
  | _, _, u, .int, r => by obtain ⟨t, e⟩ := (show ∃ t, u = Value.int _ t from r); rw [e]; exact .int _ _
  | _, _, u, .str, r => by obtain ⟨t, e⟩ := (show ∃ t, u = Value.str _ t from r); rw [e]; exact .text _ _
  | _, _, u, .tup (a := a) e hs, r => by
    cases (show u = Value.ref a from r)
    obtain ⟨_, its, rv, o, e1, e2, n, e3⟩ := ok a _ e
    exact .tup e1 e2 e3 (by simpa using NKs.all ok hs rv)
  | _, _, u, .frz (a := a) e hs, r => by
    cases (show u = Value.ref a from r)
    obtain ⟨_, _, its, rv, o, e1, e2, n, e3⟩ := ok a _ e
    exact .tup e1 e2 e3 (by simpa using NKs.all ok hs rv)
theorem NKs.all {P : Program} {w : World} {H : Hp} {h : Heap} (ok : HOk P w H h) : ∀ {ks : List NestedKey} {vs : List V} {us : List Value}, NKs H ks vs → Vals vs us → NestedAll h ks us
  | _, _, _, .nil, .nil => .nil
  | _, _, _, .cons h t, .cons r rs => .cons (NK.is ok h r) (NKs.all ok t rs)
end
/-- keys, the addresses of their tuples, values -/
abbrev NKV := List (NestedKey × Addr × V)
def KN (kvs : NKV) (xs : List (NestedKey × Addr × Value)) : Prop := Paired (fun kv x => x.1 = kv.1 ∧ x.2.1 = kv.2.1 ∧ RelV kv.2.2 x.2.2) kvs xs
theorem KN.keys {kvs : NKV} {xs : List (NestedKey × Addr × Value)} (r : KN kvs xs) : xs.map (·.1) = kvs.map (·.1) := by
  unfold KN at r
  induction r with
  | nil => rfl
  | cons h _ ih => rw [List.map_cons, List.map_cons, ih, h.1]
theorem KN.len {kvs : NKV} {xs : List (NestedKey × Addr × Value)} (r : KN kvs xs) : xs.length = kvs.length := (Paired.length r).symm
theorem KN.mem {kvs : NKV} {xs : List (NestedKey × Addr × Value)} (r : KN kvs xs) : ∀ x ∈ xs, ∃ kv ∈ kvs, x.1 = kv.1 ∧ x.2.1 = kv.2.1 := by
  unfold KN at r
  induction r with
  | nil => intro x hx; cases hx
  | cons h _ ih =>
    intro x hx
    rcases List.mem_cons.mp hx with rfl | hx
    · exact ⟨_, List.mem_cons_self, h.1, h.2.1⟩
    · obtain ⟨kv, h1, h2⟩ := ih x hx
      exact ⟨kv, List.mem_cons_of_mem _ h1, h2⟩
theorem KN.snoc {kvs : NKV} {xs : List (NestedKey × Addr × Value)} {k : NestedKey} {a : Addr} {v : V} {u : Value} (r : KN kvs xs) (rv : RelV v u) : KN (kvs ++ [(k, a, v)]) (xs ++ [(k, a, u)]) := by
  unfold KN at *
  induction r with
  | nil => exact .cons ⟨rfl, rfl, rv⟩ .nil
  | cons h _ ih => exact .cons h ih
theorem KN.at {kvs : NKV} {xs : List (NestedKey × Addr × Value)} (r : KN kvs xs) (nd : (kvs.map (·.1)).Nodup) {k : NestedKey} {b : Addr} {v : V} (hm : (k, b, v) ∈ kvs) : ∃ u, atKey xs k = some (b, u) ∧ RelV v u := by
  unfold KN at r
  induction r with
  | nil => cases hm
  | @cons kv x kvs xs h _ ih =>
    have n := List.nodup_cons.mp nd
    rcases List.mem_cons.mp hm with e | hm
    · subst e
      refine ⟨x.2.2, ?_, h.2.2⟩
      obtain ⟨x1, x2, x3⟩ := x
      obtain ⟨h1, h2, h3⟩ := h
      cases h1
      cases h2
      simp [atKey]
    · obtain ⟨u, h1, h2⟩ := ih n.2 hm
      refine ⟨u, ?_, h2⟩
      have ne : ¬ x.1 = k := fun e => n.1 (by show kv.1 ∈ _; rw [← h.1, e]; exact List.mem_map.mpr ⟨_, hm, rfl⟩)
      simp [atKey, ne]
      simpa [atKey] using h1
theorem KN.no {kvs : NKV} {xs : List (NestedKey × Addr × Value)} (r : KN kvs xs) {k : NestedKey} (hm : k ∉ kvs.map (·.1)) : atKey xs k = none := by
  unfold KN at r
  induction r with
  | nil => rfl
  | @cons kv x kvs xs h _ ih =>
    have ne : ¬ x.1 = k := fun e => hm (by rw [← e, h.1]; exact List.mem_cons_self)
    simp [atKey, ne]
    simpa [atKey] using ih (fun z => hm (List.mem_cons_of_mem _ z))
/-- such a dict at a -/
def NkO (P : Program) (w : World) (a : Addr) (kvs : NKV) : HO := .ext fun h => kvs.length ≤ sizeLine ∧ (a == sysModules) = false ∧ (kvs.map (·.1)).Nodup ∧ ∃ xs, KN kvs xs ∧ ∃ o es ep, h.get? a = some o ∧ o.ExactDict ∧ o.data = .dict es ep ∧ es.toList = xs.map (entryOfKey (nestedKind P w))
section
variable {P : Program} {w : World} {H : Hp} {h : Heap} {a : Addr} {kvs : NKV}
theorem nk_ok (z : kvs.length ≤ sizeLine) (hd : (a == sysModules) = false) (nd : (kvs.map (·.1)).Nodup) {xs : List (NestedKey × Addr × Value)} (rel : KN kvs xs) (dd : h.DictOfH (nestedKind P w) a xs) : ObjOk P w H h a (NkO P w a kvs) := by
  obtain ⟨o, es, ep, h1, h2, h3, h4, _, _⟩ := dd
  exact ⟨⟨z, hd, nd, xs, rel, o, es, ep, h1, h2, h3, h4⟩, ⟨o, h1⟩, fun g1 g2 ⟨z, y, nd, xs, r, o, es, ep, e1, e2, e3, e4⟩ st => ⟨z, y, nd, xs, r, o, es, ep, st _ e1, e2, e3, e4⟩⟩
/-- its keys are there -/
def NkK (H : Hp) (kvs : NKV) : Prop := ∀ kv ∈ kvs, NK H kv.1 (.ref kv.2.1) ∧ kv.1.depth ≤ 8
theorem NkK.keep {H' : Hp} (ht : ∀ (b : Addr) (ys : TupO), H b = some ys.1 → H' b = some ys.1) (k : NkK H kvs) : NkK H' kvs := fun kv hk => ⟨(k kv hk).1.keep ht, (k kv hk).2⟩
theorem nk_of (ok : HOk P w H h) (e : H a = some (NkO P w a kvs)) (ks : NkK H kvs) : kvs.length ≤ sizeLine ∧ (a == sysModules) = false ∧ (kvs.map (·.1)).Nodup ∧ ∃ xs, KN kvs xs ∧ h.DictOfH (nestedKind P w) a xs := by
  obtain ⟨z, y, nd, xs, r, o, es, ep, e1, e2, e3, e4⟩ := (ok a _ e).1
  refine ⟨z, y, nd, xs, r, o, es, ep, e1, e2, e3, e4, fun x hx => ?_, by rw [r.keys]; exact nd⟩
  obtain ⟨kv, h1, h2, h3⟩ := r.mem x hx
  rw [h2, h3]
  exact ⟨(ks kv h1).1.is ok rfl, (ks kv h1).2⟩
end
section
variable {X : Cx} {pins : List (Addr × Obj)} {σ : L2.St} {H : Hp} {s : Shared} {a b : Addr} {kvs : NKV} {k : NestedKey} {v : V} {r : Value} {A : Around} {E : Value → Shared → Prop}
theorem room8 {P : Program} {w : World} {A : Around} (hu : A.units + 64 < cLine) : (nestedKind P w).room A.in1 := by
  have e : A.in1.units ≤ A.units + 1 := by first | exact Nat.le_refl _ | (show _ ≤ _; simp [Around.in1])
  show A.in1.units + 8 < cLine
  omega
/-- k not in d -/
theorem nk_notIn {Q : Value → Shared → Prop} (hu : A.units + 64 < cLine) (I : Inv X pins σ H s) (e : H a = some (NkO X.prog X.w a kvs)) (ks : NkK H kvs) (ky : NK H k (.ref b)) (kd : k.depth ≤ 8) (h : ∀ s', Inv X pins σ H s' → Q (.bool (!decide (k ∈ kvs.map (·.1)))) s') :
    wpAny (model X.prog X.w) A (compareOp .NotIn (.ref b) (.ref a)) Q E s := by
  obtain ⟨z, hd, nd, xs, rel, dd⟩ := nk_of I.hok e ks
  refine notIn_keyed (knd := nestedKind X.prog X.w) (k := k) (room8 hu) ⟨ky.is I.hok rfl, kd⟩ hd ⟨xs, dd, rfl⟩ ?_
  have ev : (valueAt (pairsH xs) k).isSome = decide (k ∈ kvs.map (·.1)) := by
    rw [valueAt_pairsH, Option.isSome_map]
    by_cases c : k ∈ kvs.map (·.1)
    · obtain ⟨kv, h1, rfl⟩ := List.mem_map.mp c
      obtain ⟨u, h2, _⟩ := rel.at nd (k := kv.1) (b := kv.2.1) (v := kv.2.2) h1
      rw [h2, decide_eq_true c]
      rfl
    · rw [rel.no c, decide_eq_false c]
      rfl
  rw [ev]
  exact h _ (I.tok _)
/-- d[k] -/
theorem nk_get {Q : Value → Shared → Prop} (hu : A.units + 64 < cLine) (I : Inv X pins σ H s) (e : H a = some (NkO X.prog X.w a kvs)) (ks : NkK H kvs) (ky : NK H k (.ref b)) (kd : k.depth ≤ 8) {c : Addr} (hm : (k, c, v) ∈ kvs) (h : ∀ u s', Inv X pins σ H s' → RelV v u → Q u s') :
    wpAny (model X.prog X.w) A (getItem (.ref a) (.ref b)) Q E s := by
  obtain ⟨z, hd, nd, xs, rel, dd⟩ := nk_of I.hok e ks
  obtain ⟨u, h2, ru⟩ := rel.at nd hm
  refine getItem_keyed (knd := nestedKind X.prog X.w) (k := k) (v := u) (room8 hu) ⟨ky.is I.hok rfl, kd⟩ ⟨xs, dd, rfl⟩ (by rw [valueAt_pairsH, h2]; rfl) ?_
  exact h _ _ (I.tok _) ru
/-- d[k] = v, a new key -/
theorem nk_set {Q : Unit → Shared → Prop} (hu : A.units + 64 < cLine) (I : Inv X pins σ H s) (e : H a = some (NkO X.prog X.w a kvs)) (ks : NkK H kvs) (ky : NK H k (.ref b)) (kd : k.depth ≤ 8) (hn : k ∉ kvs.map (·.1)) (hl : kvs.length < sizeLine) (rv : RelV v r) (h : ∀ s', Inv X pins σ (upd H a (NkO X.prog X.w a (kvs ++ [(k, b, v)]))) s' → Q () s') :
    wpAny (model X.prog X.w) A (setItem (.ref a) (.ref b) r) Q E s := by
  obtain ⟨z, hd, nd, xs, rel, dd⟩ := nk_of I.hok e ks
  refine wpAny_setItem_heap (hsz := by rw [rel.len]; exact z) (knd := nestedKind X.prog X.w) (k := k) (room8 hu) ⟨ky.is I.hok rfl, kd⟩ dd fun h' dd' hs => h _ ?_
  rw [storedH_new (rel.no hn)] at dd'
  have he : ∃ q, h'.get? a = some q := let ⟨q, _, _, hq, _⟩ := dd'; ⟨q, hq⟩
  refine I.write (x := a) (e := a) (by rw [e]; trivial) (.inl rfl) (fun b q hb z => (hs.2 b hb).trans z) he (nk_ok ?_ hd ?_ (rel.snoc rv) dd')
  · rw [List.length_append]
    show kvs.length + 1 ≤ sizeLine
    omega
  · rw [List.map_append]
    exact List.nodup_append.mpr ⟨nd, by simp, fun x hx y hy e => hn (by have ey : y = k := List.mem_singleton.mp hy; rw [← ey, ← e]; exact hx)⟩
end
def tNkNew (X : Cx) : TE := fun _ H Q => ∀ p, H p = none → Q (.ref p) (upd H p (NkO X.prog X.w p []))
def tNkNotIn (X : Cx) (ty td : TE) : TE := fun σ H Q => ty σ H fun y H1 => td σ H1 fun x H2 => ∃ a b kvs k, x = .ref a ∧ y = .ref b ∧ H2 a = some (NkO X.prog X.w a kvs) ∧ NkK H2 kvs ∧ NK H2 k (.ref b) ∧ k.depth ≤ 8 ∧ Q (.bl (!decide (k ∈ kvs.map (·.1)))) H2
def tNkGet (X : Cx) (td ty : TE) : TE := fun σ H Q => td σ H fun x H1 => ty σ H1 fun y H2 => ∃ a b kvs k c v, x = .ref a ∧ y = .ref b ∧ H2 a = some (NkO X.prog X.w a kvs) ∧ NkK H2 kvs ∧ NK H2 k (.ref b) ∧ k.depth ≤ 8 ∧ (k, c, v) ∈ kvs ∧ Q v H2
def sNkPut (X : Cx) (td ty tv : TE) : TS := fun D σ H => tv σ H fun v H1 => td σ H1 fun x H2 => ty σ H2 fun y H3 => ∃ a b kvs k, x = .ref a ∧ y = .ref b ∧ H3 a = some (NkO X.prog X.w a kvs) ∧ NkK H3 kvs ∧ NK H3 k (.ref b) ∧ k.depth ≤ 8 ∧ k ∉ kvs.map (·.1) ∧ kvs.length < sizeLine ∧ D.nx σ (upd H3 a (NkO X.prog X.w a (kvs ++ [(k, b, v)])))
section
variable {X : Cx} {o i value : Expr} {pos pos' : Pos} {td ty tv : TE}
theorem pe_nkNew {ps : Pos} : PE X (.Dict [] [] ps) (tNkNew X) := ⟨fun pins s σ H Q I h =>
  wpAny_Dict_empty ⟨.ref s.heap.objs.size, _, I.laid (a := s.heap.objs.size) (o := NkO X.prog X.w s.heap.objs.size []) (t' := s.toks) (fun _ _ q => Heap.get?_push_of_some _ q) (Nat.le_refl _) (nk_ok (by decide) (beq_false_of_ne (Nat.ne_of_gt I.big)) (by simp) (xs := []) .nil (Heap.DictOfH.new _)), rfl, h _ (I.hok.fresh (Nat.le_refl _))⟩⟩
theorem pc_nkNotIn (hu : X.A.units + 64 < cLine) (hi : PE X i ty) (ho : PE X o td) : PC X .NotIn i o (tNkNotIn X ty td) := by
  refine ⟨fun pins s σ H Q I h => ?_⟩
  refine thn (hi.run pins s σ H _ I h) fun iv s1 ⟨y, H1, I1, ry, q1⟩ => thn (ho.run pins s1 σ H1 _ I1 q1) fun u s2 ⟨x, H2, I2, rx, a, b, kvs, k, ex, ey, e, ks, ky, kd, q2⟩ => ?_
  subst ex ey
  obtain rfl : u = Value.ref a := rx
  obtain rfl : iv = Value.ref b := ry
  exact nk_notIn hu I2 e ks ky kd fun s3 I3 => ⟨V.bl (!decide (k ∈ kvs.map fun x : NestedKey × Addr × V => x.1)), H2, I3, rfl, q2⟩
theorem pe_nkGet (hu : X.A.units + 64 < cLine) (ho : PE X o td) (hi : PE X i ty) (hs : NoSl i) : PE X (.Subscript o i pos) (tNkGet X td ty) := by
  refine ⟨fun pins s σ H Q I h => ?_⟩
  refine subD_of PySem.F.slot_dict_getitem.lookup hs (thn (ho.run pins s σ H _ I h) fun u s1 ⟨x, H1, I1, rx, q1⟩ => thn (hi.run pins s1 σ H1 _ I1 q1) fun iv s2 ⟨y, H2, I2, ry, a, b, kvs, k, c, v, ex, ey, e, ks, ky, kd, hm, q2⟩ => ?_)
  subst ex ey
  obtain rfl : u = Value.ref a := rx
  obtain rfl : iv = Value.ref b := ry
  obtain ⟨_, _, _, xs, _, dd⟩ := nk_of I2.hok e ks
  exact ⟨dd.typeIs, nk_get hu I2 e ks ky kd hm fun u s3 I3 ru => ⟨_, H2, I3, ru, q2⟩⟩
theorem ps_nkput (hu : X.A.units + 64 < cLine) (ho : PE X o td) (hi : PE X i ty) (hv : PE X value tv) (hs : swapsWith value (some (.Subscript o i pos')) pos.line X.env = pure false) :
    PS X (.Assign [.Subscript o i pos'] value pos) (sNkPut X td ty tv) := by
  refine ⟨fun pins s σ H D I h => ?_⟩
  refine wpAny_Assign_Subscript (thn (hv.run pins s σ H _ I h) fun r s1 ⟨v, H1, I1, rv, q1⟩ => thn (ho.run pins s1 σ H1 _ I1 q1) fun u s2 ⟨x, H2, I2, rx, q2⟩ => thn (hi.run pins s2 σ H2 _ I2 q2) fun iv s3 ⟨y, H3, I3, ry, a, b, kvs, k, ex, ey, e, ks, ky, kd, hn, hl, q3⟩ => ?_) hs
  subst ex ey
  obtain rfl : u = Value.ref a := rx
  obtain rfl : iv = Value.ref b := ry
  exact nk_set hu I3 e ks ky kd hn hl rv fun s4 I4 => ⟨σ, _, I4, q3⟩
end
end SC
set_option maxRecDepth 100000
set_option maxHeartbeats 2000000
/-! # Part Fl: a row that comes again and again: every cell comes again with it -/
namespace SC
open PySem PySem.Spec PyProof.Rows L2 TL
/-- what one cell holds at tick t, where c comes in -/
def cst (r : Rule) (c : Nat → Option Int) : Nat → Option Int
  | 0 => none
  | t + 1 => match cst r c t, c t with
    | none, x => x
    | some h, some x => some (r.keep h x).1
    | some h, none => some h
def cout (r : Rule) (c : Nat → Option Int) (t : Nat) : Option Int := match cst r c t, c t with
  | some h, some x => some (r.keep h x).2
  | _, _ => none
def flS : List Rule → (Nat → Option Int) → Nat → List (Option Int)
  | [], _, _ => []
  | r :: rs, c, t => cst r c t :: flS rs (cout r c) t
def flO : List Rule → (Nat → Option Int) → Nat → Option Int
  | [], c, t => c t
  | r :: rs, c, t => flO rs (cout r c) t
theorem flS_zero : ∀ (rs : List Rule) (c : Nat → Option Int), flS rs c 0 = nones rs.length
  | [], _ => rfl
  | r :: rs, c => by
    show cst r c 0 :: flS rs (cout r c) 0 = _
    rw [flS_zero rs]
    rfl
theorem flS_len : ∀ (rs : List Rule) (c : Nat → Option Int) (t : Nat), (flS rs c t).length = rs.length
  | [], _, _ => rfl
  | r :: rs, c, t => by
    show (flS rs (cout r c) t).length + 1 = _
    rw [flS_len rs]
    rfl
theorem fl_step : ∀ (rs : List Rule) (c : Nat → Option Int) (t : Nat), stepR rs (flS rs c t) (c t) = (flS rs c (t + 1), flO rs c t)
  | [], c, t => by rw [step_nil]; rfl
  | r :: rs, c, t => by
    have ih := fl_step rs (cout r c) t
    show stepR (r :: rs) (cst r c t :: flS rs (cout r c) t) (c t) = (cst r c (t + 1) :: flS rs (cout r c) (t + 1), flO rs (cout r c) t)
    cases e : cst r c t with
    | none =>
      have o : cout r c t = none := by unfold cout; rw [e]
      have s : cst r c (t + 1) = c t := by
        show (match cst r c t, c t with | none, x => x | some h, some x => some (r.keep h x).1 | some h, none => some h) = _
        rw [e]
      rw [o, step_none] at ih
      have i1 : flS rs (cout r c) t = flS rs (cout r c) (t + 1) := congrArg Prod.fst ih
      have i2 : (none : Option Int) = flO rs (cout r c) t := congrArg Prod.snd ih
      rw [step_cn, s, ← i1, ← i2]
    | some h =>
      cases ec : c t with
      | none =>
        have o : cout r c t = none := by unfold cout; rw [e, ec]
        have s : cst r c (t + 1) = some h := by
          show (match cst r c t, c t with | none, x => x | some h, some x => some (r.keep h x).1 | some h, none => some h) = _
          rw [e, ec]
        rw [o, step_none] at ih
        have i1 : flS rs (cout r c) t = flS rs (cout r c) (t + 1) := congrArg Prod.fst ih
        have i2 : (none : Option Int) = flO rs (cout r c) t := congrArg Prod.snd ih
        rw [step_none, s, ← i1, ← i2]
      | some x =>
        have o : cout r c t = some (r.keep h x).2 := by unfold cout; rw [e, ec]
        have s : cst r c (t + 1) = some (r.keep h x).1 := by
          show (match cst r c t, c t with | none, x => x | some h, some x => some (r.keep h x).1 | some h, none => some h) = _
          rw [e, ec]
        rw [o] at ih
        rw [step_cs, ih, s]
/-- from s on something comes, and after p ticks again -/
def Lv (p s : Nat) (c : Nat → Option Int) : Prop := ∀ t, s ≤ t → c (t + p) = c t ∧ ∃ x, c t = some x
theorem cst_more {r : Rule} {c : Nat → Option Int} {t : Nat} {h x : Int} (e : cst r c t = some h) (ec : c t = some x) : cst r c (t + 1) = some (r.keep h x).1 := by
  show (match cst r c t, c t with | none, x => x | some h, some x => some (r.keep h x).1 | some h, none => some h) = _
  rw [e, ec]
theorem cout_some {r : Rule} {c : Nat → Option Int} {t : Nat} {h x : Int} (e : cst r c t = some h) (ec : c t = some x) : cout r c t = some (r.keep h x).2 := by
  unfold cout
  rw [e, ec]
theorem cst_full {r : Rule} {c : Nat → Option Int} {p s : Nat} (h : Lv p s c) : ∀ t, s + 1 ≤ t → ∃ x, cst r c t = some x
  | 0, ht => absurd ht (by omega)
  | t + 1, ht => by
    obtain ⟨x, hx⟩ := (h t (by omega)).2
    cases e : cst r c t with
    | none =>
      refine ⟨x, ?_⟩
      show (match cst r c t, c t with | none, x => x | some h, some x => some (r.keep h x).1 | some h, none => some h) = _
      rw [e]
      exact hx
    | some h0 => exact ⟨_, cst_more e hx⟩
/-- all but last: what has the smaller measure is kept -/
theorem keep_meas (r : Rule) : r = .last ∨ ∃ m : Int → Int, ∀ h x, r.keep h x = if m x < m h then (x, h) else (h, x) := by
  cases r with
  | first => exact .inr ⟨fun _ => 0, fun h x => by rw [if_neg (by show ¬ (0 : Int) < 0; omega)]; rfl⟩
  | last => exact .inl rfl
  | less => exact .inr ⟨fun x => x, fun h x => rfl⟩
  | greater =>
    refine .inr ⟨fun x => -x, fun h x => ?_⟩
    show (if h < x then (x, h) else (h, x)) = _
    by_cases e : h < x
    · rw [if_pos e, if_pos (by show -x < -h; omega)]
    · rw [if_neg e, if_neg (by show ¬ -x < -h; omega)]
  | near n => exact .inr ⟨fun x => absI (x - n), fun h x => rfl⟩
theorem cell_per {r : Rule} {c : Nat → Option Int} {p s : Nat} (hp : 0 < p) (h : Lv p s c) : (∀ t, s + (p + 1) ≤ t → cst r c (t + p) = cst r c t) ∧ Lv p (s + (p + 1)) (cout r c) := by
  have full := cst_full (r := r) h
  rcases keep_meas r with rfl | ⟨m, hm⟩
  · have nx : ∀ t, s + 1 ≤ t → cst .last c (t + 1) = c t := fun t ht => by
      obtain ⟨y, hy⟩ := full t ht
      obtain ⟨x, hx⟩ := (h t (by omega)).2
      rw [cst_more hy hx, hx]
      rfl
    have per : ∀ t, s + (p + 1) ≤ t → cst .last c (t + p) = cst .last c t := fun t ht => by
      obtain ⟨u, rfl⟩ : ∃ u, t = u + 1 := ⟨t - 1, by omega⟩
      have e : u + 1 + p = (u + p) + 1 := by omega
      rw [e, nx (u + p) (by omega), nx u (by omega)]
      exact (h u (by omega)).1
    refine ⟨per, fun t ht => ?_⟩
    obtain ⟨y, hy⟩ := full t (by omega)
    obtain ⟨x, hx⟩ := (h t (by omega)).2
    have hx' : c (t + p) = some x := by rw [(h t (by omega)).1, hx]
    have hy' : cst .last c (t + p) = some y := by rw [per t ht, hy]
    rw [cout_some hy hx, cout_some hy' hx']
    exact ⟨rfl, _, rfl⟩
  · -- the measure goes down
    have down : ∀ t y x, s + 1 ≤ t → cst r c t = some y → c t = some x → ∃ z, cst r c (t + 1) = some z ∧ m z ≤ m y ∧ m z ≤ m x := fun t y x ht hy hx => by
      refine ⟨_, cst_more hy hx, ?_⟩
      rw [hm]
      by_cases e : m x < m y
      · rw [if_pos e]; exact ⟨Int.le_of_lt e, Int.le_refl _⟩
      · rw [if_neg e]; exact ⟨Int.le_refl _, Int.not_lt.mp e⟩
    have mono : ∀ k t y, s + 1 ≤ t → cst r c t = some y → ∃ z, cst r c (t + k) = some z ∧ m z ≤ m y := fun k => by
      induction k with
      | zero => exact fun t y _ hy => ⟨y, hy, Int.le_refl _⟩
      | succ k ih =>
        intro t y ht hy
        obtain ⟨z, hz, h1⟩ := ih t y ht hy
        obtain ⟨x, hx⟩ := (h (t + k) (by omega)).2
        obtain ⟨z', hz', h2, _⟩ := down (t + k) z x (by omega) hz hx
        exact ⟨z', hz', by omega⟩
    have stay : ∀ t y x, s + (p + 1) ≤ t → cst r c t = some y → c t = some x → r.keep y x = (y, x) := fun t y x ht hy hx => by
      obtain ⟨u, rfl⟩ : ∃ u, t = u + p := ⟨t - p, by omega⟩
      have hxu : c u = some x := by rw [← (h u (by omega)).1]; exact hx
      obtain ⟨v, hv⟩ := full u (by omega)
      obtain ⟨z, hz, _, h2⟩ := down u v x (by omega) hv hxu
      obtain ⟨z', hz', h3⟩ := mono (p - 1) (u + 1) z (by omega) hz
      have e : u + 1 + (p - 1) = u + p := by omega
      rw [e, hy] at hz'
      cases hz'
      rw [hm, if_neg (by omega)]
    have const : ∀ k t, s + (p + 1) ≤ t → cst r c (t + k) = cst r c t := fun k => by
      induction k with
      | zero => exact fun t _ => rfl
      | succ k ih =>
        intro t ht
        obtain ⟨y, hy⟩ := full (t + k) (by omega)
        obtain ⟨x, hx⟩ := (h (t + k) (by omega)).2
        have e := cst_more hy hx
        rw [stay (t + k) y x (by omega) hy hx] at e
        show cst r c (t + k + 1) = _
        rw [e, ← ih t ht, hy]
    refine ⟨fun t ht => const p t ht, fun t ht => ?_⟩
    obtain ⟨y, hy⟩ := full t (by omega)
    obtain ⟨x, hx⟩ := (h t (by omega)).2
    have hx' : c (t + p) = some x := by rw [(h t (by omega)).1, hx]
    have hy' : cst r c (t + p) = some y := by rw [const p t ht, hy]
    rw [cout_some hy hx, cout_some hy' hx']
    exact ⟨rfl, _, rfl⟩
theorem fl_per {p : Nat} (hp : 0 < p) : ∀ (rs : List Rule) (c : Nat → Option Int) (s : Nat), Lv p s c → (∀ t, s + rs.length * (p + 1) ≤ t → flS rs c (t + p) = flS rs c t) ∧ Lv p (s + rs.length * (p + 1)) (flO rs c)
  | [], c, s, h => ⟨fun _ _ => rfl, by rw [List.length_nil, Nat.zero_mul, Nat.add_zero]; exact h⟩
  | r :: rs, c, s, h => by
    obtain ⟨h1, h2⟩ := cell_per (r := r) hp h
    obtain ⟨h3, h4⟩ := fl_per hp rs _ _ h2
    have e : s + (p + 1) + rs.length * (p + 1) = s + (r :: rs).length * (p + 1) := by rw [List.length_cons, Nat.add_mul]; omega
    rw [e] at h3 h4
    refine ⟨fun t ht => ?_, h4⟩
    show cst r c (t + p) :: flS rs (cout r c) (t + p) = cst r c t :: flS rs (cout r c) t
    rw [h3 t ht, h1 t (by rw [List.length_cons, Nat.add_mul] at ht; omega)]
/-! ### a row that is given again and again -/
def rowIn (row : List Int) (t : Nat) : Option Int := row[t % row.length]?
theorem rowIn_lv {row : List Int} (h : row ≠ []) : Lv row.length 0 (rowIn row) := fun t _ => by
  have hp : 0 < row.length := List.length_pos_iff.mpr h
  unfold rowIn
  rw [Nat.add_mod_right]
  exact ⟨rfl, _, List.getElem?_eq_getElem (Nat.mod_lt _ hp)⟩
/-- what is held before tick t, what is let out at tick t -/
def heldF (rs : List Rule) (row : List Int) (t : Nat) : List (Option Int) := flS rs (rowIn row) t
def outF (rs : List Rule) (row : List Int) (t : Nat) : Option Int := flO rs (rowIn row) t
theorem held_zero (rs : List Rule) (row : List Int) : heldF rs row 0 = nones rs.length := flS_zero _ _
theorem held_len (rs : List Rule) (row : List Int) (t : Nat) : (heldF rs row t).length = rs.length := flS_len _ _ _
theorem held_step {rs : List Rule} {row : List Int} {t : Nat} {n : Int} (hn : row[t % row.length]? = some n) : stepR rs (heldF rs row t) (some n) = (heldF rs row (t + 1), outF rs row t) := by
  have z := fl_step rs (rowIn row) t
  have e : rowIn row t = some n := hn
  rw [e] at z
  exact z
theorem held_fill {rs : List Rule} {row : List Int} (h : row ≠ []) : ∀ t, Fill (heldF rs row t)
  | 0 => by rw [held_zero]; exact fill_nones _
  | t + 1 => by
    have hp : 0 < row.length := List.length_pos_iff.mpr h
    obtain ⟨n, hn⟩ : ∃ n, row[t % row.length]? = some n := ⟨_, List.getElem?_eq_getElem (Nat.mod_lt _ hp)⟩
    have z := step_fill (c := n) (held_fill h t) (held_len rs row t)
    rw [held_step hn] at z
    exact z
theorem held_per {rs : List Rule} {row : List Int} (h : row ≠ []) {t : Nat} (ht : rs.length * (row.length + 1) ≤ t) : heldF rs row (t + row.length) = heldF rs row t :=
  (fl_per (List.length_pos_iff.mpr h) rs _ 0 (rowIn_lv h)).1 t (by omega)
/-- where the flow stands: what is held, and the place in the row -/
def keyF (rs : List Rule) (row : List Int) (t : Nat) : List (Option Int) × Nat := (heldF rs row t, t % row.length)
theorem key_next {rs : List Rule} {row : List Int} (h : row ≠ []) {t u : Nat} (e : keyF rs row t = keyF rs row u) : keyF rs row (t + 1) = keyF rs row (u + 1) ∧ outF rs row t = outF rs row u := by
  have hp : 0 < row.length := List.length_pos_iff.mpr h
  have e1 : heldF rs row t = heldF rs row u := congrArg Prod.fst e
  have e2 : t % row.length = u % row.length := congrArg Prod.snd e
  obtain ⟨n, hn⟩ : ∃ n, row[t % row.length]? = some n := ⟨_, List.getElem?_eq_getElem (Nat.mod_lt _ hp)⟩
  have z1 := held_step (rs := rs) hn
  have hn2 : row[u % row.length]? = some n := by rw [← e2]; exact hn
  have z2 := held_step (rs := rs) hn2
  rw [e1, z2] at z1
  have z3 := congrArg Prod.fst z1
  have z4 := congrArg Prod.snd z1
  refine ⟨?_, z4.symm⟩
  unfold keyF
  rw [Nat.add_mod t, Nat.add_mod u, e2]
  exact congrArg (fun z => (z, _)) z3.symm
theorem key_more {rs : List Rule} {row : List Int} (h : row ≠ []) {t u : Nat} (e : keyF rs row t = keyF rs row u) : ∀ k, keyF rs row (t + k) = keyF rs row (u + k) ∧ outF rs row (t + k) = outF rs row (u + k)
  | 0 => ⟨e, (key_next h e).2⟩
  | k + 1 => by
    have z := (key_next h (key_more h e k).1).1
    exact ⟨z, (key_next h z).2⟩
/-- it comes again soon -/
theorem key_soon {rs : List Rule} {row : List Int} (h : row ≠ []) : keyF rs row (rs.length * (row.length + 1) + row.length) = keyF rs row (rs.length * (row.length + 1)) := by
  unfold keyF
  rw [held_per h (Nat.le_refl _), Nat.add_mod_right]
/-- the first time that it comes again: at tick e as at tick s -/
structure Cyc (rs : List Rule) (row : List Int) (s e : Nat) : Prop where
  lt : s < e
  again : keyF rs row e = keyF rs row s
  fresh : ∀ i j, i < j → j < e → keyF rs row i ≠ keyF rs row j
theorem Cyc.one {rs : List Rule} {row : List Int} {s e s' e' : Nat} (h : Cyc rs row s e) (h' : Cyc rs row s' e') : s = s' ∧ e = e' := by
  have he : e = e' := by
    rcases Nat.lt_trichotomy e e' with z | z | z
    · exact absurd h.again.symm (h'.fresh s e h.lt z)
    · exact z
    · exact absurd h'.again.symm (h.fresh s' e' h'.lt z)
  subst he
  refine ⟨?_, rfl⟩
  have k : keyF rs row s = keyF rs row s' := h.again.symm.trans h'.again
  rcases Nat.lt_trichotomy s s' with z | z | z
  · exact absurd k (h.fresh s s' z h'.lt)
  · exact z
  · exact absurd k.symm (h.fresh s' s z h.lt)
/-- tick t is like a tick before e -/
def sameT (t s e : Nat) : Nat := if t < e then t else s + (t - s) % (e - s)
theorem Cyc.back {rs : List Rule} {row : List Int} {s e : Nat} (hr : row ≠ []) (h : Cyc rs row s e) : ∀ q k, keyF rs row (s + k + q * (e - s)) = keyF rs row (s + k) ∧ outF rs row (s + k + q * (e - s)) = outF rs row (s + k)
  | 0, k => by rw [Nat.zero_mul, Nat.add_zero]; exact ⟨rfl, rfl⟩
  | q + 1, k => by
    have lt := h.lt
    have e0 : keyF rs row (s + (e - s)) = keyF rs row s := by rw [Nat.add_sub_cancel' (Nat.le_of_lt lt)]; exact h.again
    have z := key_more hr e0 (k + q * (e - s))
    have ih := h.back hr q k
    have e1 : s + k + (q + 1) * (e - s) = s + (e - s) + (k + q * (e - s)) := by rw [Nat.add_mul, Nat.one_mul]; omega
    have e2 : s + (k + q * (e - s)) = s + k + q * (e - s) := by omega
    rw [e1]
    rw [e2] at z
    exact ⟨z.1.trans ih.1, z.2.trans ih.2⟩
theorem Cyc.same {rs : List Rule} {row : List Int} {s e : Nat} (hr : row ≠ []) (h : Cyc rs row s e) (t : Nat) : sameT t s e < e ∧ keyF rs row t = keyF rs row (sameT t s e) ∧ outF rs row t = outF rs row (sameT t s e) := by
  have lt := h.lt
  unfold sameT
  by_cases c : t < e
  · rw [if_pos c]
    exact ⟨c, rfl, rfl⟩
  · rw [if_neg c]
    have m := Nat.mod_lt (t - s) (show 0 < e - s by omega)
    have d := Nat.mod_add_div (t - s) (e - s)
    have et : t = s + (t - s) % (e - s) + ((t - s) / (e - s)) * (e - s) := by rw [Nat.mul_comm]; omega
    have z := h.back hr ((t - s) / (e - s)) ((t - s) % (e - s))
    rw [← et] at z
    exact ⟨by omega, z⟩
theorem cyc_ex {rs : List Rule} {row : List Int} : ∀ n, (∃ s, s < n ∧ keyF rs row n = keyF rs row s) → ∃ s e, Cyc rs row s e ∧ e ≤ n := fun n => by
  induction n using Nat.strongRecOn with
  | ind n ih =>
    rintro ⟨s, hs, e⟩
    by_cases c : ∃ m, m < n ∧ ∃ i, i < m ∧ keyF rs row m = keyF rs row i
    · obtain ⟨m, hm, h⟩ := c
      obtain ⟨s', e', h1, h2⟩ := ih m hm h
      exact ⟨s', e', h1, by omega⟩
    · exact ⟨s, n, ⟨hs, e, fun i j hij hj z => c ⟨j, hj, i, hij, z.symm⟩⟩, Nat.le_refl _⟩
theorem cyc_there {rs : List Rule} {row : List Int} (h : row ≠ []) : ∃ s e, Cyc rs row s e ∧ e ≤ rs.length * (row.length + 1) + row.length :=
  cyc_ex _ ⟨_, by have := List.length_pos_iff.mpr h; omega, key_soon h⟩
end SC
set_option maxRecDepth 100000
set_option maxHeartbeats 2000000
/-! # Part Ty: tallies of numbers (mathematics) -/
namespace SC
open PySem PySem.Spec PyProof.Rows L2 TL
def uniq : List Int → List Int
  | [] => []
  | x :: xs => if x ∈ xs then uniq xs else x :: uniq xs
theorem mem_uniq {v : Int} : ∀ {l : List Int}, v ∈ uniq l ↔ v ∈ l
  | [] => Iff.rfl
  | x :: xs => by
    unfold uniq
    split
    · rename_i h
      rw [mem_uniq (l := xs), List.mem_cons]
      exact ⟨.inr, fun z => z.elim (fun e => e ▸ h) id⟩
    · rw [List.mem_cons, List.mem_cons, mem_uniq (l := xs)]
theorem uniq_nodup : ∀ l : List Int, (uniq l).Nodup
  | [] => List.nodup_nil
  | x :: xs => by
    unfold uniq
    split
    · exact uniq_nodup xs
    · rename_i h
      exact List.nodup_cons.mpr ⟨fun z => h (mem_uniq.mp z), uniq_nodup xs⟩
theorem perm_of {a b : List Int} (ha : a.Nodup) (hb : b.Nodup) (h : ∀ v, v ∈ a ↔ v ∈ b) : a.Perm b := (List.perm_ext_iff_of_nodup ha hb).mpr h
/-- how often each number is among os, ascending -/
def keysOf (os : List Int) : List Int := sortL (uniq os)
theorem sortL_perm (l : List Int) : (sortL l).Perm l := by
  have := sort_perm l []
  rwa [List.append_nil] at this
theorem sortL_rise (l : List Int) : (sortL l).Pairwise (· ≤ ·) := sort_rise l [] List.Pairwise.nil
theorem mem_keysOf {os : List Int} {v : Int} : v ∈ keysOf os ↔ v ∈ os := (sortL_perm _).mem_iff.trans mem_uniq
theorem keysOf_nodup (os : List Int) : (keysOf os).Nodup := (sortL_perm _).nodup_iff.mpr (uniq_nodup os)
theorem keysOf_rise (os : List Int) : (keysOf os).Pairwise (· ≤ ·) := sortL_rise _
theorem keysOf_one {os ks : List Int} (nd : ks.Nodup) (h : ∀ v, v ∈ ks ↔ v ∈ os) (hs : ks.Pairwise (· ≤ ·)) : ks = keysOf os := sort_one (perm_of nd (uniq_nodup os) fun v => (h v).trans mem_uniq.symm) hs
theorem sort_keysOf {os ks : List Int} (nd : ks.Nodup) (h : ∀ v, v ∈ ks ↔ v ∈ os) : sortL ks = keysOf os := keysOf_one ((sortL_perm _).nodup_iff.mpr nd) (fun v => (sortL_perm ks).mem_iff.trans (h v)) (sortL_rise _)
def tally (os : List Int) : List (Int × Int) := (keysOf os).map fun v => (v, ((os.count v : Nat) : Int))
theorem tally_fst (os : List Int) : (tally os).map (·.1) = keysOf os := by
  unfold tally
  rw [List.map_map]
  exact List.map_id _
theorem tally_mem {os : List Int} {v c : Int} (h : (v, c) ∈ tally os) : v ∈ os ∧ c = (os.count v : Nat) := by
  unfold tally at h
  obtain ⟨x, hx, e⟩ := List.mem_map.mp h
  cases e
  exact ⟨mem_keysOf.mp hx, rfl⟩
theorem tally_len (os : List Int) : (tally os).length ≤ os.length := by
  unfold tally keysOf
  rw [List.length_map, (sortL_perm _).length_eq]
  induction os with
  | nil => exact Nat.le_refl _
  | cons x xs ih =>
    unfold uniq
    split
    · exact Nat.le_succ_of_le ih
    · exact Nat.succ_le_succ ih
theorem find_map {α : Type} [DecidableEq α] {β : Type} (f : α → β) : ∀ (ks : List α) (v : α), (ks.map fun k => (k, f k)).find? (fun kv => decide (kv.1 = v)) = if v ∈ ks then some (v, f v) else none
  | [], v => rfl
  | k :: ks, v => by
    rw [List.map_cons, List.find?_cons]
    by_cases h : k = v
    · subst h
      simp
    · have h' : ¬ v = k := fun z => h z.symm
      simp only [h, decide_false, find_map f ks v, List.mem_cons, h', false_or]
theorem valV_kvI (l : List (Int × Int)) (v : Int) : valV (kvI l) (.inl v) = (l.find? fun p => decide (p.1 = v)).map fun p => V.int p.2 := by
  unfold valV kvI
  induction l with
  | nil => rfl
  | cons p ps ih =>
    rw [List.map_cons, List.find?_cons, List.find?_cons]
    by_cases h : p.1 = v
    · simp [h]
    · simp only [Sum.inl.injEq, h, decide_false]
      exact ih
theorem valV_tally (os : List Int) (v : Int) : valV (kvI (tally os)) (.inl v) = if v ∈ os then some (.int (os.count v : Nat)) else none := by
  rw [valV_kvI]
  unfold tally
  rw [find_map]
  by_cases h : v ∈ os
  · rw [if_pos (mem_keysOf.mpr h), if_pos h]
    rfl
  · rw [if_neg (fun z => h (mem_keysOf.mp z)), if_neg h]
    rfl
theorem tally_get (os : List Int) (v : Int) : (valV (kvI (tally os)) (.inl v)).getD (.int 0) = .int (os.count v : Nat) := by
  rw [valV_tally]
  by_cases h : v ∈ os
  · rw [if_pos h]
    rfl
  · rw [if_neg h, List.count_eq_zero.mpr h]
    rfl
/-- equal counts, equal tallies -/
theorem tally_ext {os ps : List Int} (h : ∀ v, os.count v = ps.count v) : tally os = tally ps := by
  have m : ∀ v, v ∈ os ↔ v ∈ ps := fun v => by
    rw [← List.count_pos_iff, ← List.count_pos_iff, h]
  have k : keysOf os = keysOf ps := keysOf_one (keysOf_nodup os) (fun v => mem_keysOf.trans (m v)) (keysOf_rise os)
  unfold tally
  rw [k]
  exact List.map_congr_left fun v _ => by rw [h]
theorem tally_inj {os ps : List Int} (h : tally os = tally ps) (v : Int) : os.count v = ps.count v := by
  have a := tally_get os v
  rw [h, tally_get] at a
  have := V.int.inj a
  omega
/-! ### how often a tick before the end is met -/
def timesT (T a s e : Nat) : Nat := if T ≤ a then 0 else if a < s then 1 else (T - a - 1) / (e - s) + 1
theorem succ_div (n p : Nat) (hp : 0 < p) : (n + 1) / p = n / p + if (n + 1) % p = 0 then 1 else 0 := by
  have h1 := Nat.div_add_mod n p
  have h2 := Nat.mod_lt n hp
  by_cases c : n % p + 1 < p
  · have e : n + 1 = (n % p + 1) + p * (n / p) := by omega
    have m : (n + 1) % p = n % p + 1 := by
      rw [e, Nat.add_mul_mod_self_left, Nat.mod_eq_of_lt c]
    have d : (n + 1) / p = n / p := by
      conv => lhs; rw [e]
      rw [Nat.add_mul_div_left _ _ hp, Nat.div_eq_of_lt c, Nat.zero_add]
    rw [d, if_neg (by omega)]
    rfl
  · have c' : n % p + 1 = p := by omega
    have e : n + 1 = 0 + p * (n / p + 1) := by
      rw [Nat.mul_add]
      omega
    have m : (n + 1) % p = 0 := by
      rw [e, Nat.add_mul_mod_self_left, Nat.zero_mod]
    have d : (n + 1) / p = n / p + 1 := by
      conv => lhs; rw [e]
      rw [Nat.add_mul_div_left _ _ hp, Nat.zero_div, Nat.zero_add]
    rw [d, if_pos m]
theorem times0 {T a s e : Nat} (h : T ≤ a) : timesT T a s e = 0 := if_pos h
theorem times1 {T a s e : Nat} (h : a < T) (h' : a < s) : timesT T a s e = 1 := by
  unfold timesT
  rw [if_neg (by omega : ¬ T ≤ a), if_pos h']
theorem times2 {T a s e : Nat} (h : a < T) (h' : s ≤ a) : timesT T a s e = (T - a - 1) / (e - s) + 1 := by
  unfold timesT
  rw [if_neg (by omega : ¬ T ≤ a), if_neg (by omega : ¬ a < s)]
theorem times_succ {T a s e : Nat} (h : s < e) (ha : a < e) : timesT (T + 1) a s e = timesT T a s e + if sameT T s e = a then 1 else 0 := by
  have hp : 0 < e - s := by omega
  by_cases c : T < e
  · have sm : sameT T s e = T := if_pos c
    rw [sm]
    by_cases c1 : T < a
    · rw [times0 (by omega), times0 (by omega), if_neg (by omega)]
    · by_cases c2 : T = a
      · subst c2
        rw [times0 (Nat.le_refl _), if_pos rfl]
        by_cases c3 : T < s
        · rw [times1 (by omega) c3]
        · rw [times2 (by omega) (by omega), show T + 1 - T - 1 = 0 by omega, Nat.zero_div]
      · rw [if_neg c2]
        by_cases c3 : a < s
        · rw [times1 (by omega) c3, times1 (by omega) c3]
        · rw [times2 (by omega) (by omega), times2 (by omega) (by omega), Nat.div_eq_of_lt (by omega), Nat.div_eq_of_lt (by omega)]
  · have sm : sameT T s e = s + (T - s) % (e - s) := if_neg c
    rw [sm]
    by_cases c3 : a < s
    · rw [times1 (by omega) c3, times1 (by omega) c3, if_neg (by omega)]
    · rw [times2 (by omega) (by omega), times2 (by omega) (by omega), show T + 1 - a - 1 = (T - a - 1) + 1 by omega, succ_div _ _ hp]
      have key : ((T - a - 1 + 1) % (e - s) = 0) ↔ (s + (T - s) % (e - s) = a) := by
        have e1 : T - a - 1 + 1 = T - a := by omega
        rw [e1]
        have e2 : T - s = (a - s) + (T - a) := by omega
        constructor
        · intro z
          have : (T - s) % (e - s) = a - s := by
            rw [e2, Nat.add_mod, z, Nat.add_zero, Nat.mod_mod, Nat.mod_eq_of_lt (by omega)]
          omega
        · intro z
          have z2 : (T - s) % (e - s) = a - s := by omega
          have d := Nat.div_add_mod (T - s) (e - s)
          rw [z2] at d
          have : T - a = (e - s) * ((T - s) / (e - s)) := by omega
          rw [this, Nat.mul_mod_right]
      by_cases z : (T - a - 1 + 1) % (e - s) = 0
      · rw [if_pos z, if_pos (key.mp z)]
      · rw [if_neg z, if_neg (fun y => z (key.mpr y))]
/-- the numbers that come out in the first T ticks -/
def outsF (rs : List Rule) (row : List Int) (T : Nat) : List Int := (List.range T).filterMap (outF rs row)
theorem outsF_succ (rs : List Rule) (row : List Int) (T : Nat) (v : Int) : (outsF rs row (T + 1)).count v = (outsF rs row T).count v + if outF rs row T = some v then 1 else 0 := by
  unfold outsF
  rw [List.range_succ, List.filterMap_append, List.count_append]
  congr 1
  cases h : outF rs row T with
  | none => simp [List.filterMap, h]
  | some x =>
    by_cases e : x = v
    · subst e
      simp [List.filterMap, h]
    · simp [List.filterMap, h, e]
/-- .. summed over the ticks before the end -/
def sumF (rs : List Rule) (row : List Int) (s e T : Nat) (v : Int) : Nat → Nat
  | 0 => 0
  | i + 1 => sumF rs row s e T v i + if outF rs row i = some v then timesT T i s e else 0
theorem sumF_zero (rs : List Rule) (row : List Int) (s e : Nat) (v : Int) : ∀ i, sumF rs row s e 0 v i = 0
  | 0 => rfl
  | i + 1 => by
    unfold sumF
    rw [sumF_zero rs row s e v i]
    unfold timesT
    rw [if_pos (Nat.zero_le _)]
    simp
theorem sumF_succ {rs : List Rule} {row : List Int} {s e T : Nat} {v : Int} (h : s < e) : ∀ i, i ≤ e → sumF rs row s e (T + 1) v i = sumF rs row s e T v i + if outF rs row (sameT T s e) = some v ∧ sameT T s e < i then 1 else 0
  | 0, _ => by
    show 0 = 0 + _
    rw [if_neg (fun z => by omega)]
  | i + 1, hi => by
    unfold sumF
    rw [sumF_succ h i (by omega), times_succ h (by omega)]
    by_cases c : sameT T s e = i
    · rw [c]
      by_cases d : outF rs row i = some v
      · simp [d]
        omega
      · simp [d]
    · by_cases d : outF rs row i = some v
      · have : (sameT T s e < i + 1) ↔ (sameT T s e < i) := by omega
        simp [d, c, this]
        omega
      · have : (sameT T s e < i + 1) ↔ (sameT T s e < i) := by omega
        simp [d, this]
theorem sumF_all {rs : List Rule} {row : List Int} {s e : Nat} (hr : row ≠ []) (c : Cyc rs row s e) (v : Int) : ∀ T, sumF rs row s e T v e = (outsF rs row T).count v
  | 0 => by
    rw [sumF_zero]
    rfl
  | T + 1 => by
    obtain ⟨h1, _, h3⟩ := c.same hr T
    rw [sumF_succ c.lt e (Nat.le_refl _), outsF_succ, sumF_all hr c v T, h3]
    congr 1
    by_cases d : outF rs row (sameT T s e) = some v
    · rw [if_pos d, if_pos ⟨d, h1⟩]
    · rw [if_neg d, if_neg fun z => d z.1]
end SC
set_option maxRecDepth 100000
set_option maxHeartbeats 2000000
/-! # Part Di: dicts of numbers as data: made once, then known to the object -/
namespace SC
open PySem PySem.Spec PyProof.Rows L2 TL
theorem un1 {n c : Nat} (h : n + 64 < c) : n + 1 < c := by omega
theorem un0 {n c : Nat} (h : n + 64 < c) : n < c := by omega
theorem boot_sorted'' : bootBuiltins "sorted" = some (.builtin "sorted") := by decide +kernel
def tFrz (t : TE) : TE := fun σ H Q => t σ H fun v H1 => ∃ a u, v = .ref a ∧ H1 a = some u ∧ L2.Mut (some u) ∧ ∀ od, Q v (upd H1 a (.frz od u))
theorem pe_frz {X : Cx} {e : Expr} {t : TE} (h : PE X e t) : PE X e (tFrz t) := ⟨fun pins s σ H Q I hw => thn (h.run pins s σ H _ I hw) fun v s1 ⟨x, H1, J, r, a, u, ex, eh, mu, q⟩ => by
  obtain ⟨od, J'⟩ := J.lock eh mu
  exact ⟨x, _, J', r, q od⟩⟩
section
variable {K : PySem.W.Frag} {M : List Addr} {σ : L2.St} {H : Hp} {td ty tx ta tb : TE} {l k : List (Int × Int)}
def dget (l : List (Int × Int)) (v : Int) : Int := ((l.find? fun p => decide (p.1 = v)).map (·.2)).getD 0
theorem dget_val (l : List (Int × Int)) (v : Int) : (valV (kvI l) (.inl v)).getD (.int 0) = .int (dget l v) := by
  rw [valV_kvI]
  unfold dget
  cases l.find? (fun p => decide (p.1 = v)) <;> rfl
theorem dget_tally (os : List Int) (v : Int) : dget (tally os) v = (os.count v : Nat) := by
  have a := dget_val (tally os) v
  rw [tally_get] at a
  exact (V.int.inj a).symm
/-- d.get(v, 0) -/
theorem rd_dicGet {v : Int} (hd : Rd K M td σ H (.dic l)) (hy : Rd K M ty σ H (.int v)) (hx : Rd K M tx σ H (.int 0)) : Rd K M (tDGet2 td ty tx) σ H (.int (dget l v)) :=
  fun H1 s1 g Q k => hd H1 s1 g _ fun x H2 s2 g2 rx => by
    obtain ⟨a, o, rfl, e⟩ := rx
    refine ⟨a, rfl, .inl ⟨_, .inr ⟨o, wo_le _ _ e⟩⟩, hy H2 (s1.trans s2) g2 _ fun y H3 s3 g3 ry => ?_⟩
    refine hx H3 ((s1.trans s2).trans s3) g3 _ fun z H4 s4 g4 rz => ?_
    cases ry
    cases rz
    refine ⟨_, .inl ⟨kvI l, .inl v, .inr ⟨o, s4 _ _ (s3 _ _ (wo_le _ _ e))⟩, rfl, rfl⟩, ?_⟩
    rw [dget_val]
    exact k _ H4 ((s2.trans s3).trans s4) g4 rfl
/-- d[v] -/
theorem rd_dicIx {v c : Int} (hv : valV (kvI l) (.inl v) = some (.int c)) (hd : Rd K M td σ H (.dic l)) (hy : Rd K M ty σ H (.int v)) : Rd K M (tDGet td ty) σ H (.int c) :=
  fun H1 s1 g Q k => hd H1 s1 g _ fun x H2 s2 g2 rx => by
    obtain ⟨a, o, rfl, e⟩ := rx
    refine hy H2 (s1.trans s2) g2 _ fun y H3 s3 g3 ry => ?_
    cases ry
    exact ⟨a, .int c, rfl, .inl ⟨kvI l, .inl v, .inr ⟨o, s3 _ _ (wo_le _ _ e)⟩, rfl, hv.symm⟩, k _ H3 (s2.trans s3) g3 rfl⟩
/-! ### == and != -/
def dicEq (k l : List (Int × Int)) : Bool := k.length == l.length && k.all fun p => decide (valV (kvI l) (.inl p.1) = some (.int p.2))
theorem rel_int {i : Int} {u : Value} (r : RelV (.int i) u) : ∃ t, u = Value.int i t := r
theorem kv_hits {A : Around} {s : Shared} {l : List (Int × Int)} {vb : List (Key × Value)} (rb : KV (kvI l) vb) : ∀ {k : List (Int × Int)} {va : List (Key × Value)}, KV (kvI k) va → PySem.W.KeqHits A s vb va (k.all fun p => decide (valV (kvI l) (.inl p.1) = some (.int p.2)))
  | [], _, ra => by
    cases ra
    exact .nil
  | p :: ps, va, ra => by
    cases ra with
    | @cons _ q _ qs hpq rest =>
      obtain ⟨q1, q2⟩ := q
      obtain ⟨e1, r1⟩ := hpq
      have e1 : Sum.inl p.1 = q1 := e1
      subst e1
      have tl := kv_hits (A := A) (s := s) rb (k := ps) rest
      have rv := rb.val (Sum.inl p.1)
      cases hv : valV (kvI l) (Sum.inl p.1) with
      | none =>
        rw [hv] at rv
        have en : valueAt vb (Sum.inl p.1) = none := by
          cases hq : valueAt vb (Sum.inl p.1) with
          | none => rfl
          | some z => rw [hq] at rv; exact rv.elim
        rw [List.all_cons, hv, decide_eq_false (by simp), Bool.false_and]
        exact .miss en
      | some z =>
        rw [hv] at rv
        obtain ⟨y, hy, ry⟩ := rv.some_of
        have hz : ∃ j, z = .int j := by
          rw [valV_kvI] at hv
          cases hf : l.find? (fun p_1 => decide (p_1.1 = p.1)) with
          | none => rw [hf] at hv; cases hv
          | some w => rw [hf] at hv; exact ⟨w.2, (Option.some.inj hv).symm⟩
        obtain ⟨j, rfl⟩ := hz
        obtain ⟨t, rfl⟩ := rel_int r1
        obtain ⟨t', rfl⟩ := rel_int ry
        have eq := SeqAt.EqAt.int_int (A := A) (s := s) p.2 t j t'
        rw [List.all_cons, hv]
        have eb : decide (some (V.int j) = some (V.int p.2)) = (p.2 == j) := by
          by_cases h : p.2 = j
          · subst h
            simp
          · have h' : ¬ j = p.2 := fun z => h z.symm
            simp [h, h']
        rw [eb]
        exact .hit hy eq tl
def rDic (f : Bool → Bool) : R2 := fun x y H Q => ∃ (a b : Addr) (oa ob : Obj) (k l : List (Int × Int)), x = .ref a ∧ y = .ref b ∧ H a = some (.frz oa (.dK (kvI k))) ∧ H b = some (.frz ob (.dK (kvI l))) ∧ Q (.bl (f (dicEq k l))) H
section
variable {X : Cx}
theorem dic_len {k l : List (Int × Int)} {va vb : List (Key × Value)} (ra : KV (kvI k) va) (rb : KV (kvI l) vb) : (va.length == vb.length) = (k.length == l.length) := by
  have z1 := Paired.length ra
  have z2 := Paired.length rb
  unfold kvI at z1 z2
  rw [List.length_map] at z1 z2
  rw [← z1, ← z2]
theorem op_eqDic (hu : X.A.units < cLine) : OpR X (compareOp .Eq) (rDic id) := fun pins s σ H x y v u Q I rx ry h => by
  obtain ⟨a, b, oa, ob, k, l, ex, ey, ha, hb, q⟩ := h
  subst ex
  subst ey
  obtain rfl : v = Value.ref a := rx
  obtain rfl : u = Value.ref b := ry
  obtain ⟨z1, y1, va, ra, da⟩ := (I.hok a _ ha).2
  obtain ⟨z2, y2, vb, rb, db⟩ := (I.hok b _ hb).2
  refine PySem.W.keq_eq (knd := mixKind X.prog X.w) y1 y2 da db hu (fun _ => kv_hits rb ra) (fin_bl I q ?_)
  rw [dic_len ra rb]
  rfl
theorem op_neDic (hu : X.A.units < cLine) : OpR X (compareOp .NotEq) (rDic not) := fun pins s σ H x y v u Q I rx ry h => by
  obtain ⟨a, b, oa, ob, k, l, ex, ey, ha, hb, q⟩ := h
  subst ex
  subst ey
  obtain rfl : v = Value.ref a := rx
  obtain rfl : u = Value.ref b := ry
  obtain ⟨z1, y1, va, ra, da⟩ := (I.hok a _ ha).2
  obtain ⟨z2, y2, vb, rb, db⟩ := (I.hok b _ hb).2
  refine PySem.W.keq_ne (knd := mixKind X.prog X.w) y1 y2 da db hu (fun _ => kv_hits rb ra) (fin_bl I q ?_)
  rw [dic_len ra rb]
  rfl
end
theorem rd_dicEq {f : Bool → Bool} (ha : Rd K M ta σ H (.dic k)) (hb : Rd K M tb σ H (.dic l)) : Rd K M (tOp (rDic f) ta tb) σ H (.bl (f (dicEq k l))) :=
  rd_op ha hb fun x y H1 Q g hx hy q => by
    obtain ⟨a, oa, rfl, e1⟩ := hx
    obtain ⟨b, ob, rfl, e2⟩ := hy
    exact ⟨a, b, oa, ob, k, l, rfl, rfl, wo_le _ _ e1, wo_le _ _ e2, q _ H1 (Same.refl _) g rfl⟩
theorem sub_all : ∀ {a b : List Int}, a.Nodup → (∀ v ∈ a, v ∈ b) → b.length ≤ a.length → ∀ v ∈ b, v ∈ a
  | [], b, _, _, h, v, hv => by
    have := List.length_pos_of_mem hv
    simp at h
    subst h
    cases hv
  | x :: a, b, nd, sub, h, v, hv => by
    by_cases e : v = x
    · rw [e]
      exact List.mem_cons_self
    · have nd' := List.nodup_cons.mp nd
      refine List.mem_cons_of_mem _ (sub_all (b := b.erase x) nd'.2 (fun u hu => (List.mem_erase_of_ne (fun z => nd'.1 (by rw [← z]; exact hu))).mpr (sub u (List.mem_cons_of_mem _ hu))) ?_ v ((List.mem_erase_of_ne e).mpr hv))
      rw [List.length_erase_of_mem (sub x List.mem_cons_self)]
      rw [List.length_cons] at h
      omega
theorem dicEq_tally {os ps : List Int} : dicEq (tally os) (tally ps) = decide (tally os = tally ps) := by
  unfold dicEq
  by_cases h : tally os = tally ps
  · rw [decide_eq_true h, ← h, beq_self_eq_true, Bool.true_and, List.all_eq_true]
    intro p hp
    obtain ⟨h1, h2⟩ := tally_mem (v := p.1) (c := p.2) hp
    rw [valV_tally, if_pos h1, h2]
    exact decide_eq_true rfl
  · rw [decide_eq_false h]
    by_cases c : (tally os).length = (tally ps).length
    · rw [c, beq_self_eq_true, Bool.true_and]
      cases hA : (tally os).all fun p => decide (valV (kvI (tally ps)) (.inl p.1) = some (.int p.2)) with
      | false => rfl
      | true =>
        refine absurd ?_ h
        have al := List.all_eq_true.mp hA
        have sub : ∀ v, v ∈ os → v ∈ ps ∧ os.count v = ps.count v := fun v hv => by
          have hm : (v, ((os.count v : Nat) : Int)) ∈ tally os := List.mem_map.mpr ⟨v, mem_keysOf.mpr hv, rfl⟩
          have z := of_decide_eq_true (al _ hm)
          rw [valV_tally] at z
          by_cases hp : v ∈ ps
          · rw [if_pos hp] at z
            have z : ((ps.count v : Nat) : Int) = ((os.count v : Nat) : Int) := V.int.inj (Option.some.inj z)
            exact ⟨hp, by omega⟩
          · rw [if_neg hp] at z
            cases z
        have ks : (keysOf os).length = (keysOf ps).length := by
          unfold tally at c
          rw [List.length_map, List.length_map] at c
          exact c
        have pm := sub_all (keysOf_nodup os) (fun v hv => mem_keysOf.mpr (sub v (mem_keysOf.mp hv)).1) (Nat.le_of_eq ks.symm)
        refine tally_ext fun v => ?_
        by_cases hv : v ∈ os
        · exact (sub v hv).2
        · have hp : v ∉ ps := fun z => hv (mem_keysOf.mp (pm v (mem_keysOf.mpr z)))
          rw [List.count_eq_zero.mpr hv, List.count_eq_zero.mpr hp]
    · have : ((tally os).length == (tally ps).length) = false := by simpa using c
      rw [this, Bool.false_and]
end
end SC
set_option maxRecDepth 100000
set_option maxHeartbeats 2000000
/-! # Part Fm: rows that come again, as one long row (mathematics) -/
namespace SC
open PySem PySem.Spec PyProof.Rows L2 TL
def inL (row : List Int) (n : Nat) : List Int := (List.range n).map fun u => (row[u % row.length]?).getD 0
theorem inL_len (row : List Int) (n : Nat) : (inL row n).length = n := by
  unfold inL
  rw [List.length_map, List.length_range]
theorem row_at {row : List Int} (h : row ≠ []) (t : Nat) : ∃ x, row[t % row.length]? = some x ∧ x ∈ row := by
  have lt := Nat.mod_lt t (List.length_pos_iff.mpr h)
  exact ⟨_, List.getElem?_eq_getElem lt, List.getElem_mem lt⟩
theorem inL_get {row : List Int} (h : row ≠ []) {n t : Nat} (ht : t < n) : (inL row n)[t]? = row[t % row.length]? := by
  obtain ⟨x, e, _⟩ := row_at h t
  unfold inL
  rw [List.getElem?_map, List.getElem?_range ht, e]
  show some ((row[t % row.length]?).getD 0) = some x
  rw [e]
  rfl
theorem inL_mem {row : List Int} (h : row ≠ []) {n : Nat} {z : Int} (hz : z ∈ inL row n) : z ∈ row := by
  unfold inL at hz
  obtain ⟨u, _, e⟩ := List.mem_map.mp hz
  obtain ⟨x, e1, e2⟩ := row_at h u
  rw [← e, e1]
  exact e2
theorem inL_take (row : List Int) {n m : Nat} (h : m ≤ n) : (inL row n).take m = inL row m := by
  unfold inL
  rw [← List.map_take, List.take_range, Nat.min_eq_left h]
theorem inL_add (row : List Int) (k : Nat) : inL row (row.length + k) = row ++ inL row k := by
  apply List.ext_getElem?
  intro t
  by_cases hr : row = []
  · subst hr
    simp [inL]
  · rcases Nat.lt_or_ge t (row.length + k) with c | c
    · rw [inL_get hr c]
      rcases Nat.lt_or_ge t row.length with d | d
      · rw [List.getElem?_append_left d, Nat.mod_eq_of_lt d]
      · rw [List.getElem?_append_right d, inL_get hr (by omega)]
        congr 1
        have : t = (t - row.length) + row.length := by omega
        conv => lhs; rw [this, Nat.add_mod_right]
    · rw [List.getElem?_eq_none (by rw [inL_len]; exact c), List.getElem?_eq_none (by rw [List.length_append, inL_len]; exact c)]
theorem inL_rep (row : List Int) : ∀ k, (List.replicate k row).flatten = inL row (k * row.length)
  | 0 => by
    rw [Nat.zero_mul]
    rfl
  | k + 1 => by
    rw [List.replicate_succ, List.flatten_cons, inL_rep row k, Nat.add_mul, Nat.one_mul, Nat.add_comm, inL_add]
/-- a row let in is the flow's beginning -/
theorem run_F {rs : List Rule} {row : List Int} (h : row ≠ []) : ∀ n, runR rs (nones rs.length) (inL row n) = ((List.range n).map (outF rs row), heldF rs row n)
  | 0 => by
    rw [held_zero]
    rfl
  | n + 1 => by
    obtain ⟨x, e, _⟩ := row_at h n
    have es : inL row (n + 1) = inL row n ++ [x] := by
      unfold inL
      rw [List.range_succ, List.map_append]
      show _ ++ [(row[n % row.length]?).getD 0] = _
      rw [e]
      rfl
    rw [es, run_app, run_F h n]
    have st := held_step (rs := rs) (row := row) (t := n) e
    have r1 : runR rs (heldF rs row n) [x] = ([outF rs row n], heldF rs row (n + 1)) := by
      show (let p := stepR rs (heldF rs row n) (some x); let q := runR rs p.1 []; (p.2 :: q.1, q.2)) = _
      rw [st]
      rfl
    rw [r1, List.range_succ, List.map_append]
    rfl
theorem out_none {rs : List Rule} {row : List Int} (h : row ≠ []) (t : Nat) : outF rs row t = none ↔ t < rs.length := by
  obtain ⟨ds, e, hd⟩ := run_shape rs (inL row (t + 1)) [] rs.length (by simp)
  have e0 : (([] : List Int).map some ++ nones rs.length) = nones rs.length := rfl
  rw [e0, run_F h, inL_len] at e
  have g := congrArg (fun l : List (Option Int) => l[t]?) e
  have g : ((List.range (t + 1)).map (outF rs row))[t]? = (nones (min rs.length (t + 1)) ++ ds.map some)[t]? := g
  rw [List.getElem?_map, List.getElem?_range (Nat.lt_succ_self _)] at g
  have g : some (outF rs row t) = (nones (min rs.length (t + 1)) ++ ds.map some)[t]? := g
  by_cases c : t < rs.length
  · rw [List.getElem?_append_left (by rw [nones_len]; omega)] at g
    unfold nones at g
    rw [List.getElem?_replicate, if_pos (by omega)] at g
    exact ⟨fun _ => c, fun _ => Option.some.inj g⟩
  · rw [List.getElem?_append_right (by rw [nones_len]; omega), List.getElem?_map] at g
    refine ⟨fun z => ?_, fun z => absurd z c⟩
    rw [z] at g
    cases hq : ds[t - (nones (min rs.length (t + 1))).length]? with
    | none => rw [hq] at g; cases g
    | some y => rw [hq] at g; cases g
theorem out_some {rs : List Rule} {row : List Int} (h : row ≠ []) {t : Nat} (ht : rs.length ≤ t) : ∃ y, outF rs row t = some y := by
  cases e : outF rs row t with
  | none => exact absurd ((out_none h t).mp e) (by omega)
  | some y => exact ⟨y, rfl⟩
theorem alike_len {ra rb : List Rule} {row : List Int} (h : row ≠ []) (al : ∀ t, outF ra row t = outF rb row t) : ra.length = rb.length := by
  have a := (out_none (rs := ra) h rb.length)
  have b := (out_none (rs := rb) h rb.length)
  have c := (out_none (rs := ra) h ra.length)
  have d := (out_none (rs := rb) h ra.length)
  rw [al] at a c
  have e1 : ¬ rb.length < ra.length := fun z => Nat.lt_irrefl _ (b.mp (a.mpr z))
  have e2 : ¬ ra.length < rb.length := fun z => Nat.lt_irrefl _ (c.mp (d.mpr z))
  omega
theorem outs_alike {ra rb : List Rule} {row : List Int} {T : Nat} (al : ∀ t, t < T → outF ra row t = outF rb row t) : outsF ra row T = outsF rb row T := by
  unfold outsF
  induction T with
  | zero => rfl
  | succ T ih =>
    rw [List.range_succ, List.filterMap_append, List.filterMap_append, ih fun t ht => al t (by omega)]
    congr 1
    simp only [List.filterMap, al T (Nat.lt_succ_self _)]
theorem outs_unlike {ra rb : List Rule} {row : List Int} {T : Nat} (al : ∀ t, t < T → outF ra row t = outF rb row t) (ne : outF ra row T ≠ outF rb row T) : tally (outsF ra row (T + 1)) ≠ tally (outsF rb row (T + 1)) := fun z => by
  have c := tally_inj z
  have e := outs_alike al
  cases ha : outF ra row T with
  | some v =>
    have cv := c v
    rw [outsF_succ, outsF_succ, e, ha, if_pos rfl, if_neg (fun y => ne (by rw [ha, y]))] at cv
    omega
  | none =>
    cases hb : outF rb row T with
    | none => exact ne (by rw [ha, hb])
    | some v =>
      have cv := c v
      rw [outsF_succ, outsF_succ, e, hb, if_pos rfl, if_neg (by rw [ha]; simp)] at cv
      omega
theorem cyc_shift {rs : List Rule} {row : List Int} {s e : Nat} (hr : row ≠ []) (c : Cyc rs row s e) {u : Nat} (hu : s ≤ u) (q : Nat) : keyF rs row (u + q * (e - s)) = keyF rs row u ∧ outF rs row (u + q * (e - s)) = outF rs row u := by
  have z := c.back hr q (u - s)
  rw [show s + (u - s) = u by omega] at z
  exact z
theorem unlike_soon {ra rb : List Rule} {row : List Int} {sa ea sb eb t : Nat} (hr : row ≠ []) (ca : Cyc ra row sa ea) (cb : Cyc rb row sb eb) (ne : outF ra row t ≠ outF rb row t) (al : ∀ u, u < t → outF ra row u = outF rb row u) : t < max sa sb + (ea - sa) * (eb - sb) := by
  rcases Nat.lt_or_ge t (max sa sb + (ea - sa) * (eb - sb)) with c | c
  · exact c
  · have pa := ca.lt
    have pb := cb.lt
    have pos : 0 < (ea - sa) * (eb - sb) := Nat.mul_pos (by omega) (by omega)
    obtain ⟨u, eu⟩ : ∃ u, u = t - (ea - sa) * (eb - sb) := ⟨_, rfl⟩
    have h1 := (cyc_shift hr ca (u := u) (by omega) (eb - sb)).2
    have h2 := (cyc_shift hr cb (u := u) (by omega) (ea - sa)).2
    rw [Nat.mul_comm (eb - sb) (ea - sa), show u + (ea - sa) * (eb - sb) = t by omega] at h1
    rw [show u + (ea - sa) * (eb - sb) = t by omega] at h2
    exact absurd (by rw [h1, h2]; exact al u (by omega)) ne
theorem cyc_mod {rs : List Rule} {row : List Int} {s e : Nat} (c : Cyc rs row s e) : (e - s) % row.length = 0 := by
  have z : e % row.length = s % row.length := congrArg Prod.snd c.again
  have lt := c.lt
  have h1 := Nat.div_add_mod e row.length
  have h2 := Nat.div_add_mod s row.length
  have : e - s = row.length * (e / row.length) - row.length * (s / row.length) := by omega
  rw [this, ← Nat.mul_sub, Nat.mul_mod_right]
/-- the i-th number that comes out -/
theorem outsF_from {rs : List Rule} {row : List Int} (h : row ≠ []) : ∀ n, outsF rs row n = (List.range (n - rs.length)).filterMap fun i => outF rs row (rs.length + i)
  | 0 => by
    rw [Nat.zero_sub]
    rfl
  | n + 1 => by
    have ih := outsF_from (rs := rs) h n
    unfold outsF at ih ⊢
    rw [List.range_succ, List.filterMap_append, ih]
    rcases Nat.lt_or_ge n rs.length with c | c
    · have e := (out_none (rs := rs) h n).mpr c
      rw [show n + 1 - rs.length = 0 by omega, show n - rs.length = 0 by omega]
      simp [List.filterMap, e]
    · rw [show n + 1 - rs.length = (n - rs.length) + 1 by omega, List.range_succ, List.filterMap_append]
      congr 1
      simp only [List.filterMap, show rs.length + (n - rs.length) = n by omega]
theorem fm_all {f : Nat → Option Int} (h : ∀ i, ∃ y, f i = some y) : ∀ n, ((List.range n).filterMap f).length = n ∧ ∀ i, i < n → ((List.range n).filterMap f)[i]? = f i
  | 0 => ⟨rfl, fun i hi => absurd hi (Nat.not_lt_zero _)⟩
  | n + 1 => by
    obtain ⟨l, g⟩ := fm_all h n
    obtain ⟨y, e⟩ := h n
    have s : (List.range (n + 1)).filterMap f = (List.range n).filterMap f ++ [y] := by
      rw [List.range_succ, List.filterMap_append]
      simp [List.filterMap, e]
    refine ⟨by rw [s, List.length_append, l]; rfl, fun i hi => ?_⟩
    rw [s]
    rcases Nat.lt_or_ge i n with c | c
    · rw [List.getElem?_append_left (by rw [l]; exact c)]
      exact g i c
    · have : i = n := by omega
      subst this
      rw [List.getElem?_append_right (by rw [l]; exact Nat.le_refl _), l, Nat.sub_self, e]
      rfl
theorem outsF_len {rs : List Rule} {row : List Int} (h : row ≠ []) (n : Nat) : (outsF rs row n).length = n - rs.length := by
  rw [outsF_from h]
  exact (fm_all (fun i => out_some h (Nat.le_add_right _ _)) _).1
theorem outsF_get {rs : List Rule} {row : List Int} (h : row ≠ []) {n i : Nat} (hi : rs.length + i < n) : (outsF rs row n)[i]? = outF rs row (rs.length + i) := by
  rw [outsF_from h]
  exact (fm_all (fun i => out_some h (Nat.le_add_right _ _)) _).2 i (by omega)
end SC
set_option maxRecDepth 100000
set_option maxHeartbeats 2000000
/-! # Part Fn: readings that the laws on flows want -/
namespace SC
open PySem PySem.Spec PyProof.Rows L2 TL
section
variable {K : PySem.W.Frag} {M : List Addr} {σ : L2.St} {H : Hp} {ta tb tc : TE}
theorem rd_maxP {u : TA} {i j : Int} (h : RdA K M u σ H [.int i, .int j]) : Rd K M (tCB (fun xs H Q => ∃ i j, xs = [.int i, .int j] ∧ Q (.int (if j > i then j else i)) H) u) σ H (.int (max i j)) :=
  rd_cb h fun xs H1 Q g hx k => by
    obtain ⟨v, vs, rfl, r1, w, vs2, rfl, r2, r3⟩ := hx
    cases r1
    cases r2
    cases r3
    refine ⟨i, j, rfl, k _ H1 (Same.refl _) g ?_⟩
    show V.int _ = V.int _
    congr 1
    split <;> omega
theorem go_val2 {r : R2} {x y : V} {Q : VK} (h : tOp r (tVal x) (tVal y) σ H Q) : r x y H Q := h
theorem rd_orT {tx ty : TE} {c : Bool} (ha : Rd K M tx σ H (.bl c)) (hb : Rd K M ty σ H (.bl true)) : Rd K M (tOrV tx ty) σ H (.bl true) := fun H1 s1 g Q k => ha H1 s1 g _ fun v H2 s2 g2 r2 => by
  cases r2
  refine ⟨c, rfl, ?_⟩
  cases c with
  | true => exact iteT (k _ H2 s2 g2 rfl)
  | false => exact iteF (hb H2 (s1.trans s2) g2 _ fun w H3 s3 g3 r3 => k w H3 (s2.trans s3) g3 r3)
/-- row * n -/
theorem rd_repI {row : List Int} {n : Nat} (hn : n < 1000000) (hl : row.length * n ≤ sizeLine) (ha : Rd K M ta σ H (.lst (row.map D.int))) (hb : Rd K M tb σ H (.int (n : Nat))) : Rd K M (tOp rRep ta tb) σ H (.lst ((inL row (n * row.length)).map D.int)) :=
  (rd_rep (by omega) (by omega) (by rw [List.length_map, Int.toNat_natCast]; exact hl) ha hb).cast (by
    rw [Int.toNat_natCast, ← inL_rep, List.map_flatten, List.map_replicate])
/-- numbers or none, as an Option of a Nat -/
def dN (o : Option Nat) : D := dO (o.map fun t => ((t : Nat) : Int))
theorem rd_neN {i j : Option Nat} {tx ty : TE} (ha : Rd K M tx σ H (dN i)) (hb : Rd K M ty σ H (dN j)) (he : i = j) : ∀ {r : R2}, (∀ {a b : Option Int}, Rd K M tx σ H (dO a) → Rd K M ty σ H (dO b) → Rd K M (tOp r tx ty) σ H (.bl (!decide (a = b)))) → Rd K M (tOp r tx ty) σ H (.bl false) := fun {r} h => by
  subst he
  have z := h (a := i.map fun t => ((t : Nat) : Int)) (b := i.map fun t => ((t : Nat) : Int)) ha hb
  rw [decide_eq_true rfl] at z
  exact z
end
/-- the first tick at which two chains are unlike -/
def UnlF (ra rb : List Rule) (row : List Int) : Option Nat → Prop
  | none => ∀ t, outF ra row t = outF rb row t
  | some t => outF ra row t ≠ outF rb row t ∧ ∀ u, u < t → outF ra row u = outF rb row u
theorem unl_ex (ra rb : List Rule) (row : List Int) : ∃ o, UnlF ra rb row o := by
  by_cases h : ∃ t, outF ra row t ≠ outF rb row t
  · obtain ⟨t, ht⟩ := h
    induction t using Nat.strongRecOn with
    | ind t ih =>
      by_cases c : ∃ u, u < t ∧ outF ra row u ≠ outF rb row u
      · obtain ⟨u, hu, hn⟩ := c
        exact ih u hu hn
      · exact ⟨some t, ht, fun u hu => Classical.byContradiction fun z => c ⟨u, hu, z⟩⟩
  · exact ⟨none, fun t => Classical.byContradiction fun z => h ⟨t, z⟩⟩
theorem UnlF.symm {ra rb : List Rule} {row : List Int} : ∀ {o : Option Nat}, UnlF ra rb row o → UnlF rb ra row o
  | none, h => fun t => (h t).symm
  | some t, h => ⟨fun z => h.1 z.symm, fun u hu => (h.2 u hu).symm⟩
/-- the ticks below n at which they are unlike -/
def unlikes (ra rb : List Rule) (row : List Int) (n : Nat) : List Nat := (List.range n).filter fun t => !decide (outF ra row t = outF rb row t)
theorem unlikes_mem {ra rb : List Rule} {row : List Int} {n t : Nat} : t ∈ unlikes ra rb row n ↔ t < n ∧ outF ra row t ≠ outF rb row t := by
  unfold unlikes
  rw [List.mem_filter, List.mem_range]
  simp
theorem unlikes_head {ra rb : List Rule} {row : List Int} {n x : Nat} {xs : List Nat} {o : Option Nat} (h : UnlF ra rb row o) (e : unlikes ra rb row n = x :: xs) : o = some x := by
  have hx := unlikes_mem.mp (show x ∈ unlikes ra rb row n by rw [e]; exact List.mem_cons_self)
  cases o with
  | none => exact absurd (h x) hx.2
  | some t =>
    obtain ⟨h1, h2⟩ := h
    have tx : t ≤ x := by
      rcases Nat.lt_or_ge x t with c | c
      · exact absurd (h2 x c) hx.2
      · exact c
    have ht : t ∈ unlikes ra rb row n := unlikes_mem.mpr ⟨by omega, h1⟩
    have pw : (unlikes ra rb row n).Pairwise (· < ·) := List.Pairwise.filter _ List.pairwise_lt_range
    rw [e] at ht pw
    rcases List.mem_cons.mp ht with z | z
    · rw [z]
    · have := (List.pairwise_cons.mp pw).1 t z
      omega
def unlG (ra rb : List Rule) (row : List Int) : D → Option D
  | .int j => if (!decide (outF ra row j.toNat = outF rb row j.toNat)) = true then some (.int j) else none
  | _ => none
theorem unlG_all (ra rb : List Rule) (row : List Int) (n : Nat) : (rngD n).filterMap (unlG ra rb row) = (unlikes ra rb row n).map fun t : Nat => D.int (t : Int) := by
  unfold rngD unlikes
  generalize List.range n = l
  induction l with
  | nil => rfl
  | cons x xs ih =>
    rw [List.map_cons, List.filterMap_cons, List.filter_cons]
    have e : unlG ra rb row (D.int (x : Int)) = if (!decide (outF ra row x = outF rb row x)) = true then some (D.int (x : Int)) else none := rfl
    rw [e]
    by_cases h : (!decide (outF ra row x = outF rb row x)) = true
    · rw [if_pos h, if_pos h, List.map_cons, ← ih]
    · rw [if_neg h, if_neg h, ← ih]
end SC
set_option maxRecDepth 100000
set_option maxHeartbeats 2000000
/-! # Part Se: list(d.items()) and sum(d.values()) of a dict that stands still; set(xs), sorted of it -/
namespace SC
open PySem PySem.Spec PyProof.Rows L2 TL
/-! ### list(d.items()) -/
def tItemsF (te : TE) : TE := fun σ H Q => te σ H fun x H1 => ∃ (d : Addr) (od : Obj) (kvs : List (Key × V)), x = .ref d ∧ H1 d = some (.frz od (.dK kvs)) ∧
  ∀ (H2 : Hp) (p : Addr) (ts : List Addr), Same H1 H2 → H1 p = none → (∀ t ∈ ts, H1 t = none) → p ∉ ts → H2 p = some (.lst (ts.map V.ref)) → Paired (fun (t : Addr) (q : Key × V) => H2 t = some (.tup [kV q.1, q.2])) ts kvs → Q (.ref p) H2
section
variable {X : Cx} {e : Expr} {te : TE} {p apos cpos pos : Pos}
theorem pe_itemsF (hc : X.calm = true) (he : PE X e te) (hg : Gl X "list") (hm : X.mg "list" = none) (hv : bootBuiltins "list" = some (.type "list")) (hb0 : attributeBase e "items" X.env (eval e X.env) = eval e X.env := by rfl) (hl0 : (apos.endLine == cpos.line) = true := by rfl)
    (hs0 : starEach [.Call (.Attribute e "items" apos) [] [] cpos] X.env = (false, eval (.Call (.Attribute e "items" apos) [] [] cpos) X.env) :: starEach [] X.env := by rfl) :
    PE X (.Call (.Name "list" p) [.Call (.Attribute e "items" apos) [] [] cpos] [] pos) (tItemsF te) := ⟨fun pins s σ H Q I q0 => by
  refine wpAny_Call_Name_kw (ld_blt I hg hm hv (PyProof.Rows.callWith_type1 ?_ hs0 rfl))
  rw [hs0]
  refine Calls.spliced_cons (wpAny_Call_method (T := "dict") (id := "dict.items") hb0 rfl hl0 F.plainAttrs_dict F.slot_dict_items F.type_dict_items (thn (he.run pins s σ H _ I q0) fun u s1 ⟨x, H1, I1, rx, d, od, kvs, ex, hd, q⟩ => ?_))
  subst ex
  obtain rfl : u = Value.ref d := rx
  obtain ⟨ns, _, _, es, ep, vs, _, sz, kv, at1⟩ := I1.frzK hd
  have lk : kvs.length = vs.length := Paired.length kv
  have hz : kvs.length ≤ sizeLine := (I1.hok d _ hd).2.1
  have Iv : Inv X pins σ H1 { s1 with heap := s1.heap.push { cls := .type "dict_items", data := .fields #[.ref d] } } := I1.kept (t' := s1.toks) fun b ob y => Heap.get?_push_of_some _ y
  refine ⟨at1.dictOf.typeIs, at1.dictOf.mapOf.noDict, method_meetsIn F.slot_dict_items F.entry_dict_items rfl (PySem.evalArgs_none ⟨rfl, at1.dictOf.typeIs, F.args_dict_items_1 _, _, meets_dict_items (mixKind X.prog X.w) d ns, ⟨vs, at1.dictOf⟩, ?_⟩)⟩
  refine Calls.spliced_nil (PySem.W.kdx_call (knd := mixKind X.prog X.w) (kvs := vs) (ep := ep) (I1.ok.hd hc) ⟨_, Heap.get?_push_size _ rfl, rfl, rfl⟩ (at1.push _) (by omega) fun h2 tk2 acc2 c2 as2 k2 hS2 hl2 hG2 ha2 => ?_)
  obtain ⟨H2, j1, j2, j3, j4, j5, j6, J⟩ := LiI.items_laid (tk := tk2) Iv hz kv k2 hS2 hl2 hG2 ha2
  exact ⟨.ref _, H2, J, rfl, q H2 _ as2 j1 j2 j3 j4 j5 j6⟩⟩
end
section
variable {K : PySem.W.Frag} {M : List Addr} {σ : L2.St} {H : Hp} {te : TE} {l : List (Int × Int)}
def itD (kv : Int × Int) : D := .tup [.int kv.1, .int kv.2]
theorem rd_items (h : Rd K M te σ H (.dic l)) : Rd K M (tItemsF te) σ H (.lst (l.map itD)) := fun H1 s1 g Q k => h H1 s1 g _ fun v H2 s2 g2 r2 => by
  obtain ⟨a, o, rfl, e⟩ := r2
  refine ⟨a, o, _, rfl, wo_le _ _ e, fun H3 p ts s3 hp hts npt e3 pr => ?_⟩
  refine k _ H3 (s2.trans s3) (g2.same s3) ⟨p, _, rfl, by rw [wo_at (g2.out hp)]; exact e3, ?_⟩
  have key : ∀ {ts : List Addr} {kvs : List (Int × Int)}, (∀ t ∈ ts, H2 t = none) → Paired (fun (t : Addr) (q : Key × V) => H3 t = some (.tup [kV q.1, q.2])) ts (kvI kvs) → RpL K (wo M H3) (kvs.map itD) (ts.map V.ref) := fun {ts kvs} => by
    induction kvs generalizing ts with
    | nil => intro _ z; cases z; exact rfl
    | cons kv kvs ih =>
      intro ht z
      cases z with
      | @cons t _ ts' _ h1 h2 =>
        exact ⟨.ref t, _, rfl, ⟨t, _, rfl, by rw [wo_at (g2.out (ht t List.mem_cons_self))]; exact h1, _, _, rfl, rfl, _, _, rfl, rfl, rfl⟩, ih (fun x hx => ht x (List.mem_cons_of_mem _ hx)) h2⟩
  exact key hts pr
end
/-! ### sum(d.values()) -/
def tSumV (te : TE) : TE := fun σ H Q => te σ H fun x H1 => ∃ (d : Addr) (od : Obj) (l : List (Int × Int)), x = .ref d ∧ H1 d = some (.frz od (.dK (kvI l))) ∧ Q (.int (l.map (·.2)).sum) H1
theorem sum_kv {l : List (Int × Int)} (val : Nat → Int) (hv : ∀ (i : Nat) (p : Int × Int), l[i]? = some p → val i = p.2) : ∀ n, n ≤ l.length → preSum val n = ((l.take n).map (·.2)).sum
  | 0, _ => rfl
  | n + 1, hn => by
    have hx : l[n]? = some l[n] := List.getElem?_eq_getElem hn
    show preSum val n + val n = _
    rw [sum_kv val hv n (Nat.le_of_succ_le hn), hv n _ hx, take_more hx, List.map_append, List.sum_append]
    simp
section
variable {X : Cx} {e : Expr} {te : TE} {p apos cpos pos : Pos}
theorem pe_sumV (hc : X.calm = true) (he : PE X e te) (hg : Gl X "sum") (hm : X.mg "sum" = none) (hv : bootBuiltins "sum" = some (.builtin "sum")) (hb0 : attributeBase e "values" X.env (eval e X.env) = eval e X.env := by rfl) (hl0 : (apos.endLine == cpos.line) = true := by rfl)
    (hs0 : starEach [.Call (.Attribute e "values" apos) [] [] cpos] X.env = (false, eval (.Call (.Attribute e "values" apos) [] [] cpos) X.env) :: starEach [] X.env := by rfl) (hp0 : (backTo pos (starEach [] X.env)).any (·.1) = false := by rfl) :
    PE X (.Call (.Name "sum" p) [.Call (.Attribute e "values" apos) [] [] cpos] [] pos) (tSumV te) := ⟨fun pins s σ H Q I q0 => by
  refine wpAny_Call_Name_kw (ld_blt I hg hm hv (PyProof.Rows.callWith_builtin1 ?_ hs0 hp0))
  rw [hs0]
  refine Calls.spliced_cons (wpAny_Call_method (T := "dict") (id := "dict.values") hb0 rfl hl0 F.plainAttrs_dict F.slot_dict_values F.type_dict_values (thn (he.run pins s σ H _ I q0) fun u s1 ⟨x, H1, I1, rx, d, od, l, ex, hd, q⟩ => ?_))
  subst ex
  obtain rfl : u = Value.ref d := rx
  obtain ⟨ns, hgd, hx, es, ep, vs, hdt, sz, kv, at1⟩ := I1.frzK hd
  have raw1 : s1.heap.DictRaw d es ep := ⟨od, hgd, hx, hdt⟩
  have Iv : Inv X pins σ H1 { s1 with heap := s1.heap.push { cls := .type "dict_values", data := .fields #[.ref d] } } := I1.kept (t' := s1.toks) fun b ob y => Heap.get?_push_of_some _ y
  refine ⟨at1.dictOf.typeIs, at1.dictOf.mapOf.noDict, method_meetsIn F.slot_dict_values F.entry_dict_values rfl (PySem.evalArgs_none ⟨rfl, at1.dictOf.typeIs, F.args_dict_values_1 _, _, meets_dict_values (mixKind X.prog X.w) d ns, ⟨vs, at1.dictOf⟩, ?_⟩)⟩
  refine Calls.spliced_nil (call_sum_walkAnyS (wpAny_pyIter_values_raw (d := d) (es := es) (ep := ep) ⟨_, Heap.get?_push_size _ rfl, rfl, rfl⟩ (raw1.at fun o y => Heap.get?_push_of_some _ y) ?_))
  have hd0 : d < s1.heap.objs.size := Heap.lt_size hgd
  have hn : d ≠ (s1.heap.push { cls := .type "dict_values", data := .fields #[.ref d] }).objs.size := by rw [Heap.size_push]; exact Nat.ne_of_lt (Nat.lt_succ_of_lt hd0)
  have hval : ∀ (i : Nat) (hi : i < es.size), ∃ (kp : Int × Int) (t : Tok), l[i]? = some kp ∧ es[i].val = .int kp.2 t := fun i hi => by
    have hi2 : i < (kvI l).length := by omega
    have hi3 : i < l.length := by
      have z := hi2
      unfold kvI at z
      rw [List.length_map] at z
      exact z
    have ek : (kvI l)[i]? = some (Sum.inl l[i].1, V.int l[i].2) := by
      unfold kvI
      rw [List.getElem?_map, List.getElem?_eq_getElem hi3]
      rfl
    obtain ⟨v, e1, r1⟩ := kv_get kv ek
    obtain ⟨t, rfl⟩ := rel_int r1
    obtain ⟨o', es', ho', hx', hdt', _, hpr, _⟩ := at1
    rw [hgd] at ho'
    cases ho'
    obtain ⟨ee, _⟩ := dict_ep hdt hdt'
    subst ee
    have z := hpr.get? (e := es'[i]) (by simp [hi]) e1
    exact ⟨l[i], t, List.getElem?_eq_getElem hi3, z.2⟩
  have hh : (X.A.in1).handled = none := I1.ok.hd hc
  refine ⟨_, _, _, _, _, _, _, fun i => ((l[i]?).map (·.2)).getD 0, rfl, (Walks.rawValues hh _ d hn es ep).toS, ⟨⟨_, Heap.get?_push_size _ rfl, rfl, rfl⟩, (raw1.at fun o y => Heap.get?_push_of_some _ y).at fun o y => Heap.get?_push_of_some _ y⟩, fun b hb => ?_, fun i v hv => ?_, fun s' t' mv => ?_⟩
  · rcases List.mem_cons.mp hb with rfl | hb
    · rw [Heap.size_push (h := s1.heap.push _)]
      exact Nat.lt_succ_self _
    · rw [List.mem_singleton.mp hb, Heap.size_push, Heap.size_push]
      exact Nat.lt_succ_of_lt (Nat.lt_succ_of_lt hd0)
  · obtain ⟨hi, rfl⟩ := hv
    obtain ⟨kp, t, h1, h2⟩ := hval i hi
    refine ⟨t, ?_⟩
    show _ = Value.int ((l[i]?.map (·.2)).getD 0) t
    rw [h2, h1]
    rfl
  · have ln : es.size = l.length := by
      rw [sz]
      exact List.length_map _
    have e2 : preSum (fun i => ((l[i]?).map (·.2)).getD 0) es.size = (l.map (·.2)).sum := by
      rw [ln, sum_kv _ (fun i p hp => by rw [hp]; rfl) _ (Nat.le_refl _), List.take_length]
    rw [Moved.eq_with mv, e2]
    refine ⟨.int _, H1, I1.kept fun b o y => ?_, ⟨_, rfl⟩, q⟩
    refine mv.heap b o (fun hmem => ?_) (Heap.get?_push_of_some _ (Heap.get?_push_of_some _ y))
    have z : b < s1.heap.objs.size := Heap.lt_size y
    rw [List.mem_singleton.mp hmem, Heap.size_push] at z
    exact absurd z (Nat.not_lt.mpr (Nat.le_succ _))⟩
end
theorem rd_sumV {K : PySem.W.Frag} {M : List Addr} {σ : L2.St} {H : Hp} {te : TE} {l : List (Int × Int)} (h : Rd K M te σ H (.dic l)) : Rd K M (tSumV te) σ H (.int (l.map (·.2)).sum) := fun H1 s1 g Q k => h H1 s1 g _ fun v H2 s2 g2 r2 => by
  obtain ⟨a, o, rfl, e⟩ := r2
  exact ⟨a, o, l, rfl, wo_le _ _ e, k _ H2 s2 g2 rfl⟩
end SC
set_option maxRecDepth 100000
set_option maxHeartbeats 4000000
/-! # Part St: set(xs) of a list of numbers, and sorted of it -/
namespace SC
open PySem PySem.Spec PyProof.Rows L2 TL
/-- the empty set as it is made -/
abbrev eSet (w : World) : Obj := { cls := .type "set", dict := none, data := .set #[] 0 (.fresh 0 0 (!w.params.followText "set-order")) }
section
variable {P : Program} {w : World} {A : Around} {E : Value → Shared → Prop} {s : Shared}
/-- what is left of set(xs) once the empty set stands at the heap's end: its __init__ walks the list -/
theorem init_walk {a : Addr} {its : Array Value} {ns : List Int} {R : Result → Shared → Prop} (h0 : A.handled = none) (hL : s.heap.IsList a its) (hI : IntsAre its.toList ns) (hB : ns.length + 1 < scanBound)
    (k : ∀ (h' : Heap) (tk c : Nat), SetR w h' s.heap.objs.size (fun j => decide (j ∈ ns)) c → c ≤ ns.length → (∀ b o, s.heap.get? b = some o → h'.get? b = some o) → R (.ok (.ret .none)) { s with heap := h', toks := tk }) :
    codeAny (model P w) A (.builtin "set.update.loop" ⟨[.ref s.heap.objs.size, .ref (s.heap.objs.size + 1)], []⟩) R { s with heap := (s.heap.push (eSet w)).push { cls := .type "list_iterator", data := .fields #[.ref a, .int 0 0] } } := by
  have la : its.size = ns.length := by
    rw [← Array.length_toList]
    exact hI.length
  obtain ⟨oa, ga, ca, na, da⟩ := id hL
  have a0 : a < s.heap.objs.size := Heap.lt_size ga
  have z1 : (s.heap.push (eSet w)).objs.size = s.heap.objs.size + 1 := Heap.size_push ..
  have gS : (s.heap.push (eSet w)).get? s.heap.objs.size = some (eSet w) := Heap.get?_push_size _ rfl
  have gI : ((s.heap.push (eSet w)).push { cls := .type "list_iterator", data := .fields #[.ref a, .int 0 0] }).get? (s.heap.objs.size + 1) = some { cls := .type "list_iterator", data := .fields #[.ref a, .int 0 0] } := by
    rw [← z1]
    exact Heap.get?_push_size _ rfl
  have ne1 : a ≠ s.heap.objs.size + 1 := Nat.ne_of_lt (Nat.lt_succ_of_lt a0)
  have out : s.heap.objs.size ∉ [s.heap.objs.size + 1, a] := fun m => by
    rcases List.mem_cons.mp m with m | m
    · exact absurd m (Nat.ne_of_lt (Nat.lt_succ_self _))
    · exact absurd (List.mem_singleton.mp m) (Nat.ne_of_gt a0)
  refine set_update_ints (s := { s with heap := (s.heap.push (eSet w)).push { cls := .type "list_iterator", data := .fields #[.ref a, .int 0 0] } }) ((Walks.list (A := A.in1) h0 (s.heap.objs.size + 1) a ne1 its).toS) s.heap.objs.size out ns la hB (fun i v e => ?_) its.size 0 (Nat.sub_zero _) (Nat.zero_le _) ⟨⟨_, gI, rfl, rfl⟩, (hL.push _).push _⟩ ⟨0, Nat.le_refl 0, setR_new_at (Heap.get?_push_of_some _ gS)⟩ fun s2 c mv hc R2 => ?_
  · have hi : i < ns.length := by
      rw [← la]
      exact (Array.getElem?_eq_some_iff.mp e).1
    obtain ⟨t, e2⟩ := hI.get i _ (List.getElem?_eq_getElem hi)
    rw [Array.getElem?_toList, e] at e2
    exact ⟨_, t, List.getElem?_eq_getElem hi, Option.some.inj e2⟩
  · have es : s2 = { s with heap := s2.heap, toks := s2.toks } := by
      have g1 : s2.gens = s.gens := mv.gens
      have g2 : s2.drawn = s.drawn := mv.drawn
      have g3 : s2.os = s.os := mv.os
      cases s2
      cases g1
      cases g2
      cases g3
      rfl
    rw [es]
    refine k _ _ c R2 (by rw [la] at hc; exact hc) fun b o e => ?_
    have b0 : b < s.heap.objs.size := Heap.lt_size e
    refine mv.heap b o (fun m => ?_) (Heap.get?_push_of_some _ (Heap.get?_push_of_some _ e))
    rcases List.mem_cons.mp m with m | m
    · exact absurd m (Nat.ne_of_lt b0)
    · exact absurd (List.mem_singleton.mp m) (Nat.ne_of_lt (Nat.lt_succ_of_lt b0))
set_option maxRecDepth 100000 in
set_option maxHeartbeats 8000000 in
theorem call_setL {a : Addr} {its : Array Value} {ns : List Int} {Q : Value → Shared → Prop} (h0 : A.handled = none) (hL : s.heap.IsList a its) (hI : IntsAre its.toList ns) (hB : ns.length + 1 < scanBound)
    (k : ∀ (h' : Heap) (tk c : Nat), SetR w h' s.heap.objs.size (fun j => decide (j ∈ ns)) c → c ≤ ns.length → (∀ b o, s.heap.get? b = some o → h'.get? b = some o) → Q (.ref s.heap.objs.size) { s with heap := h', toks := tk }) :
    wpAny (model P w) A (call (.type "set") [.ref a]) Q E s := by
  obtain ⟨cm, tm, mro⟩ := F.called_set.mro; have x1 := F.called_set.made; have x2 := F.called_set.sub; have x3 := F.called_set.notType; have x4 := F.called_set.canCreate; have x5 := F.typeCall_set_1 (.ref a)
  refine wpAny_call (codeAny_of_tree (show wpAny _ _ (callAny (.type "set") _) _ _ _ from wpAny_pure ⟨Code.quiet_builtin _ (by decide +kernel), codeAny_builtin F.entry_type_call ?_⟩))
  rw [Around.under_plain (weight_type_call_type "set" [.ref a] []) rfl]
  repeat (any_goals (first | assumption | wp_step))
  refine codeAny_mono (code_set_led1 (.ref a) (E := E) (Q₁ := fun v s1 => v = .ref s.heap.objs.size ∧ s1 = { s with heap := s.heap.push (eSet w) }) ⟨rfl, rfl⟩) fun r s1 hr => ?_
  cases r with
  | error e => exact hr
  | ok fl => cases fl with
    | ret v =>
      obtain ⟨rfl, rfl⟩ := hr
      have tS : Shared.TypeIs { s with heap := s.heap.push (eSet w) } (.ref s.heap.objs.size) "set" := ⟨_, Heap.get?_push_size _ rfl, rfl⟩
      have y1 := F.called_set.init.lookup; have y2 := F.called_set.init.bind (.ref s.heap.objs.size)
      repeat (any_goals (first | assumption | wp_step))
      refine codeAny_mono (codeAny_call_builtin (R := wants (fun r s2 => r = .none ∧ ∃ h' tk c, s2 = { s with heap := h', toks := tk } ∧ SetR w h' s.heap.objs.size (fun j => decide (j ∈ ns)) c ∧ c ≤ ns.length ∧ (∀ b o, s.heap.get? b = some o → h'.get? b = some o)) E) F.called_set.init.plain F.entry_set_init (check_set_init_1 tS ?_)) fun r2 s2 hr2 => ?_
      · obtain ⟨⟨oc, od, oda, osl⟩, ga, ca, na, da⟩ := id hL
        have ca' : oc = .type "list" := ca
        have da' : oda = .seq its na := da
        subst ca'
        subst da'
        have q0 := Heap.get?_push_of_some (eSet w) ga
        have q1 := F.sub_list_set; have q2 := F.sub_list_frozenset; have q3 : (Value.type "list" == Value.type "dict") = false := by decide
        have qL : (s.heap.push (eSet w)).IsList a its := ⟨_, q0, rfl, na, rfl⟩
        unfold Builtin.«set.__init__» noKeywords Builtin.Frozenset.updateFrom
        generalize hPI : pyIter = PI
        wp_walk
        subst hPI
        refine wpAny_pyIter_list qL (wpAny_bind (wpAny_runValue ?_))
        have z1 : (s.heap.push (eSet w)).objs.size = s.heap.objs.size + 1 := Heap.size_push ..
        have hd2 : A.in1.in1.handled = none := by simp [h0]
        rw [z1]
        refine init_walk (A := A.in1.in1) hd2 hL hI hB fun h' tk c R1 hc kp => ?_
        refine (show wpAny _ _ _ _ _ _ from wpAny_pure ?_)
        exact (show wpAny _ _ (ret Value.none) _ _ _ from wpAny_pure ⟨rfl, h', tk, c, rfl, R1, hc, kp⟩)
      · cases r2 with
        | error e => exact hr2
        | ok f2 => cases f2 with
          | ret r =>
            obtain ⟨rfl, h', tk, c, rfl, R1, hc, kp⟩ := hr2
            repeat (any_goals (first | assumption | wp_step))
            exact k _ _ _ R1 hc kp
          | _ => exact hr2.elim
    | _ => exact hr.elim
end
theorem nodup_le : ∀ {a b : List Int}, a.Nodup → (∀ v ∈ a, v ∈ b) → a.length ≤ b.length
  | [], b, _, _ => Nat.zero_le _
  | x :: a, b, nd, h => by
    have nd' := List.nodup_cons.mp nd
    have hx := h x List.mem_cons_self
    have z := nodup_le (b := b.erase x) nd'.2 fun v hv => (List.mem_erase_of_ne (fun e => nd'.1 (by rw [← e]; exact hv))).mpr (h v (List.mem_cons_of_mem _ hv))
    rw [List.length_erase_of_mem hx] at z
    have p := List.length_pos_of_mem hx
    rw [List.length_cons]
    omega
theorem keysOf_le {os row : List Int} (h : ∀ v ∈ os, v ∈ row) : (keysOf os).length ≤ row.length := nodup_le (keysOf_nodup os) fun v hv => h v (mem_keysOf.mp hv)
theorem setR_card {w : World} {h : Heap} {a : Addr} {ns : List Int} {c : Nat} (R : SetR w h a (fun j => decide (j ∈ ns)) c) : c = (keysOf ns).length := by
  obtain ⟨o, es, ep, t, _, _, _, _, nd, mem, _, _, hn, _, _⟩ := R
  have e1 : (es.toList.map keyOf).length = c := by rw [List.length_map, Array.length_toList]; exact hn
  rw [← e1]
  refine (perm_of nd (keysOf_nodup ns) fun v => ?_).length_eq
  rw [← mem v, mem_keysOf, decide_eq_true_eq]
def rSetL (K : PySem.W.Frag) (w : World) : List V → Hp → VK → Prop := fun xs H Q => ∃ (l : Addr) (ns : List Int), xs = [V.ref l] ∧ SqL K H l (ns.map V.int) ∧ ns.length + 1 < scanBound ∧ ∀ p, H p = none → Q (.ref p) (upd H p (SetO w p (fun j => decide (j ∈ ns)) (keysOf ns).length))
theorem cr_setL {X : Cx} (hc : X.calm = true) : CallR X (.type "set") (rSetL X.K X.w) := fun pins s σ H xs us Q I r h => by
  obtain ⟨l, ns, rfl, hl, hB, q⟩ := h
  rw [Vals.ref1 r]
  obtain ⟨its, rv, pl, _⟩ := I.list hl
  refine call_setL (P := X.prog) (w := X.w) (I.ok.hd hc) pl.isList rv.ints hB fun h' tk c R _ kp => ?_
  have ec := setR_card R
  rw [ec] at R
  exact ⟨.ref _, _, I.laid (t' := tk) kp (Nat.le_refl _) (setO_new R), rfl, q _ (I.hok.fresh (Nat.le_refl _))⟩
/-- sorted(set(xs)) -/
theorem rd_sortSet {K : PySem.W.Frag} {w : World} {M : List Addr} {σ : L2.St} {H : Hp} {u : TA} {ns : List Int} (hB : ns.length ≤ 4000) (h64 : (keysOf ns).length < 64) (h : RdA K M u σ H [.lst (ns.map D.int)]) : Rd K M (tCB (rSortedSet w) (tCons (tCB (rSetL K w) u) tNil)) σ H (.lst ((keysOf ns).map D.int)) :=
  fun H1 s1 g Q k => h H1 s1 g _ fun xs H2 s2 g2 r2 => by
  obtain ⟨v, rfl, a, vs, rfl, e, rv⟩ := rp1 r2
  rw [rp_ints.mp rv] at e
  refine ⟨a, ns, rfl, SqL.of (wo_le _ _ e), by unfold scanBound; omega, fun p hp => ?_⟩
  have s3 : Same H2 (upd H2 p (SetO w p (fun j => decide (j ∈ ns)) (keysOf ns).length)) := same_new hp
  refine ⟨p, _, _, rfl, upd_same, h64, fun ms p2 hlt hmem _ hp2 => ?_⟩
  have em : ms = keysOf ns := keysOf_one (List.Pairwise.imp (fun h => Int.ne_of_lt h) hlt) (fun v => by rw [hmem v, decide_eq_true_eq]) (List.Pairwise.imp (fun h => Int.le_of_lt h) hlt)
  rw [em]
  have g3 := g2.same s3
  exact new_lst g3 hp2 (rp_ints.mpr rfl) fun v H4 s4 g4 r4 => k v H4 ((s2.trans s3).trans s4) g4 r4
end SC
set_option maxRecDepth 100000
set_option maxHeartbeats 2000000
/-! # Part Fo: tallies over many rounds; readings -/
namespace SC
open PySem PySem.Spec PyProof.Rows L2 TL
section
variable {rs : List Rule} {row : List Int} {s e : Nat}
theorem cnt_shift (hr : row ≠ []) (c : Cyc rs row s e) {u : Nat} (hu : s ≤ u) (v : Int) (q : Nat) : ∀ n, (outsF rs row (u + q * (e - s) + n)).count v + (outsF rs row u).count v = (outsF rs row (u + q * (e - s))).count v + (outsF rs row (u + n)).count v
  | 0 => by rw [Nat.add_zero, Nat.add_zero]
  | n + 1 => by
    have ih := cnt_shift hr c hu v q n
    have sh := (cyc_shift hr c (u := u + n) (by omega) q).2
    have e1 : u + q * (e - s) + (n + 1) = (u + q * (e - s) + n) + 1 := by omega
    have e2 : u + (n + 1) = (u + n) + 1 := by omega
    have e3 : u + q * (e - s) + n = u + n + q * (e - s) := by omega
    rw [e1, e2, outsF_succ, outsF_succ]
    rw [e3] at ih ⊢
    rw [sh]
    omega
theorem cnt_rounds (hr : row ≠ []) (c : Cyc rs row s e) {u : Nat} (hu : s ≤ u) (v : Int) : ∀ q, (((outsF rs row (u + q * (e - s))).count v : Nat) : Int) - ((outsF rs row u).count v : Nat) = (q : Nat) * ((((outsF rs row (u + (e - s))).count v : Nat) : Int) - ((outsF rs row u).count v : Nat))
  | 0 => by
    rw [Nat.zero_mul, Nat.add_zero]
    simp
  | q + 1 => by
    have ih := cnt_rounds hr c hu v q
    have z := cnt_shift hr c hu v q (e - s)
    have e1 : u + (q + 1) * (e - s) = u + q * (e - s) + (e - s) := by rw [Nat.add_mul, Nat.one_mul]; omega
    rw [e1]
    have e2 : (((q + 1 : Nat) : Int)) = (q : Int) + 1 := by omega
    rw [e2, Int.add_mul, Int.one_mul, ← ih]
    omega
end
theorem ind_sum {x : Int} : ∀ {ks : List Int}, ks.Nodup → x ∈ ks → (ks.map fun v => if x = v then (1 : Int) else 0).sum = 1
  | [], _, h => by cases h
  | k :: ks, nd, h => by
    have nd' := List.nodup_cons.mp nd
    rw [List.map_cons, List.sum_cons]
    by_cases e : x = k
    · rw [if_pos e]
      have z : ∀ l : List Int, k ∉ l → (l.map fun v => if x = v then (1 : Int) else 0).sum = 0 := fun l => by
        induction l with
        | nil => intro _; rfl
        | cons a l ih =>
          intro hn
          rw [List.map_cons, List.sum_cons, if_neg (fun y => hn (by rw [← e, y]; exact List.mem_cons_self)), ih fun y => hn (List.mem_cons_of_mem _ y)]
          rfl
      rw [z ks nd'.1]
      rfl
    · rw [if_neg e, ind_sum nd'.2 ((List.mem_cons.mp h).resolve_left e)]
      rfl
theorem cnt_sum {ks : List Int} (nd : ks.Nodup) : ∀ {os : List Int}, (∀ v ∈ os, v ∈ ks) → (ks.map fun v => ((os.count v : Nat) : Int)).sum = (os.length : Nat)
  | [], _ => by
    induction ks with
    | nil => rfl
    | cons k ks ih =>
      rw [List.map_cons, List.sum_cons, ih (List.nodup_cons.mp nd).2 (fun v hv => by cases hv)]
      rfl
  | x :: os, h => by
    have ih := cnt_sum nd (os := os) fun v hv => h v (List.mem_cons_of_mem _ hv)
    have e1 := ind_sum nd (h x List.mem_cons_self)
    have add : ∀ l : List Int, (l.map fun v => (((x :: os).count v : Nat) : Int)).sum = (l.map fun v => ((os.count v : Nat) : Int)).sum + (l.map fun v => if x = v then (1 : Int) else 0).sum := fun l => by
      induction l with
      | nil => rfl
      | cons a l ihl =>
        rw [List.map_cons, List.map_cons, List.map_cons, List.sum_cons, List.sum_cons, List.sum_cons, ihl, List.count_cons]
        by_cases e : x = a
        · simp [e]; omega
        · simp [e]; omega
    rw [add, ih, e1, List.length_cons]
    omega
theorem sum_tally (os : List Int) : ((tally os).map (·.2)).sum = (os.length : Nat) := by
  unfold tally
  rw [List.map_map]
  exact cnt_sum (keysOf_nodup os) fun v hv => mem_keysOf.mpr hv
/-- the outs up to tick t, as the law reads them -/
theorem outs_takeN {rs : List Rule} {row : List Int} {N t : Nat} (h : t ≤ N) : ((List.range N).map (outF rs row)).take t = (List.range t).map (outF rs row) := by
  rw [← List.map_take, List.take_range, Nat.min_eq_left h]
theorem outs_fm {rs : List Rule} {row : List Int} (n : Nat) : ((List.range n).map (outF rs row)).filterMap id = outsF rs row n := by
  rw [List.filterMap_map]
  rfl
theorem out_mem {rs : List Rule} {row : List Int} (h : row ≠ []) {t : Nat} {y : Int} (e : outF rs row t = some y) : y ∈ row := by
  have rf := run_F (rs := rs) h (t + 1)
  have z := run_pred (P := fun z => z ∈ row) rs (inL row (t + 1)) (nones rs.length) (fun x hx => by
    unfold nones at hx
    cases (List.mem_replicate.mp hx).2) (fun x hx => inL_mem h hx) y
  rw [rf] at z
  refine z ?_
  rw [← e]
  exact List.mem_map_of_mem (List.mem_range.mpr (by omega))
theorem outsF_mem {rs : List Rule} {row : List Int} (h : row ≠ []) {n : Nat} {y : Int} (hy : y ∈ outsF rs row n) : y ∈ row := by
  obtain ⟨t, _, e⟩ := List.mem_filterMap.mp hy
  exact out_mem h e
section
variable {K : PySem.W.Frag} {M : List Addr} {σ : L2.St} {H : Hp} {ta tb tc : TE}
/-- xs.count(v) -/
theorem rd_cntI {to : TE} {u : TA} {ns : List Int} {v : Int} (h : Rd K M to σ H (.lst (ns.map D.int))) (hu : RdA K M u σ H [.int v]) : Rd K M (tBM K "list" (rCntI K) to u) σ H (.int (ns.count v : Nat)) :=
  fun H1 s1 g Q k => h H1 s1 g _ fun x H2 s2 g2 rx => by
    obtain ⟨a, vs, rfl, e1, r1⟩ := rx
    rw [rp_ints.mp r1] at e1
    refine ⟨.inl ⟨rfl, _, SqL.of (wo_le _ _ e1)⟩, hu H2 (s1.trans s2) g2 _ fun xs H3 s3 g3 r3 => ?_⟩
    obtain ⟨v, rfl, rv⟩ := rp1 r3
    cases rv
    exact ⟨a, ns, _, rfl, rfl, SqL.of (s3 _ _ (wo_le _ _ e1)), k _ H3 (s2.trans s3) g3 rfl⟩
/-- int(i) -/
theorem rd_intI {u : TA} {i : Int} (h : RdA K M u σ H [.int i]) : Rd K M (tCB (fun xs H Q => (∃ i, xs = [.int i] ∧ Q (.int i) H) ∨ ∃ k, xs = [.bl k] ∧ Q (.int (if k then 1 else 0)) H) u) σ H (.int i) :=
  rd_cb h fun xs H1 Q g hx k => by
    obtain ⟨v, rfl, rv⟩ := rp1 hx
    cases rv
    exact .inl ⟨i, rfl, k _ H1 (Same.refl _) g rfl⟩
theorem rd_fdivO {i j : Int} (hc : CDiv i j) (ha : Rd K M ta σ H (.int i)) (hb : Rd K M tb σ H (.int j)) : Rd K M (tOp (rI CDiv fun i j => .int (i / j)) ta tb) σ H (.int (i / j)) := rd_rI hc (fun _ _ e => e) ha hb
theorem ok_items {l : List (Int × Int)} : Ok 2 (.lst (l.map itD)) := .lst fun x hx => by
  obtain ⟨p, _, rfl⟩ := List.mem_map.mp hx
  exact .tup fun y hy => by
    rcases List.mem_cons.mp hy with rfl | hy
    · exact .int
    · rw [List.mem_singleton.mp hy]
      exact .int
end
theorem rg7 : ∀ m : Nat, m ≤ 60 → RgC 1 (m : Int) 7 ((m + 5) / 7) := by
  have z : ∀ m : Fin 61, RgC 1 (m.val : Int) 7 ((m.val + 5) / 7) := by
    unfold RgC
    decide +kernel
  exact fun m hm => z ⟨m, by omega⟩
theorem rg11 : ∀ m : Nat, m < 9 → RgC (m : Int) 90 11 ((100 - m) / 11) := by
  have z : ∀ m : Fin 9, RgC (m.val : Int) 90 11 ((100 - m.val) / 11) := by
    unfold RgC
    decide +kernel
  exact fun m hm => z ⟨m, hm⟩
/-- a loop over J -/
abbrev ForW (J : It) (gt : TG) (tb : TS) (D : Ends) (σ : L2.St) (H : Hp) : Prop := ∃ W : Nat → Nat → L2.St → Hp → Prop, (∃ m, W 0 m σ H) ∧ ∀ i m σ H, W i m σ H →
    (J.stop i H ∧ D.nx σ H) ∨ (J.go i H ∧ ∃ N : L2.St → Hp → Prop, (∀ σ' H', N σ' H' → ∃ m', m' < m ∧ W (i + 1) m' σ' H') ∧ ∀ x H', J.yld i H x H' → gt x σ H' fun σ2 H2 => tb { D with nx := N, ct := N, bk := D.nx } σ2 H2)
section
variable {K : PySem.W.Frag} {M : List Addr} {σ : L2.St} {H : Hp} {gt : TG} {tb : TS} {D : Ends}
theorem go_forC {ta : TA} (h : ta σ H fun vs H1 => ∃ (i j c : Int) (n : Nat), vs = [.int i, .int j, .int c] ∧ RgC i j c n ∧ ForW (Itc i c n) gt tb D σ H1) : tFor (iRng3 ta) gt tb D σ H := h
theorem use_forC {ta : TA} {i j c : Int} {n : Nat} (h : RdA K M ta σ H [.int i, .int j, .int c]) (g : Gd K M H) (hR : RgC i j c n) (k : ∀ H2, Same H H2 → Gd K M H2 → ForW (Itc i c n) gt tb D σ H2) : tFor (iRng3 ta) gt tb D σ H :=
  h H (Same.refl _) g _ fun vs H2 s2 g2 r2 => by
    obtain ⟨v1, w1, rfl, rv1, v2, w2, rfl, rv2, v3, w3, rfl, rv3, rw3⟩ := r2
    cases rv1
    cases rv2
    cases rv3
    cases rw3
    exact ⟨i, j, c, n, rfl, hR, k H2 s2 g2⟩
theorem use_forK {td : TE} {l : List (Int × Int)} (h : Rd K M td σ H (.dic l)) (g : Gd K M H) (k : ∀ a o H2, Same H H2 → Gd K M H2 → wo M H2 a = some (.frz o (.dK (kvI l))) → ForW (Itk a o (kvI l)) gt tb D σ H2) : tFor (iKeys td) gt tb D σ H :=
  h H (Same.refl _) g _ fun v H2 s2 g2 r2 => by
    obtain ⟨a, o, rfl, e⟩ := r2
    exact ⟨a, o, rfl, .inl ⟨_, wo_le _ _ e, k a o H2 s2 g2 e⟩⟩
end
theorem pe_cntK {X : Cx} {K : PySem.W.Frag} {o e : Expr} {to : TE} {t : TA} {apos cpos : Pos} (hK : X.K = K) (ho : PE X o to) (ha : PA X [e] t) (hbase : attributeBase o "count" X.env (eval o X.env) = eval o X.env := by rfl)
    (hfew : ((backTo cpos (starEach [e] X.env)).all (fun x => !x.1) && (backToKw cpos (keywordEach [] X.env)).all (fun x => x.1.isSome) && decide (([e] : List Expr).length + ([] : List Keyword).length + (if ([] : List Keyword).isEmpty then 0 else 1) < 30)) = true := by rfl)
    (hline : (apos.endLine == cpos.line) = true := by rfl) (hs : starEach [e] X.env = (false, eval e X.env) :: starEach [] X.env := by rfl) (hplain : (backTo cpos (starEach [] X.env)).any (·.1) = false := by rfl) :
    PE X (.Call (.Attribute o "count" apos) [e] [] cpos) (tBM K "list" (rCntI K) to t) := by
  subst hK
  exact pe_bm PySem.F.plainAttrs_list PySem.F.slot_list_count PySem.F.type_list_count mt_lcount ho ha hbase hfew hline hs hplain
end SC
set_option maxRecDepth 100000
set_option maxHeartbeats 2000000
/-! # Part Fp: comprehensions over range(a, b) that filter; counts by hand -/
namespace SC
open PySem PySem.Spec PyProof.Rows L2 TL
section
variable {K : PySem.W.Frag} {M : List Addr} {σ : L2.St} {H : Hp} {ta tb tc : TE}
def rngD2 (lo n : Nat) : List D := (List.range n).map fun j : Nat => D.int ((lo + j : Nat) : Int)
theorem rng2_at {lo n j : Nat} (h : j < n) : (rngD2 lo n)[j]? = some (.int ((lo + j : Nat) : Int)) := by
  unfold rngD2
  rw [List.getElem?_map, List.getElem?_range h]
  rfl
theorem rng2_len (lo n : Nat) : (rngD2 lo n).length = n := by
  unfold rngD2
  rw [List.length_map, List.length_range]
theorem rd_lcR2 {ta : TA} {tt : TT} {te : TE} {i : Nat} {lo n : Nat} (f : D → Option D) (hl : RdA K M ta σ H [.int (lo : Nat), .int ((lo + n : Nat) : Int)]) (hb : lo + n < sizeLine) (hT : ∀ j, j < n → ∀ H', Same H H' → Turns K M σ H' i tt te (.int ((lo + j : Nat) : Int)) (f (.int ((lo + j : Nat) : Int)))) :
    Rd K M (tLc (iRng2 ta) (gName i) tt te [i]) σ H (.lst ((rngD2 lo n).filterMap f)) := fun H1 s1 g Q k => hl H1 s1 g _ fun xs H2 s2 g2 rx => by
  obtain ⟨v1, w1, rfl, r1, v2, w2, rfl, r2, r3⟩ := rx
  cases r1
  cases r2
  cases r3
  have hs : sizeLine < 2 ^ 61 := by decide
  refine ⟨(lo : Nat), ((lo + n : Nat) : Int), rfl, ⟨by omega, by omega, by omega, by omega⟩, fun D0 hD0 => ?_⟩
  have hD0M := g2.out hD0
  have en : (((lo + n : Nat) : Int) - (lo : Nat)).toNat = n := by omega
  rw [en]
  refine lc_range (lo := (lo : Nat)) (n := n) (fun m H3 => ∃ acc, Same H2 H3 ∧ Gd K (D0 :: M) H3 ∧ H3 D0 = some (.lst acc) ∧ RpL K (wo (D0 :: M) H3) (((rngD2 lo n).take m).filterMap f) acc) ?_ ?_ ?_
  · exact ⟨[], same_new hD0, (g2.same (same_new hD0)).lst upd_same, upd_same, rfl⟩
  · rintro m H3 hm ⟨acc, s3, g3, hD, ra⟩
    have ei : ((lo : Nat) : Int) + (m : Nat) = ((lo + m : Nat) : Int) := by omega
    rw [ei]
    exact lc_turn (hT m hm H2 (s1.trans s2)) (by rw [rng2_len]; omega) hD0 (rng2_at hm) s3 g3 rfl hD ra fun H4 acc' s4 g4 h4 r4 => ⟨acc', s4, g4, h4, r4⟩
  · rintro H3 ⟨acc, s3, g3, hD, ra⟩
    rw [List.take_of_length_le (by rw [rng2_len]; exact Nat.le_refl _)] at ra
    exact k _ H3 (s2.trans s3) g3.tl (lc_done hD0M hD ra)
/-- the numbers of which p holds -/
def gF (p : Nat → Bool) : D → Option D
  | .int j => if p j.toNat = true then some (.int j) else none
  | _ => none
theorem gF_nat (p : Nat → Bool) (j : Nat) : gF p (.int (j : Nat)) = if p j = true then some (.int (j : Nat)) else none := rfl
theorem gF_map (p : Nat → Bool) : ∀ l : List Nat, (l.map fun j : Nat => D.int (j : Int)).filterMap (gF p) = (l.filter p).map fun j : Nat => D.int (j : Int)
  | [] => rfl
  | x :: xs => by
    rw [List.map_cons, List.filterMap_cons, gF_nat, List.filter_cons, gF_map p xs]
    by_cases h : p x = true
    · rw [if_pos h, if_pos h]
      rfl
    · rw [if_neg h, if_neg h]
theorem gF_rng (p : Nat → Bool) (n : Nat) : (rngD n).filterMap (gF p) = ((List.range n).filter p).map fun j : Nat => D.int (j : Int) := gF_map p _
theorem gF_rng2 (p : Nat → Bool) (lo n : Nat) : (rngD2 lo n).filterMap (gF p) = (((List.range n).map (lo + ·)).filter p).map fun j : Nat => D.int (j : Int) := by
  have e : rngD2 lo n = ((List.range n).map (lo + ·)).map fun j : Nat => D.int (j : Int) := by
    unfold rngD2
    rw [List.map_map]
    rfl
  rw [e, gF_map]
end
section
variable {rs : List Rule} {row : List Int} {s e : Nat}
/-- how many ticks below n let v out -/
def tkN (rs : List Rule) (row : List Int) (v : Int) (n : Nat) : Nat := ((List.range n).filter fun k => decide (outF rs row k = some v)).length
theorem tkN_cnt (v : Int) : ∀ n, tkN rs row v n = (outsF rs row n).count v
  | 0 => rfl
  | n + 1 => by
    have ih := tkN_cnt v n
    unfold tkN at ih ⊢
    rw [List.range_succ, List.filter_append, List.length_append, ih, outsF_succ]
    congr 1
    by_cases h : outF rs row n = some v
    · simp [h]
    · simp [h]
theorem tk_cut (v : Int) (T : Nat) : ∀ n, ((List.range n).filter fun k => decide (k < T) && decide (outF rs row k = some v)).length = (outsF rs row (min n T)).count v
  | 0 => by rw [Nat.zero_min]; rfl
  | n + 1 => by
    have ih := tk_cut v T n
    rw [List.range_succ, List.filter_append, List.length_append, ih]
    by_cases h : n < T
    · rw [Nat.min_eq_left (by omega : n ≤ T), Nat.min_eq_left (by omega : n + 1 ≤ T), outsF_succ]
      congr 1
      by_cases hv : outF rs row n = some v
      · simp [h, hv]
      · simp [h, hv]
    · rw [Nat.min_eq_right (by omega : T ≤ n), Nat.min_eq_right (by omega : T ≤ n + 1)]
      simp [h]
theorem late_len (v : Int) (lo : Nat) : ∀ n, (((List.range n).map (lo + ·)).filter fun k => decide (outF rs row k = some v)).length + (outsF rs row lo).count v = (outsF rs row (lo + n)).count v
  | 0 => by simp
  | n + 1 => by
    have ih := late_len v lo n
    rw [List.range_succ, List.map_append, List.filter_append, List.length_append, ← Nat.add_assoc lo n 1, outsF_succ, ← ih]
    have z : (([n].map (lo + ·)).filter fun k => decide (outF rs row k = some v)).length = if outF rs row (lo + n) = some v then 1 else 0 := by
      by_cases hv : outF rs row (lo + n) = some v
      · simp [hv]
      · simp [hv]
    rw [z]
    omega
theorem late_cut (v : Int) (lo r : Nat) : ∀ n, r ≤ n → ((((List.range n).map (lo + ·)).filter fun k => decide (outF rs row k = some v)).filter fun k => decide (k < lo + r)) = ((List.range r).map (lo + ·)).filter fun k => decide (outF rs row k = some v) := fun n hn => by
  obtain ⟨m, rfl⟩ : ∃ m, n = r + m := ⟨n - r, by omega⟩
  have key : ∀ m, ((((List.range (r + m)).map (lo + ·)).filter fun k => decide (outF rs row k = some v)).filter fun k => decide (k < lo + r)) = ((((List.range r).map (lo + ·)).filter fun k => decide (outF rs row k = some v)).filter fun k => decide (k < lo + r)) := fun m => by
    induction m with
    | zero => rfl
    | succ m ih =>
      rw [show r + (m + 1) = (r + m) + 1 by omega, List.range_succ, List.map_append, List.filter_append, List.filter_append, ih]
      have z : ((([r + m].map (lo + ·)).filter fun k => decide (outF rs row k = some v)).filter fun k => decide (k < lo + r)) = [] := by
        rw [List.filter_eq_nil_iff]
        intro a ha
        have ha := (List.mem_filter.mp ha).1
        have : a = lo + (r + m) := by simpa using ha
        simp
        omega
      rw [z, List.append_nil]
  rw [key m, List.filter_eq_self]
  intro a ha
  obtain ⟨j, hj, rfl⟩ := List.mem_map.mp (List.mem_filter.mp ha).1
  have := List.mem_range.mp hj
  simp
  omega
/-- many, by rounds -/
theorem cnt_late (hr : row ≠ []) (c : Cyc rs row s e) {T : Nat} (hT : e < T) (v : Int) :
    (((outsF rs row s).count v : Nat) : Int) + (((T - s) / (e - s) : Nat) : Int) * ((((outsF rs row e).count v : Nat) : Int) - ((outsF rs row s).count v : Nat)) + ((((outsF rs row (s + (T - s) % (e - s))).count v : Nat) : Int) - ((outsF rs row s).count v : Nat)) = ((outsF rs row T).count v : Nat) := by
  have lt := c.lt
  have d := Nat.mod_add_div (T - s) (e - s)
  obtain ⟨r, er⟩ : ∃ r, r = (T - s) % (e - s) := ⟨_, rfl⟩
  obtain ⟨q, eq⟩ : ∃ q, q = (T - s) / (e - s) := ⟨_, rfl⟩
  rw [← er, ← eq] at d ⊢
  have eT : T = s + r + q * (e - s) := by rw [Nat.mul_comm]; omega
  have h1 := cnt_rounds hr c (u := s + r) (by omega) v q
  rw [← eT] at h1
  have h2 := cnt_shift hr c (u := s) (Nat.le_refl _) v 1 r
  have e2 : s + 1 * (e - s) = e := by omega
  have e3 : s + 1 * (e - s) + r = s + r + (e - s) := by omega
  rw [e3, e2] at h2
  have h3 : (((outsF rs row (s + r + (e - s))).count v : Nat) : Int) - ((outsF rs row (s + r)).count v : Nat) = (((outsF rs row e).count v : Nat) : Int) - ((outsF rs row s).count v : Nat) := by omega
  rw [h3] at h1
  omega
theorem outsF_same (hr : row ≠ []) (c : Cyc rs row s e) {T : Nat} {v : Int} (hv : v ∈ outsF rs row T) : v ∈ outsF rs row e := by
  obtain ⟨t, _, et⟩ := List.mem_filterMap.mp hv
  obtain ⟨h1, _, h3⟩ := c.same hr t
  exact List.mem_filterMap.mpr ⟨_, List.mem_range.mpr h1, by rw [← h3]; exact et⟩
/-- the numbers that came out by T, among all that ever come -/
theorem keysOf_sub (hr : row ≠ []) (c : Cyc rs row s e) (T : Nat) : (keysOf (outsF rs row e)).filter (fun v => decide (0 < (outsF rs row T).count v)) = keysOf (outsF rs row T) :=
  keysOf_one ((keysOf_nodup _).filter _) (fun v => by
    rw [List.mem_filter, mem_keysOf, decide_eq_true_eq, List.count_pos_iff]
    exact ⟨fun z => z.2, fun z => ⟨outsF_same hr c z, z⟩⟩) ((keysOf_rise _).filter _)
theorem unlike_soonM {ra rb : List Rule} {sa ea sb eb t m1 m2 sp : Nat} (hr : row ≠ []) (ca : Cyc ra row sa ea) (cb : Cyc rb row sb eb) (h1 : sp = m1 * (ea - sa)) (h2 : sp = m2 * (eb - sb)) (hp : 0 < sp) (ne : outF ra row t ≠ outF rb row t) (al : ∀ u, u < t → outF ra row u = outF rb row u) : t < max sa sb + sp := by
  rcases Nat.lt_or_ge t (max sa sb + sp) with c | c
  · exact c
  · obtain ⟨u, eu⟩ : ∃ u, u = t - sp := ⟨_, rfl⟩
    have z1 := (cyc_shift hr ca (u := u) (by omega) m1).2
    have z2 := (cyc_shift hr cb (u := u) (by omega) m2).2
    rw [← h1, show u + sp = t by omega] at z1
    rw [← h2, show u + sp = t by omega] at z2
    exact absurd (by rw [z1, z2]; exact al u (by omega)) ne
end
section
variable {K : PySem.W.Frag} {M : List Addr} {σ : L2.St} {H : Hp} {ta tb : TE}
theorem rd_eqOp {i j : Option Int} (ha : Rd K M ta σ H (dO i)) (hb : Rd K M tb σ H (dO j)) : Rd K M (tOp rEq ta tb) σ H (.bl (decide (i = j))) :=
  rd_op ha hb fun x y H1 Q g hx hy k => by
    obtain rfl := rp_dO.mp hx
    obtain rfl := rp_dO.mp hy
    cases i with
    | none =>
      cases j with
      | none => exact ⟨rfl, k _ H1 (Same.refl _) g rfl⟩
      | some b => exact ⟨rfl, k _ H1 (Same.refl _) g rfl⟩
    | some a =>
      cases j with
      | none => exact ⟨rfl, k _ H1 (Same.refl _) g rfl⟩
      | some b =>
        refine ⟨rfl, k _ H1 (Same.refl _) g ?_⟩
        show V.bl _ = V.bl _
        congr 1
        simp [ov]
end
end SC
set_option maxRecDepth 100000
set_option maxHeartbeats 2000000
/-! # Part Bf: the shortest row that tells two chains apart, layer by layer (mathematics); x in a list of data -/
namespace SC
open PySem PySem.Spec PyProof.Rows L2 TL
abbrev St2 := List (Option Int) × List (Option Int)
abbrev En2 := List Int × St2
section
variable (ra rb : List Rule)
def nxt (st : St2) (x : Int) : St2 := ((stepR ra st.1 (some x)).1, (stepR rb st.2 (some x)).1)
def tls (st : St2) (x : Int) : Bool := !decide ((stepR ra st.1 (some x)).2 = (stepR rb st.2 (some x)).2)
def addE (a : List St2 × List En2) (e : En2) (x : Int) : List St2 × List En2 := if nxt ra rb e.2 x ∈ a.1 then a else (a.1 ++ [nxt ra rb e.2 x], a.2 ++ [(e.1 ++ [x], nxt ra rb e.2 x)])
def addEs (a : List St2 × List En2) (e : En2) (xs : List Int) : List St2 × List En2 := xs.foldl (fun a x => addE ra rb a e x) a
def addL (ns : List Int) (a : List St2 × List En2) (L : List En2) : List St2 × List En2 := L.foldl (fun a e => addEs ra rb a e ns) a
def hitE (e : En2) (xs : List Int) : Option (List Int) := (xs.find? (tls ra rb e.2)).map fun x => e.1 ++ [x]
def hitL (ns : List Int) (L : List En2) : Option (List Int) := L.findSome? fun e => hitE ra rb e ns
/-- what is found behind these states, in so many layers -/
inductive Tell (ns : List Int) : Nat → List St2 → List En2 → Option (List Int) → Prop
  | nil {seen : List St2} : Tell ns 0 seen [] none
  | hit {seen : List St2} {L : List En2} {r : List Int} (h : hitL ra rb ns L = some r) : Tell ns 0 seen L (some r)
  | next {n : Nat} {seen : List St2} {L : List En2} {res : Option (List Int)} (h0 : L ≠ []) (h : hitL ra rb ns L = none) (t : Tell ns n (addL ra rb ns (seen, []) L).1 (addL ra rb ns (seen, []) L).2 res) : Tell ns (n + 1) seen L res
def OkSt (ns : List Int) (s : St2) : Prop := (s.1.length = ra.length ∧ Fill s.1 ∧ ∀ x, some x ∈ s.1 → x ∈ ns) ∧ s.2.length = rb.length ∧ Fill s.2 ∧ ∀ x, some x ∈ s.2 → x ∈ ns
/-- a layer under way: k states were seen before -/
structure Acc (ns : List Int) (k : Nat) (a : List St2 × List En2) : Prop where
  nd : a.1.Nodup
  ok : ∀ s ∈ a.1, OkSt ra rb ns s ∧ s.1 ≠ nones ra.length
  en : ∀ e ∈ a.2, OkSt ra rb ns e.2 ∧ e.1.length ≤ a.1.length
  ln : k + a.2.length = a.1.length
end
section
variable {ra rb : List Rule} {ns : List Int}
theorem addEs_snoc {a : List St2 × List En2} {e : En2} {xs : List Int} {x : Int} : addEs ra rb a e (xs ++ [x]) = addE ra rb (addEs ra rb a e xs) e x := by
  unfold addEs
  rw [List.foldl_append]
  rfl
theorem addL_snoc {a : List St2 × List En2} {L : List En2} {e : En2} : addL ra rb ns a (L ++ [e]) = addEs ra rb (addL ra rb ns a L) e ns := by
  unfold addL
  rw [List.foldl_append]
  rfl
theorem step_head {rs : List Rule} {hs : List (Option Int)} {x : Int} (h1 : 1 ≤ rs.length) (hl : hs.length = rs.length) : (stepR rs hs (some x)).1 ≠ nones rs.length := by
  cases rs with
  | nil => simp at h1
  | cons r rs =>
    cases hs with
    | nil => simp at hl
    | cons h hs =>
      intro z
      have z0 := congrArg (fun l : List (Option Int) => l[0]?) z
      have zn : (nones (r :: rs).length)[0]? = some none := by
        unfold nones
        rw [List.getElem?_replicate, if_pos (by simp)]
      have z0 : (stepR (r :: rs) (h :: hs) (some x)).1[0]? = some none := z0.trans zn
      cases h with
      | none => rw [step_cn] at z0; simp at z0
      | some y => rw [step_cs] at z0; simp at z0
theorem OkSt.nxt {s : St2} {x : Int} (h : OkSt ra rb ns s) (hx : x ∈ ns) : OkSt ra rb ns (nxt ra rb s x) := by
  obtain ⟨⟨a1, a2, a3⟩, b1, b2, b3⟩ := h
  refine ⟨⟨(step_len _ _ _).trans a1, step_fill a2 a1, ?_⟩, (step_len _ _ _).trans b1, step_fill b2 b1, ?_⟩
  · exact (step_pred (P := fun z => z ∈ ns) ra s.1 (some x) a3 (fun y hy => by cases hy; exact hx)).1
  · exact (step_pred (P := fun z => z ∈ ns) rb s.2 (some x) b3 (fun y hy => by cases hy; exact hx)).1
theorem Acc.add {k m : Nat} {a : List St2 × List En2} {e : En2} {x : Int} (h : Acc ra rb ns k a) (h1 : 1 ≤ ra.length) (he : OkSt ra rb ns e.2) (hr : e.1.length ≤ k) (hx : x ∈ ns) : Acc ra rb ns k (addE ra rb a e x) := by
  unfold addE
  by_cases c : SC.nxt ra rb e.2 x ∈ a.1
  · rw [if_pos c]
    exact h
  · rw [if_neg c]
    have on := he.nxt hx
    refine ⟨?_, fun s hs => ?_, fun f hf => ?_, ?_⟩
    · exact List.nodup_append.mpr ⟨h.nd, by simp, fun y hy z hz => by
        rw [List.mem_singleton.mp hz]
        exact fun q => c (by rw [← q]; exact hy)⟩
    · rcases List.mem_append.mp hs with hs | hs
      · exact h.ok s hs
      · rw [List.mem_singleton.mp hs]
        exact ⟨on, step_head h1 he.1.1⟩
    · have ln := h.ln
      rcases List.mem_append.mp hf with hf | hf
      · obtain ⟨z1, z2⟩ := h.en f hf
        refine ⟨z1, ?_⟩
        show f.1.length ≤ (a.1 ++ [SC.nxt ra rb e.2 x]).length
        rw [List.length_append]
        omega
      · rw [List.mem_singleton.mp hf]
        refine ⟨on, ?_⟩
        show (e.1 ++ [x]).length ≤ (a.1 ++ [SC.nxt ra rb e.2 x]).length
        rw [List.length_append, List.length_append, List.length_singleton, List.length_singleton]
        omega
    · show k + (a.2 ++ [(e.1 ++ [x], SC.nxt ra rb e.2 x)]).length = (a.1 ++ [SC.nxt ra rb e.2 x]).length
      have ln := h.ln
      rw [List.length_append, List.length_append, List.length_singleton, List.length_singleton]
      omega
theorem Acc.adds {k : Nat} {e : En2} (h1 : 1 ≤ ra.length) (he : OkSt ra rb ns e.2) (hr : e.1.length ≤ k) : ∀ (xs : List Int) {a : List St2 × List En2}, (∀ x ∈ xs, x ∈ ns) → Acc ra rb ns k a → Acc ra rb ns k (addEs ra rb a e xs)
  | [], a, _, h => h
  | x :: xs, a, hx, h => Acc.adds h1 he hr xs (fun y hy => hx y (List.mem_cons_of_mem _ hy)) (h.add (m := 0) h1 he hr (hx x List.mem_cons_self))
theorem Acc.addL {k : Nat} (h1 : 1 ≤ ra.length) : ∀ (L : List En2) {a : List St2 × List En2}, (∀ e ∈ L, OkSt ra rb ns e.2 ∧ e.1.length ≤ k) → Acc ra rb ns k a → Acc ra rb ns k (addL ra rb ns a L)
  | [], a, _, h => h
  | e :: L, a, hL, h => Acc.addL h1 L (fun f hf => hL f (List.mem_cons_of_mem _ hf)) (Acc.adds h1 (hL e List.mem_cons_self).1 (hL e List.mem_cons_self).2 ns (fun x hx => hx) h)
theorem hitL_snoc {L : List En2} {e : En2} : hitL ra rb ns (L ++ [e]) = match hitL ra rb ns L with | some r => some r | none => hitE ra rb e ns := by
  unfold hitL
  rw [List.findSome?_append]
  cases L.findSome? (fun e => hitE ra rb e ns) with
  | some r => rfl
  | none =>
    simp only [List.findSome?, Option.none_or]
    cases hitE ra rb e ns <;> rfl
theorem hitE_snoc {e : En2} {xs : List Int} {x : Int} : hitE ra rb e (xs ++ [x]) = match hitE ra rb e xs with | some r => some r | none => if tls ra rb e.2 x = true then some (e.1 ++ [x]) else none := by
  unfold hitE
  rw [List.find?_append]
  cases xs.find? (tls ra rb e.2) with
  | some r => rfl
  | none => cases hp : tls ra rb e.2 x <;> simp [List.find?, hp]
theorem hitL_none {L : List En2} (h : hitL ra rb ns L = none) {e : En2} (he : e ∈ L) : hitE ra rb e ns = none := by
  unfold hitL at h
  exact List.findSome?_eq_none_iff.mp h e he
theorem hitE_none {e : En2} {xs : List Int} (h : hitE ra rb e xs = none) {x : Int} (hx : x ∈ xs) : tls ra rb e.2 x = false := by
  unfold hitE at h
  rw [Option.map_eq_none_iff, List.find?_eq_none] at h
  simpa using h x hx
end
/-! ### there are only so many states -/
theorem nodup_leA {α : Type} [DecidableEq α] : ∀ {a b : List α}, a.Nodup → (∀ v ∈ a, v ∈ b) → a.length ≤ b.length
  | [], b, _, _ => Nat.zero_le _
  | x :: a, b, nd, h => by
    have nd' := List.nodup_cons.mp nd
    have hx := h x List.mem_cons_self
    have z := nodup_leA (b := b.erase x) nd'.2 fun v hv => (List.mem_erase_of_ne (fun e => nd'.1 (by rw [← e]; exact hv))).mpr (h v (List.mem_cons_of_mem _ hv))
    rw [List.length_erase_of_mem hx] at z
    have p := List.length_pos_of_mem hx
    rw [List.length_cons]
    omega
def allO (os : List (Option Int)) : Nat → List (List (Option Int))
  | 0 => [[]]
  | n + 1 => os.flatMap fun o => (allO os n).map (o :: ·)
theorem flat_len {α β : Type} (f : α → List β) (k : Nat) : ∀ l : List α, (∀ a ∈ l, (f a).length = k) → (l.flatMap f).length = l.length * k
  | [], _ => by simp
  | a :: l, h => by
    rw [List.flatMap_cons, List.length_append, h a List.mem_cons_self, flat_len f k l fun x hx => h x (List.mem_cons_of_mem _ hx), List.length_cons, Nat.add_mul, Nat.one_mul]
    omega
theorem allO_len (os : List (Option Int)) : ∀ n, (allO os n).length = os.length ^ n
  | 0 => rfl
  | n + 1 => by
    show (os.flatMap fun o => (allO os n).map (o :: ·)).length = _
    rw [flat_len _ ((allO os n).length) os (fun a _ => List.length_map _), allO_len os n, Nat.pow_succ, Nat.mul_comm]
theorem allO_mem {os : List (Option Int)} : ∀ {hs : List (Option Int)}, (∀ o ∈ hs, o ∈ os) → hs ∈ allO os hs.length
  | [], _ => List.mem_singleton.mpr rfl
  | h :: hs, ho => by
    show h :: hs ∈ os.flatMap fun o => (allO os hs.length).map (o :: ·)
    exact List.mem_flatMap.mpr ⟨h, ho h List.mem_cons_self, List.mem_map.mpr ⟨hs, allO_mem fun o q => ho o (List.mem_cons_of_mem _ q), rfl⟩⟩
def allS (ra rb : List Rule) (ns : List Int) : List St2 := (allO (none :: ns.map some) ra.length).flatMap fun a => (allO (none :: ns.map some) rb.length).map fun b => (a, b)
section
variable {ra rb : List Rule} {ns : List Int}
theorem allS_len : (allS ra rb ns).length = (ns.length + 1) ^ ra.length * (ns.length + 1) ^ rb.length := by
  unfold allS
  rw [flat_len _ ((ns.length + 1) ^ rb.length) _ (fun a _ => by rw [List.length_map, allO_len, List.length_cons, List.length_map]), allO_len, List.length_cons, List.length_map]
theorem OkSt.mem {s : St2} (h : OkSt ra rb ns s) : s ∈ allS ra rb ns := by
  obtain ⟨⟨a1, _, a3⟩, b1, _, b3⟩ := h
  have key : ∀ {l : List (Option Int)}, (∀ x, some x ∈ l → x ∈ ns) → ∀ o ∈ l, o ∈ none :: ns.map some := fun {l} hl o ho => by
    cases o with
    | none => exact List.mem_cons_self
    | some x => exact List.mem_cons_of_mem _ (List.mem_map.mpr ⟨x, hl x ho, rfl⟩)
  have m1 := allO_mem (key a3)
  have m2 := allO_mem (key b3)
  rw [a1] at m1
  rw [b1] at m2
  exact List.mem_flatMap.mpr ⟨s.1, m1, List.mem_map.mpr ⟨s.2, m2, rfl⟩⟩
theorem Acc.few {k : Nat} {a : List St2 × List En2} (h : Acc ra rb ns k a) (h1 : ra.length ≤ 4) (h2 : rb.length ≤ 4) (h3 : ns.length ≤ 4) : a.1.length ≤ 400000 := by
  have z := nodup_leA h.nd fun s hs => (h.ok s hs).1.mem
  rw [allS_len] at z
  have p1 : (ns.length + 1) ^ ra.length ≤ 5 ^ 4 := Nat.le_trans (Nat.pow_le_pow_left (by omega) _) (Nat.pow_le_pow_right (by decide) h1)
  have p2 : (ns.length + 1) ^ rb.length ≤ 5 ^ 4 := Nat.le_trans (Nat.pow_le_pow_left (by omega) _) (Nat.pow_le_pow_right (by decide) h2)
  have p3 := Nat.mul_le_mul p1 p2
  have p4 : (5 : Nat) ^ 4 * 5 ^ 4 = 390625 := by decide
  omega
theorem tell_ex (h1 : 1 ≤ ra.length) (h4 : ra.length ≤ 4) (h5 : rb.length ≤ 4) (h6 : ns.length ≤ 4) : ∀ (m : Nat) (seen : List St2) (L : List En2), 400000 - seen.length ≤ m → Acc ra rb ns seen.length (seen, []) → (∀ e ∈ L, OkSt ra rb ns e.2 ∧ e.1.length ≤ seen.length) → ∃ n res, Tell ra rb ns n seen L res := by
  intro m
  induction m with
  | zero =>
    intro seen L hm hA hL
    cases L with
    | nil => exact ⟨0, none, .nil⟩
    | cons e L =>
      cases hh : hitL ra rb ns (e :: L) with
      | some r => exact ⟨0, some r, .hit hh⟩
      | none =>
        have a := Acc.addL h1 (e :: L) hL hA
        have f := a.few h4 h5 h6
        have ln := a.ln
        have e2 : (addL ra rb ns (seen, []) (e :: L)).2 = [] := List.length_eq_zero_iff.mp (by omega)
        exact ⟨1, none, .next (by simp) hh (by rw [e2]; exact .nil)⟩
  | succ m ih =>
    intro seen L hm hA hL
    cases L with
    | nil => exact ⟨0, none, .nil⟩
    | cons e L =>
      cases hh : hitL ra rb ns (e :: L) with
      | some r => exact ⟨0, some r, .hit hh⟩
      | none =>
        have a := Acc.addL h1 (e :: L) hL hA
        have ln := a.ln
        by_cases c : (addL ra rb ns (seen, []) (e :: L)).2 = []
        · exact ⟨1, none, .next (by simp) hh (by rw [c]; exact .nil)⟩
        · have cp := List.length_pos_iff.mpr c
          obtain ⟨n, res, t⟩ := ih (addL ra rb ns (seen, []) (e :: L)).1 (addL ra rb ns (seen, []) (e :: L)).2 (by omega) ⟨a.nd, a.ok, (fun e he => by cases he), rfl⟩ a.en
          exact ⟨n + 1, res, .next (by simp) hh t⟩
/-- at first -/
theorem okSt_init : OkSt ra rb ns (nones ra.length, nones rb.length) := by
  have nn : ∀ {n : Nat} (x : Int), some x ∈ nones n → x ∈ ns := fun x hx => by
    unfold nones at hx
    cases (List.mem_replicate.mp hx).2
  exact ⟨⟨nones_len _, fill_nones _, nn⟩, nones_len _, fill_nones _, nn⟩
theorem acc_init : Acc ra rb ns 0 (([] : List St2), ([] : List En2)) := ⟨List.nodup_nil, (fun s hs => by cases hs), (fun e he => by cases he), rfl⟩
end
/-! ### x in a list of data -/
def rInD (K : PySem.W.Frag) (f : Bool → Bool) : R2 := fun x y H Q => ∃ (d : PyData) (xs : List PyData), Dp K H x d ∧ Dp K H y (.list xs) ∧ d.canLay0 = true ∧ PyData.canLayAll0 xs = true ∧ d.depth ≤ 60 ∧ Q (.bl (f (xs.any fun z => PyData.eqv z d))) H
theorem op_inD {X : Cx} (hu : X.A.units + 64 < cLine) : OpR X (compareOp .In) (rInD X.K id) := fun pins s σ H x y v u Q I rx ry h => by
  obtain ⟨d, xs, hd, hy, c1, c2, dp, q⟩ := h
  obtain ⟨as, r1⟩ := Dp.reads I d x v hd rx
  obtain ⟨bs, r2⟩ := Dp.reads I (.list xs) y u hy ry
  exact SeqAt.in_list_reads r2 r1 c2 c1 (by omega) ⟨.bl _, H, I, rfl, q⟩
theorem op_ninD {X : Cx} (hu : X.A.units + 64 < cLine) : OpR X (compareOp .NotIn) (rInD X.K not) := fun pins s σ H x y v u Q I rx ry h => by
  obtain ⟨d, xs, hd, hy, c1, c2, dp, q⟩ := h
  obtain ⟨as, r1⟩ := Dp.reads I d x v hd rx
  obtain ⟨bs, r2⟩ := Dp.reads I (.list xs) y u hy ry
  exact SeqAt.notIn_list_reads r2 r1 c2 c1 (by omega) ⟨.bl _, H, I, rfl, q⟩
/-- .. the list itself told by its items -/
theorem use_inD {K : PySem.W.Frag} {M : List Addr} {H : Hp} {f : Bool → Bool} {x : V} {a : Addr} {vs : List V} {l : List D} {d : D} {n : Nat} {Q : VK} (hx : Rp K (wo M H) d x) (o : Ok n d) (hn : n ≤ 60) (ha : H a = some (.lst vs)) (hl : RpL K (wo M H) l vs) (ol : ∀ y ∈ l, Ok n y) (q : Q (.bl (f (l.any fun z => eqD z d))) H) : rInD K f x (.ref a) H Q := by
  refine ⟨toPy d, toPyL l, Ok.dp (fun _ => rfl) d o hx.here, .lst (SqL.of ha) (Ok.dpL (fun _ => rfl) l ol (RpL.same wo_le l hl)), (Ok.lay d o).1, (Ok.layL l ol).1, Nat.le_trans (Ok.lay d o).2 hn, ?_⟩
  have e : ((toPyL l).any fun z => PyData.eqv z (toPy d)) = l.any fun z => eqD z d := by
    clear q ol hl
    induction l with
    | nil => rfl
    | cons y l ih => rw [toPyL, List.any_cons, List.any_cons, ih]; rfl
  rw [e]
  exact q
end SC
set_option maxRecDepth 100000
set_option maxHeartbeats 2000000
/-! # Part Ea: sorted(list of data) -/
namespace SC
open PySem PySem.Spec PyProof.Rows L2 TL
def rSortedD (K : PySem.W.Frag) : List V → Hp → VK → Prop := fun xs H Q => ∃ (a : Addr) (ps : List (V × PyData)), xs = [.ref a] ∧ SqL K H a (ps.map (·.1)) ∧ (∀ p ∈ ps, Dp K H p.1 p.2) ∧ PySem.W.AllAlike (ps.map (·.2)) ∧ PySem.W.Sortable (ps.map (·.2)) ∧ (∀ p ∈ ps, p.2.depth ≤ 60) ∧ ∀ a', H a' = none → Q (.ref a') (upd H a' (.lst ((ps.mergeSort (PySem.W.dataLe false (·.2))).map (·.1))))
theorem each_of : ∀ {ps : List (V × PyData)} {us : List Value}, Vals (ps.map (·.1)) us → PySem.W.EachIs (fun v (p : V × PyData) => RelV p.1 v) us ps
  | [], us, h => by
    cases h
    exact .nil
  | p :: ps, us, h => by
    cases h with
    | cons h1 h2 => exact .cons h1 (each_of h2)
theorem each_to : ∀ {ps : List (V × PyData)} {us : List Value}, PySem.W.EachIs (fun v (p : V × PyData) => RelV p.1 v) us ps → Vals (ps.map (·.1)) us
  | _, _, .nil => .nil
  | _, _, .cons h1 h2 => .cons h1 (each_to h2)
theorem cr_sortedD {X : Cx} (hu : X.A.units + 64 < cLine) : CallR X (.builtin "sorted") (rSortedD X.K) := by
  intro pins s σ H xs us Q I r h
  obtain ⟨a, ps, rfl, hs, hd, hal, hk, hdep, q⟩ := h
  obtain ⟨its, rv, hl, hz⟩ := I.list hs
  rw [Vals.ref1 r]
  have e := each_of rv
  have er : ∀ {ps : List (V × PyData)} {us : List Value}, (∀ p ∈ ps, Dp X.K H p.1 p.2) → PySem.W.EachIs (fun v (p : V × PyData) => RelV p.1 v) us ps → PySem.W.EachIs (fun v (p : V × PyData) => ∃ as, Reads s.heap v p.2 as) us ps := by
    intro ps us hd e
    induction e with
    | nil => exact .nil
    | cons h1 h2 ih => exact .cons (Dp.reads I _ _ _ (hd _ List.mem_cons_self) h1) (ih fun p hp => hd p (List.mem_cons_of_mem _ hp))
  refine PySem.W.sorted_data (bs := ps) (enc := (·.2)) (R := fun v (p : V × PyData) => RelV p.1 v) hl.isList e (er hd e) hal hk (by rw [List.length_map] at hz; exact hz) (fun b hb => by have := hdep b hb; omega) fun out h1 h2 => ?_
  have k1 := each_to h2
  obtain ⟨ep, he'⟩ := PyProof.Rows.sortedAll_at s.heap its out.toArray
  have hlen : ((ps.mergeSort (PySem.W.dataLe false (·.2))).map (·.1)).length ≤ sizeLine := by
    rw [List.length_map, List.length_mergeSort]
    rw [List.length_map] at hz
    exact hz
  exact ⟨.ref _, upd H (s.heap.objs.size + 1) (.lst _), I.laid (t' := s.toks) (fun _ _ => PyProof.Rows.sortedAll_old) (Nat.le_succ _) ⟨hlen, out, ep, k1, he'⟩, rfl, q _ (I.hok.fresh (Nat.le_succ _))⟩
end SC
namespace SC
open PySem PySem.Spec PyProof.Rows L2 TL
section
variable {K : PySem.W.Frag} {M : List Addr} {σ : L2.St} {H : Hp}
theorem rpl_zip {α : Type} {f : α → D} : ∀ {xs : List α} {vs : List V}, RpL K H (xs.map f) vs → ∃ zs : List (V × α), zs.map (·.2) = xs ∧ zs.map (·.1) = vs ∧ ∀ z ∈ zs, Rp K H (f z.2) z.1
  | [], vs, h => by
    cases h
    exact ⟨[], rfl, rfl, fun z hz => by cases hz⟩
  | x :: xs, vs, h => by
    obtain ⟨v, vs', rfl, h1, h2⟩ := h
    obtain ⟨zs, e1, e2, e3⟩ := rpl_zip h2
    refine ⟨(v, x) :: zs, by rw [List.map_cons, e1], by rw [List.map_cons, e2], fun z hz => ?_⟩
    rcases List.mem_cons.mp hz with rfl | hz
    · exact h1
    · exact e3 z hz
theorem rpl_unzip {α : Type} {f : α → D} : ∀ {zs : List (V × α)}, (∀ z ∈ zs, Rp K H (f z.2) z.1) → RpL K H ((zs.map (·.2)).map f) (zs.map (·.1))
  | [], _ => rfl
  | z :: zs, h => ⟨z.1, zs.map (·.1), rfl, h z List.mem_cons_self, rpl_unzip fun y hy => h y (List.mem_cons_of_mem _ hy)⟩
/-- sorted(list of data) -/
theorem rd_sortedD {α : Type} {f : α → D} {xs : List α} {n : Nat} {u : TA} (ok : ∀ x ∈ xs, Ok n (f x)) (hn : n ≤ 60) (hal : PySem.W.AllAlike (xs.map fun x => toPy (f x))) (hk : PySem.W.Sortable (xs.map fun x => toPy (f x))) (h : RdA K M u σ H [.lst (xs.map f)]) :
    Rd K M (tCB (rSortedD K) u) σ H (.lst ((xs.mergeSort (PySem.W.dataLe false fun x => toPy (f x))).map f)) := fun H1 s1 g Q k => h H1 s1 g _ fun vs H2 s2 g2 r2 => by
  obtain ⟨v, rfl, a, us, rfl, ea, ra⟩ := rp1 r2
  obtain ⟨zs, e1, e2, e3⟩ := rpl_zip ra
  have d1 : (zs.map fun z => ((z.1, toPy (f z.2)) : V × PyData)).map (·.1) = us := by
    rw [List.map_map, ← e2]
    rfl
  have d2 : (zs.map fun z => ((z.1, toPy (f z.2)) : V × PyData)).map (·.2) = xs.map fun x => toPy (f x) := by
    rw [List.map_map, ← e1, List.map_map]
    rfl
  have mx : ∀ z ∈ zs, z.2 ∈ xs := fun z hz => by
    rw [← e1]
    exact List.mem_map_of_mem hz
  refine ⟨a, zs.map fun z => (z.1, toPy (f z.2)), rfl, by rw [d1]; exact SqL.of (wo_le _ _ ea), fun p hp => ?_, by rw [d2]; exact hal, by rw [d2]; exact hk, fun p hp => ?_, fun a' ha' => ?_⟩
  · obtain ⟨z, hz, rfl⟩ := List.mem_map.mp hp
    exact Ok.dp (fun _ => rfl) (f z.2) (ok _ (mx z hz)) (e3 z hz).here
  · obtain ⟨z, hz, rfl⟩ := List.mem_map.mp hp
    exact Nat.le_trans (Ok.lay _ (ok _ (mx z hz))).2 hn
  · have m1 : ((zs.map fun z => ((z.1, toPy (f z.2)) : V × PyData)).mergeSort (PySem.W.dataLe false (·.2))) = (zs.mergeSort (PySem.W.dataLe false fun z => toPy (f z.2))).map fun z => (z.1, toPy (f z.2)) := (List.map_mergeSort (r := PySem.W.dataLe false fun z : V × α => toPy (f z.2)) (s := PySem.W.dataLe false fun p : V × PyData => p.2) (f := fun z : V × α => ((z.1, toPy (f z.2)) : V × PyData)) (l := zs) fun a _ b _ => rfl).symm
    have m2 : xs.mergeSort (PySem.W.dataLe false fun x => toPy (f x)) = (zs.mergeSort (PySem.W.dataLe false fun z => toPy (f z.2))).map (·.2) := by
      rw [← e1]
      exact (List.map_mergeSort (r := PySem.W.dataLe false fun z : V × α => toPy (f z.2)) (s := PySem.W.dataLe false fun x : α => toPy (f x)) (f := fun z : V × α => z.2) (l := zs) fun a _ b _ => rfl).symm
    rw [m1, List.map_map]
    rw [m2] at k
    have e4 : ∀ z ∈ zs.mergeSort (PySem.W.dataLe false fun z => toPy (f z.2)), Rp K (wo M H2) (f z.2) z.1 := fun z hz => e3 z (List.mem_mergeSort.mp hz)
    exact new_lst g2 ha' (rpl_unzip e4) fun v H3 s3 => k v H3 (s2.trans s3)
end
end SC
set_option maxRecDepth 100000
set_option maxHeartbeats 2000000
/-! # Part Eb: [e for a, b in pairs if t] -/
namespace SC
open PySem PySem.Spec PyProof.Rows L2 TL
section
variable {K : PySem.W.Frag} {M : List Addr} {σ : L2.St} {H : Hp}
theorem wipe_two {i j : Nat} (h : i ≠ j) {x y : Option V} : L2.wipe (((L2.wipe σ [i, j]).set i x).set j y) [i, j] = L2.wipe σ [i, j] := by
  show (((((σ.set j Option.none).set i Option.none).set i x).set j y).set j Option.none).set i Option.none = (σ.set j Option.none).set i Option.none
  rw [List.set_set, List.set_set, List.set_comm _ _ h, List.set_set, List.set_set]
theorem Env.wipe2 {ρ : List Sl} (E : Env K M σ H ρ) {i j : Nat} : Env K M (L2.wipe σ [i, j]) H ((ρ.set j .any).set i .any) := (E.none (i := j)).none
/-- two own names -/
def own2 (σ : L2.St) (i j : Nat) (v u : V) : L2.St := ((L2.wipe σ [i, j]).set i (some v)).set j (some u)
theorem own2_1 {i j : Nat} (hi : i < σ.length) (h : i ≠ j) {v u : V} {x : D} (r : Rp K (wo M H) x v) : Rd K M (tVar i) (own2 σ i j v u) H x :=
  rd_var (by unfold own2; rw [List.getElem?_set_ne (Ne.symm h), List.getElem?_set_self (by rw [L2.wipe_length]; exact hi)]) r
theorem own2_2 {i j : Nat} (hj : j < σ.length) {v u : V} {x : D} (r : Rp K (wo M H) x u) : Rd K M (tVar j) (own2 σ i j v u) H x :=
  rd_var (by unfold own2; rw [List.getElem?_set_self (by rw [List.length_set, L2.wipe_length]; exact hj)]) r
theorem rd_lcP {α : Type} {tl : TE} {i j : Nat} {tt : TT} {te : TE} (hij : i ≠ j) (l : List α) (f1 f2 : α → D) (p : α → Bool) (k : α → D) (hl : l.length < sizeLine) (h : Rd K M tl σ H (.lst (l.map fun x => .tup [f1 x, f2 x])))
    (ht : ∀ x ∈ l, ∀ M' H' v u, Same (wo M H) (wo M' H') → Same H H' → Gd K M' H' → Rp K (wo M' H') (f1 x) v → Rp K (wo M' H') (f2 x) u → RdT K M' tt (own2 σ i j v u) H' (p x) ∧ (p x = true → Rd K M' te (own2 σ i j v u) H' (k x))) :
    Rd K M (tLc (iList K tl) (gTup K 2 (gCons (gName i) (gCons (gName j) gNil))) tt te [i, j]) σ H (.lst ((l.filter p).map k)) := fun H1 s1 g Q kk => h H1 s1 g _ fun x H2 s2 g2 rx => by
  obtain ⟨a, vs, rfl, e1, r1⟩ := rx
  have ea := wo_le _ _ e1
  refine ⟨a, rfl, ⟨vs, SqL.of ea⟩, fun D0 hD0 => ?_⟩
  have hD0M := g2.out hD0
  refine lc_list (K := K) (a := a) (xs := vs) (fun n H3 => ∃ acc, Same H2 H3 ∧ Gd K (D0 :: M) H3 ∧ H3 D0 = some (.lst acc) ∧ RpL K (wo (D0 :: M) H3) (((l.take n).filter p).map k) acc) ?_ ?_ ?_ ?_
  · exact ⟨[], same_new hD0, (g2.same (same_new hD0)).lst upd_same, upd_same, rfl⟩
  · rintro n H3 _ ⟨acc, s3, _⟩
    exact SqL.of (s3 _ _ ea)
  · rintro n v H3 hi ⟨acc, s3, g3, hD, ra⟩
    obtain ⟨x, hx, rv⟩ := r1.get' hi
    rw [List.getElem?_map] at hx
    cases q : l[n]? with
    | none => rw [q] at hx; cases hx
    | some z =>
      rw [q] at hx
      cases hx
      have rv3 := Rp.same (wo_cons (M := M) hD0 s3) _ rv
      obtain ⟨t, ws, rfl, et, v1, ws1, rfl, r1', v2, ws2, rfl, r2', r3'⟩ := rv3
      cases r3'
      refine ⟨t, _, rfl, SqT.of (wo_le _ _ et), rfl, _, _, rfl, _, _, rfl, rfl, ⟨wipe_two hij, ?_⟩⟩
      obtain ⟨b1, b2⟩ := ht z (List.mem_of_getElem? q) (D0 :: M) H3 v1 v2 ((swo (s1.trans s2)).trans (wo_cons hD0 s3)) ((s1.trans s2).trans s3) g3 r1' r2'
      refine b1 H3 (Same.refl _) g3 _ fun H4 s4 g4 => ?_
      have ln : acc.length < sizeLine := by
        rw [ra.len, List.length_map]
        refine Nat.lt_of_le_of_lt (List.length_filter_le _ _) ?_
        rw [List.length_take]
        omega
      have ra4 : RpL K (wo (D0 :: M) H4) (((l.take n).filter p).map k) acc := RpL.same (swo s4) _ ra
      have hD4 := s4 _ _ hD
      cases hp : p z with
      | false =>
        refine iteF ⟨acc, s3.trans s4, g4, hD4, ?_⟩
        rw [take_more q, List.filter_append, List.filter_cons, hp]
        simpa using ra4
      | true =>
        refine iteT (b2 hp H4 s4 g4 _ fun y H5 s5 g5 r5 => ?_)
        have ra5 : RpL K (wo (D0 :: M) H5) (((l.take n).filter p).map k) acc := RpL.same (swo s5) _ ra4
        refine ⟨acc, s5 _ _ hD4, ln, acc ++ [y], ?_, g5.at trivial, upd_same, ?_⟩
        · intro b o hb
          rw [upd_ne (ne_of_none hb hD0)]
          exact s5 _ _ (s4 _ _ (s3 _ _ hb))
        · have e : (((l.take (n + 1)).filter p).map k) = ((l.take n).filter p).map k ++ [k z] := by
            rw [take_more q, List.filter_append, List.map_append]
            simp [hp]
          rw [wo_upd List.mem_cons_self, e]
          exact ra5.snoc r5
  · rintro H3 ⟨acc, s3, g3, hD, ra⟩
    rw [r1.len, List.length_map, List.take_length] at ra
    exact kk _ H3 (s2.trans s3) g3.tl (lc_done hD0M hD ra)
end
end SC
set_option maxRecDepth 100000
set_option maxHeartbeats 2000000
/-! # Part Ec: t.count(x) of a tuple; for i in reversed(range(n)) -/
namespace SC
open PySem PySem.Spec PyProof.Rows L2 TL
def rCountT (K : PySem.W.Frag) : V → List V → Hp → VK → Prop := fun x xs H Q => ∃ (a : Addr) (ys : List V) (y : V), x = .ref a ∧ xs = [y] ∧ SqT K H a ys ∧ flatV y = true ∧ ys.all flatV = true ∧ Q (.int ((ys.countP fun z => eqV z y : Nat) : Int)) H
theorem mt_countT {X : Cx} : MtR X "tuple.count" (rCountT X.K) := by
  intro pins s σ H x xs v us Q I rx rxs h
  obtain ⟨a, ys, y, ex, exs, hs, fy, fys, q⟩ := h
  subst ex exs
  obtain rfl : v = Value.ref a := rx
  obtain ⟨uy, eu, ry⟩ := rxs.one
  subst eu
  obtain ⟨its, rv, ⟨⟨cls, dd, data, sl⟩, ho, hc, n, hd⟩, hlen⟩ := I.tuple hs
  simp only at hc hd
  subst hc hd
  have ec : its.toArray.toList.countP (eqU y) = ys.countP fun z => eqV z y := count_vals rv fys
  refine call_meets PySem.F.slot_tuple_count ⟨_, ho, rfl⟩ PySem.F.entry_tuple_count (PySem.F.args_tuple_count_2 _ _) (SeqAt.tuple_countAt a its.toArray n dd sl uy (eqU y)) ⟨ho, fun u' hu' => mem_eqAt ry fy rv fys u' (by simpa using hu'), ?_⟩
  refine ⟨.int ((ys.countP fun z => eqV z y : Nat) : Int), H, I.tok _, ⟨s.toks, ?_⟩, q⟩
  rw [← ec]
/-- a tuple of which the object is known (so a method can be asked of it: it has no dict) -/
def TupK (H : Hp) (a : Addr) (xs : List V) : Prop := ∃ o : Obj, H a = some (.frz o (.tup xs)) ∧ o.dict = none
theorem TupK.sq {K : PySem.W.Frag} {H : Hp} {a : Addr} {xs : List V} (h : TupK H a xs) : SqT K H a xs := by
  obtain ⟨o, e, _⟩ := h
  exact .inl (.inr ⟨o, e⟩)
/-- t.m(..) of such a tuple -/
def tBMT (r : V → List V → Hp → VK → Prop) (to : TE) (t : TA) : TE := fun σ H Q => to σ H fun x H1 => (∃ a xs, x = .ref a ∧ TupK H1 a xs) ∧ t σ H1 fun xs H2 => r x xs H2 Q
theorem pe_bmT {X : Cx} {o e : Expr} {es : List Expr} {to : TE} {t : TA} {name : Str} {apos cpos : Pos} {id : String} {r : V → List V → Hp → VK → Prop} (slot : Slot "tuple" name id) (hty : typeOf (.builtin id) = pure (.type "method_descriptor")) (hm : MtR X id r) (ho : PE X o to) (ha : PA X (e :: es) t)
    (hbase : attributeBase o name X.env (eval o X.env) = eval o X.env := by rfl)
    (hfew : ((backTo cpos (starEach (e :: es) X.env)).all (fun x => !x.1) && (backToKw cpos (keywordEach [] X.env)).all (fun x => x.1.isSome)
      && decide ((e :: es).length + ([] : List Keyword).length + (if ([] : List Keyword).isEmpty then 0 else 1) < 30)) = true := by rfl)
    (hline : (apos.endLine == cpos.line) = true := by rfl) (hs : starEach (e :: es) X.env = (false, eval e X.env) :: starEach es X.env := by rfl) (hplain : (backTo cpos (starEach es X.env)).any (·.1) = false := by rfl) :
    PE X (.Call (.Attribute o name apos) (e :: es) [] cpos) (tBMT r to t) := by
  refine ⟨fun pins s σ H Q I h => ?_⟩
  refine wpAny_Call_method_late hbase hfew hline rfl (thn (ho.run pins s σ H _ I h) fun v s1 ⟨x, H1, I1, r1, ty, q1⟩ => ?_)
  obtain ⟨a, xs, rfl, ob, ea, hdn⟩ := ty
  cases r1
  obtain ⟨eo, hz, its, rv, o', ho', hc, n, hd⟩ := I1.hok a _ ea
  have e2 : some o' = some ob := ho'.symm.trans eo
  cases e2
  refine ⟨"tuple", id, PySem.F.plainAttrs_tuple, slot, hty, ⟨_, eo, hc⟩, fun b e => ?_, ?_⟩
  · cases e
    exact ⟨_, eo, hdn⟩
  · have hA := ha.run cpos pins s1 σ H1 _ I1 q1
    rw [hs] at hA ⊢
    refine Calls.callWith_builtin (by show (false || (backTo cpos (starEach es X.env)).any (·.1)) = false; rw [hplain] <;> rfl) (Calls.evalArgs_plain ?_)
    exact thn hA fun us s2 ⟨vs, H2, I2, r2, q2⟩ => hm pins s2 σ H2 (.ref a) vs (.ref a) us Q I2 rfl r2 q2
/-- tuple(xs) of a list, the object known -/
def rTupK (K : PySem.W.Frag) : List V → Hp → VK → Prop := fun xs H Q => ∃ p ys, xs = [.ref p] ∧ SqL K H p ys ∧ ∀ (l : Addr) (o : Obj), H l = none → o.dict = none → Q (.ref l) (upd H l (.frz o (.tup ys)))
theorem cr_tupleK {X : Cx} : CallR X (.type "tuple") (rTupK X.K) := by
  intro pins s σ H xs us Q I r h
  obtain ⟨p, ys, rfl, hq, q⟩ := h
  rw [Vals.ref1 r]
  obtain ⟨its, r', pl, hz⟩ := I.list hq
  have hlen := r'.length
  refine call_tuple_list pl.isList (fun h' kp => ?_) (by simp only [List.size_toArray] <;> omega)
  have I1 : L2.Inv X pins σ H { s with heap := h' } := I.kept (t' := s.toks) kp
  have I2 : L2.Inv X pins σ (upd H h'.objs.size (.frz { cls := .type "tuple", data := .seq its.toArray } (.tup ys))) { s with heap := h'.push { cls := .type "tuple", data := .seq its.toArray } } :=
    I1.laid (t' := s.toks) (fun b o e => Heap.get?_push_of_some _ e) (Nat.le_refl _) (show ObjOk X.prog X.w _ _ _ (.frz _ (.tup ys)) from ⟨Heap.get?_push_size _ rfl, hz, its, r', IsTup.new _ _⟩)
  exact ⟨.ref h'.objs.size, _, I2, rfl, q _ _ (I1.hok.fresh (Nat.le_refl _)) rfl⟩
section
variable {K : PySem.W.Frag} {M : List Addr} {σ : L2.St} {H : Hp}
end
end SC
set_option maxRecDepth 100000
set_option maxHeartbeats 2000000
/-! # Part Ed: readings of tuples whose object is known (D.ktup) -/
namespace SC
open PySem PySem.Spec PyProof.Rows L2 TL
section
variable {K : PySem.W.Frag} {M : List Addr} {σ : L2.St} {H : Hp} {d : D} {ta tb : TE}
theorem ktup_sq {a : Addr} {o : Obj} {vs : List V} (e : wo M H a = some (.frz o (.tup vs))) : SqT K H a vs := .inl (.inr ⟨o, wo_le _ _ e⟩)
theorem rd_lenK {t : TA} {l : List D} (h : RdA K M t σ H [.ktup l]) : Rd K M (tCB (fun xs H Q => ∃ p ys, xs = [.ref p] ∧ (SqL K H p ys ∨ SqT K H p ys) ∧ Q (.int ys.length) H) t) σ H (.int l.length) :=
  rd_cb h fun xs H1 Q g hx k => by
    obtain ⟨v, rfl, a, o, vs, rfl, e1, _, r1⟩ := rp1 hx
    exact ⟨a, vs, rfl, .inr (ktup_sq e1), k _ H1 (Same.refl _) g (by rw [r1.len]; exact rfl)⟩
theorem rd_lenKM {α : Type} {f : α → D} {xs : List α} {u : TA} (h : RdA K M u σ H [.ktup (xs.map f)]) : Rd K M (tCB (fun xs H Q => ∃ p ys, xs = [.ref p] ∧ (SqL K H p ys ∨ SqT K H p ys) ∧ Q (.int ys.length) H) u) σ H (.int xs.length) := (rd_lenK h).cast (by rw [List.length_map])
theorem rd_ixK {l : List D} {i : Int} (hi : atI l i = some d) (ha : Rd K M ta σ H (.ktup l)) (hb : Rd K M tb σ H (.int i)) : Rd K M (tOp (rIxT K) ta tb) σ H d :=
  rd_op ha hb fun x y H1 Q g hx hy k => by
    obtain ⟨a, o, vs, rfl, e1, _, r1⟩ := hx
    unfold atI at hi
    cases e : ixN l.length i with
    | none => rw [e] at hi; cases hi
    | some j =>
      rw [e] at hi
      obtain ⟨v, ev, rv⟩ := r1.get hi
      refine ⟨a, vs, i, v, rfl, hy, ktup_sq e1, ?_, k v H1 (Same.refl _) g rv⟩
      unfold atI
      rw [r1.len, e]
      exact ev
theorem rd_isTupK {td : TE} {l : List D} (hd : Rd K M td σ H (.ktup l)) : Rd K M (tCB (rIsi K) (tCons td (tCons (tC (.ty "tuple")) tNil))) σ H (.bl true) := fun H1 s1 g Q k => hd H1 s1 g _ fun v H2 s2 g2 r2 => by
  obtain ⟨a, o, vs, rfl, e, _, _⟩ := r2
  exact ⟨_, _, _, _, true, rfl, .ty "tuple", .fTuple (wo_le _ _ e), kit_ty (by decide +kernel), k _ H2 s2 g2 rfl⟩
theorem rd_countNK {to : TE} {u : TA} {os : List (Option Int)} (h : Rd K M to σ H (.ktup (os.map dO))) (hu : RdA K M u σ H [.non]) : Rd K M (tBMT (rCountT K) to u) σ H (.int (os.countP Option.isNone : Nat)) :=
  fun H1 s1 g Q k => h H1 s1 g _ fun x H2 s2 g2 rx => by
    obtain ⟨a, o, vs, rfl, e1, hdn, r1⟩ := rx
    have e := rp_opts.mp r1
    subst e
    refine ⟨⟨a, os.map ov, rfl, o, wo_le _ _ e1, hdn⟩, hu H2 (s1.trans s2) g2 _ fun xs H3 s3 g3 r3 => ?_⟩
    obtain ⟨v, rfl, rv⟩ := rp1 r3
    cases rv
    have fl : ∀ l : List (Option Int), (l.map ov).all flatV = true := fun l => by
      rw [List.all_eq_true]
      intro y hy
      obtain ⟨o, _, rfl⟩ := List.mem_map.mp hy
      cases o <;> rfl
    have ct : ∀ l : List (Option Int), (l.map ov).countP (fun z => eqV z .non) = l.countP Option.isNone := fun l => by
      rw [List.countP_map]
      congr 1
      funext o
      cases o <;> rfl
    refine ⟨a, os.map ov, .non, rfl, rfl, .inl (.inr ⟨o, s3 _ _ (wo_le _ _ e1)⟩), rfl, fl os, k _ H3 (s2.trans s3) g3 ?_⟩
    show V.int _ = V.int _
    rw [ct os]
theorem rd_tupleK {t : TA} {l : List D} (h : RdA K M t σ H [.lst l]) : Rd K M (tCB (rTupK K) t) σ H (.ktup l) :=
  rd_cb h fun xs H1 Q g hx k => by
    obtain ⟨v, rfl, a, vs, rfl, e1, r1⟩ := rp1 hx
    refine ⟨a, vs, rfl, SqL.of (wo_le _ _ e1), fun p o hp hdn => ?_⟩
    have s : Same H1 (upd H1 p (.frz o (.tup vs))) := same_new hp
    refine k _ _ s (g.same s) ⟨p, o, vs, rfl, ?_, hdn, RpL.same (swo s) l r1⟩
    rw [wo_at (g.out hp), upd_same]
theorem ok_optsK {os : List (Option Int)} : Ok 1 (.ktup (os.map dO)) := .ktup fun x hx => by
  obtain ⟨i, _, rfl⟩ := List.mem_map.mp hx
  exact ok_dO
end
end SC
set_option maxRecDepth 100000
set_option maxHeartbeats 2000000
/-! # Part Ee: [e for a, b in xs for c, d in ys if t], ys told by a, b -/
namespace SC
open PySem PySem.Spec PyProof.Rows L2 TL
theorem walk_listC {K : PySem.W.Frag} {a : Addr} {xs : List V} {H4 : Hp} {Qd : Hp → Prop} {Body : V → Hp → (Hp → Prop) → Prop} (Pv : Nat → Hp → Prop) (h0 : Pv 0 H4) (hl : ∀ i H, i ≤ xs.length → Pv i H → SqL K H a xs)
    (hs : ∀ i x H, xs[i]? = some x → Pv i H → Body x H (Pv (i + 1))) (hd : ∀ H, Pv xs.length H → Qd H) :
    ∃ W : Nat → Nat → Hp → Prop, (∃ m, W 0 m H4) ∧ ∀ i m H, W i m H → ((Itl K a).stop i H ∧ Qd H) ∨ ((Itl K a).go i H ∧ ∃ Nx : Hp → Prop, (∀ H', Nx H' → ∃ m', m' < m ∧ W (i + 1) m' H') ∧ ∀ x H', (Itl K a).yld i H x H' → Body x H' Nx) := by
  refine ⟨fun i m H => m = xs.length - i ∧ i ≤ xs.length ∧ Pv i H, ⟨xs.length, by simp, Nat.zero_le _, h0⟩, ?_⟩
  rintro i m H ⟨rfl, hi, p⟩
  have q := hl i H hi p
  by_cases hlt : i < xs.length
  · refine .inr ⟨⟨xs, xs[i], q, by simp [hlt]⟩, Pv (i + 1), fun H' p' => ⟨xs.length - (i + 1), by omega, rfl, hlt, p'⟩, fun x H' y => ?_⟩
    obtain ⟨e, y⟩ := y
    subst e
    exact hs i x _ (y xs q) p
  · have e : i = xs.length := by omega
    subst e
    exact .inl ⟨⟨xs, q, Nat.le_refl _⟩, hd H p⟩
theorem wipe_at (σ : L2.St) (n : Nat) : ∀ vs : List Nat, (L2.wipe σ vs)[n]? = if n ∈ vs then (σ[n]?).map (fun _ => (Option.none : Option V)) else σ[n]?
  | [] => rfl
  | v :: vs => by
    show ((L2.wipe σ vs).set v Option.none)[n]? = _
    rw [List.getElem?_set, wipe_at σ n vs]
    by_cases h : v = n
    · subst h
      rw [if_pos rfl, if_pos List.mem_cons_self, L2.wipe_length]
      by_cases hl : v < σ.length
      · rw [if_pos hl, List.getElem?_eq_getElem hl]
        rfl
      · rw [if_neg hl, List.getElem?_eq_none (by omega)]
        rfl
    · rw [if_neg h]
      by_cases hm : n ∈ vs
      · rw [if_pos hm, if_pos (List.mem_cons_of_mem _ hm)]
      · rw [if_neg hm, if_neg fun z => by
          rcases List.mem_cons.mp z with z | z
          · exact h z.symm
          · exact hm z]
theorem wipe_set {τ : L2.St} {i : Nat} {x : Option V} {vs : List Nat} (h : i ∈ vs) : L2.wipe (τ.set i x) vs = L2.wipe τ vs := by
  apply List.ext_getElem?
  intro n
  rw [wipe_at, wipe_at]
  by_cases hn : n ∈ vs
  · rw [if_pos hn, if_pos hn, List.getElem?_set]
    by_cases e : i = n
    · subst e
      rw [if_pos rfl]
      by_cases hl : i < τ.length
      · rw [if_pos hl, List.getElem?_eq_getElem hl]
        rfl
      · rw [if_neg hl, List.getElem?_eq_none (by omega)]
    · rw [if_neg e]
  · rw [if_neg hn, if_neg hn, List.getElem?_set_ne (fun e => hn (by rw [← e]; exact h))]
theorem wipe_again {τ : L2.St} {vs : List Nat} : L2.wipe (L2.wipe τ vs) vs = L2.wipe τ vs := by
  apply List.ext_getElem?
  intro n
  rw [wipe_at, wipe_at]
  by_cases hn : n ∈ vs
  · rw [if_pos hn, if_pos hn, Option.map_map]
    rfl
  · rw [if_neg hn, if_neg hn]
/-- the names of the first clause; of both -/
def outS (σ : L2.St) (i1 i2 j1 j2 : Nat) (v u : V) : L2.St := ((L2.wipe σ [i1, i2, j1, j2]).set i1 (some v)).set i2 (some u)
def inS (σ : L2.St) (i1 i2 j1 j2 : Nat) (v u v' u' : V) : L2.St := ((L2.wipe (outS σ i1 i2 j1 j2 v u) [j1, j2]).set j1 (some v')).set j2 (some u')
section
variable {K : PySem.W.Frag} {M : List Addr} {σ : L2.St} {H : Hp}
theorem env_outS {ρ : List Sl} {i1 i2 j1 j2 : Nat} {v u : V} {x y : D} (E : Env K M σ H ρ) (h1 : Rp K (wo M H) x v) (h2 : Rp K (wo M H) y u) : Env K M (outS σ i1 i2 j1 j2 v u) H ((((((ρ.set j2 .any).set j1 .any).set i2 .any).set i1 .any).set i1 (.dat x)).set i2 (.dat y)) :=
  (((((E.none (i := j2)).none (i := j1)).none (i := i2)).none (i := i1)).set h1).set h2
theorem env_inS {ρ : List Sl} {i1 i2 j1 j2 : Nat} {v u v' u' : V} {x y : D} (E : Env K M (outS σ i1 i2 j1 j2 v u) H ρ) (h1 : Rp K (wo M H) x v') (h2 : Rp K (wo M H) y u') : Env K M (inS σ i1 i2 j1 j2 v u v' u') H ((((ρ.set j2 .any).set j1 .any).set j1 (.dat x)).set j2 (.dat y)) :=
  (((E.none (i := j2)).none (i := j1)).set h1).set h2
theorem rd_lcP2 {α β : Type} {tl tl1 : TE} {i1 i2 j1 j2 : Nat} {tt : TT} {te : TE} (l : List α) (f1 f2 : α → D) (inn : α → List β) (g1 g2 : β → D) (p : α → β → Bool) (k : α → β → D) (hl : (l.flatMap fun x => ((inn x).filter (p x)).map (k x)).length < sizeLine) (h : Rd K M tl σ H (.lst (l.map fun x => .tup [f1 x, f2 x])))
    (hin : ∀ x ∈ l, ∀ M' H' v u, Same (wo M H) (wo M' H') → Same H H' → Gd K M' H' → Rp K (wo M' H') (f1 x) v → Rp K (wo M' H') (f2 x) u → Rd K M' tl1 (outS σ i1 i2 j1 j2 v u) H' (.lst ((inn x).map fun y => .tup [g1 y, g2 y])))
    (ht : ∀ x ∈ l, ∀ y ∈ inn x, ∀ M' H' v u v' u', Same (wo M H) (wo M' H') → Same H H' → Gd K M' H' → Rp K (wo M' H') (f1 x) v → Rp K (wo M' H') (f2 x) u → Rp K (wo M' H') (g1 y) v' → Rp K (wo M' H') (g2 y) u' → RdT K M' tt (inS σ i1 i2 j1 j2 v u v' u') H' (p x y) ∧ (p x y = true → Rd K M' te (inS σ i1 i2 j1 j2 v u v' u') H' (k x y))) :
    Rd K M (tLc2 (iList K tl) (gTup K 2 (gCons (gName i1) (gCons (gName i2) gNil))) tYes (iList K tl1) (gTup K 2 (gCons (gName j1) (gCons (gName j2) gNil))) tt te [i1, i2, j1, j2] [j1, j2]) σ H (.lst (l.flatMap fun x => ((inn x).filter (p x)).map (k x))) := fun H1 s1 g Q kk => h H1 s1 g _ fun x H2 s2 g2 rx => by
  obtain ⟨a, vs, rfl, e1, r1⟩ := rx
  have ea := wo_le _ _ e1
  refine ⟨a, rfl, ⟨vs, SqL.of ea⟩, fun D0 hD0 => ?_⟩
  have hD0M := g2.out hD0
  refine walk_listC (K := K) (a := a) (xs := vs) (fun n H3 => ∃ acc, Same H2 H3 ∧ Gd K (D0 :: M) H3 ∧ H3 D0 = some (.lst acc) ∧ RpL K (wo (D0 :: M) H3) ((l.take n).flatMap fun x => ((inn x).filter (p x)).map (k x)) acc) ?_ ?_ ?_ ?_
  · exact ⟨[], same_new hD0, (g2.same (same_new hD0)).lst upd_same, upd_same, rfl⟩
  · rintro n H3 _ ⟨acc, s3, _⟩
    exact SqL.of (s3 _ _ ea)
  · rintro n v H3 hi ⟨acc, s3, g3, hD, ra⟩
    obtain ⟨d, hx, rv⟩ := r1.get' hi
    rw [List.getElem?_map] at hx
    cases q : l[n]? with
    | none => rw [q] at hx; cases hx
    | some z =>
    rw [q] at hx
    cases hx
    have mz := List.mem_of_getElem? q
    have rv3 := Rp.same (wo_cons (M := M) hD0 s3) _ rv
    obtain ⟨t, ws, rfl, et, v1, ws1, rfl, r1', v2, ws2, rfl, r2', r3'⟩ := rv3
    cases r3'
    refine ⟨t, _, rfl, SqT.of (wo_le _ _ et), rfl, _, _, rfl, _, _, rfl, rfl, ⟨?_, ?_⟩⟩
    · rw [wipe_set (by simp), wipe_set (by simp), wipe_again]
    simp only [tYes, if_true]
    have sw3 : Same (wo M H) (wo (D0 :: M) H3) := (swo (s1.trans s2)).trans (wo_cons hD0 s3)
    refine hin z mz (D0 :: M) H3 v1 v2 sw3 ((s1.trans s2).trans s3) g3 r1' r2' H3 (Same.refl _) g3 _ fun y H4 s4 g4 r4 => ?_
    obtain ⟨b, us, rfl, eb, rb⟩ := r4
    have eb4 := wo_le _ _ eb
    have nb : b ≠ D0 := fun e => by
      rw [e] at eb
      unfold wo at eb
      rw [if_pos List.mem_cons_self] at eb
      cases eb
    refine ⟨b, rfl, ⟨us, SqL.of eb4⟩, ?_⟩
    have hD4 := s4 _ _ hD
    have ra4 := RpL.same (swo (M := D0 :: M) s4) _ ra
    refine walk_listC (K := K) (a := b) (xs := us) (fun m H5 => ∃ acc, Same H2 H5 ∧ Same (wo (D0 :: M) H4) (wo (D0 :: M) H5) ∧ Gd K (D0 :: M) H5 ∧ H5 b = some (.lst us) ∧ H5 D0 = some (.lst acc) ∧ RpL K (wo (D0 :: M) H5) (((l.take n).flatMap fun x => ((inn x).filter (p x)).map (k x)) ++ (((inn z).take m).filter (p z)).map (k z)) acc) ?_ ?_ ?_ ?_
    · exact ⟨acc, s3.trans s4, Same.refl _, g4, eb4, hD4, by simpa using ra4⟩
    · rintro m H5 _ ⟨acc5, _, _, _, e5, _⟩
      exact SqL.of e5
    · rintro m w H5 hj ⟨acc5, s5, w5, g5, e5, hD5, ra5⟩
      obtain ⟨d2, hy, rw'⟩ := rb.get' hj
      rw [List.getElem?_map] at hy
      cases q2 : (inn z)[m]? with
      | none => rw [q2] at hy; cases hy
      | some y0 =>
      rw [q2] at hy
      cases hy
      have my := List.mem_of_getElem? q2
      have rw5 := Rp.same w5 _ rw'
      obtain ⟨t2, ws, rfl, et2, v3, ws1, rfl, r5', v4, ws2, rfl, r6', r7'⟩ := rw5
      cases r7'
      refine ⟨t2, _, rfl, SqT.of (wo_le _ _ et2), rfl, _, _, rfl, _, _, rfl, rfl, ⟨?_, ?_⟩⟩
      · rw [wipe_set (by simp), wipe_set (by simp), wipe_again]
      have sw5 : Same (wo (D0 :: M) H3) (wo (D0 :: M) H5) := (swo s4).trans w5
      obtain ⟨b1, b2⟩ := ht z mz y0 my (D0 :: M) H5 v1 v2 v3 v4 (sw3.trans sw5) ((s1.trans s2).trans s5) g5 (Rp.same sw5 _ r1') (Rp.same sw5 _ r2') r5' r6'
      refine b1 H5 (Same.refl _) g5 _ fun H6 s6 g6 => ?_
      have ra6 := RpL.same (swo (M := D0 :: M) s6) _ ra5
      have hD6 := s6 _ _ hD5
      have ln : acc5.length ≤ (l.flatMap fun x => ((inn x).filter (p x)).map (k x)).length := by
        rw [ra5.len]
        have e : l = l.take n ++ z :: l.drop (n + 1) := by
          have z1 := List.take_append_drop n l
          rw [List.drop_eq_getElem_cons (List.getElem?_eq_some_iff.mp q).1, (List.getElem?_eq_some_iff.mp q).2] at z1
          exact z1.symm
        have e2 : (l.flatMap fun x => ((inn x).filter (p x)).map (k x)) = ((l.take n).flatMap fun x => ((inn x).filter (p x)).map (k x)) ++ (((inn z).filter (p z)).map (k z) ++ (l.drop (n + 1)).flatMap fun x => ((inn x).filter (p x)).map (k x)) := by
          conv => lhs; rw [e]
          rw [List.flatMap_append, List.flatMap_cons]
        rw [e2, List.length_append, List.length_append, List.length_append, List.length_map, List.length_map]
        have e3 : (((inn z).take m).filter (p z)).length ≤ ((inn z).filter (p z)).length := ((List.take_sublist m (inn z)).filter (p z)).length_le
        omega
      cases hp : p z y0 with
      | false =>
        refine iteF ⟨acc5, s5.trans s6, w5.trans (swo s6), g6, s6 _ _ e5, hD6, ?_⟩
        rw [take_more q2, List.filter_append, List.filter_cons, hp]
        simpa using ra6
      | true =>
        refine iteT (b2 hp H6 s6 g6 _ fun y H7 s7 g7 r7 => ?_)
        have ra7 := RpL.same (swo (M := D0 :: M) s7) _ ra6
        refine ⟨acc5, s7 _ _ hD6, by omega, acc5 ++ [y], ?_, ?_, g7.at trivial, ?_, upd_same, ?_⟩
        · intro c o hc
          rw [upd_ne (ne_of_none hc hD0)]
          exact s7 _ _ (s6 _ _ (s5 _ _ hc))
        · rw [wo_upd List.mem_cons_self]
          exact (w5.trans (swo s6)).trans (swo s7)
        · rw [upd_ne nb]
          exact s7 _ _ (s6 _ _ e5)
        · have e : (((inn z).take (m + 1)).filter (p z)).map (k z) = (((inn z).take m).filter (p z)).map (k z) ++ [k z y0] := by
            rw [take_more q2, List.filter_append, List.map_append]
            simp [hp]
          rw [wo_upd List.mem_cons_self, e, ← List.append_assoc]
          exact ra7.snoc r7
    · rintro H5 ⟨acc5, s5, w5, g5, e5, hD5, ra5⟩
      rw [rb.len, List.length_map, List.take_length] at ra5
      refine ⟨acc5, s5, g5, hD5, ?_⟩
      rw [take_more q, List.flatMap_append, List.flatMap_cons, List.flatMap_nil, List.append_nil]
      exact ra5
  · rintro H3 ⟨acc, s3, g3, hD, ra⟩
    rw [r1.len, List.length_map, List.take_length] at ra
    exact kk _ H3 (s2.trans s3) g3.tl (lc_done hD0M hD ra)
end
end SC
set_option maxRecDepth 100000
set_option maxHeartbeats 2000000
/-! # Part Ef: ways back (mathematics) -/
namespace SC
open PySem PySem.Spec PyProof.Rows L2 TL
/-- what a cell may have held, and what came to it (as Er2's befC) -/
def befR (r : Rule) (k p : Int) : List (Int × Int) := ((k, p) :: if k = p then [] else [(p, k)]).filter fun q => decide (r.keep q.1 q.2 = (k, p))
theorem keep_two (r : Rule) (h c : Int) : r.keep h c = (h, c) ∨ r.keep h c = (c, h) := by
  cases r with
  | first => exact .inl rfl
  | last => exact .inr rfl
  | less =>
    by_cases e : c < h
    · exact .inr (if_pos e)
    · exact .inl (if_neg e)
  | greater =>
    by_cases e : h < c
    · exact .inr (if_pos e)
    · exact .inl (if_neg e)
  | near m =>
    by_cases e : absI (c - m) < absI (h - m)
    · exact .inr (if_pos e)
    · exact .inl (if_neg e)
theorem bef_mem {r : Rule} {k p ow c : Int} : (ow, c) ∈ befR r k p ↔ r.keep ow c = (k, p) := by
  unfold befR
  rw [List.mem_filter]
  constructor
  · rintro ⟨_, h⟩
    exact of_decide_eq_true h
  · intro h
    refine ⟨?_, decide_eq_true h⟩
    rcases keep_two r ow c with e | e
    · rw [e] at h
      rw [h]
      exact List.mem_cons_self
    · rw [e] at h
      injection h with h1 h2
      subst h1 h2
      by_cases z : c = ow
      · subst z
        exact List.mem_cons_self
      · rw [if_neg z]
        exact List.mem_cons_of_mem _ (List.mem_singleton.mpr rfl)
theorem bef_nodup (r : Rule) (k p : Int) : (befR r k p).Nodup := by
  unfold befR
  refine List.Pairwise.filter _ ?_
  show List.Nodup _
  by_cases h : k = p
  · rw [if_pos h]
    exact List.nodup_cons.mpr ⟨(fun z => by cases z), List.nodup_nil⟩
  · rw [if_neg h]
    refine List.nodup_cons.mpr ⟨fun z => ?_, List.nodup_cons.mpr ⟨(fun z => by cases z), List.nodup_nil⟩⟩
    have z := List.mem_singleton.mp z
    injection z with z1 _
    exact h z1
theorem nodup_mapB {α β : Type} {f : α → β} : ∀ {l : List α}, l.Nodup → (∀ a ∈ l, ∀ b ∈ l, f a = f b → a = b) → (l.map f).Nodup
  | [], _, _ => List.nodup_nil
  | a :: l, nd, h => by
    rw [List.nodup_cons] at nd
    rw [List.map_cons, List.nodup_cons]
    refine ⟨fun hm => ?_, nodup_mapB nd.2 fun x hx y hy => h x (List.mem_cons_of_mem _ hx) y (List.mem_cons_of_mem _ hy)⟩
    obtain ⟨b, hb, e⟩ := List.mem_map.mp hm
    rw [h b (List.mem_cons_of_mem _ hb) a List.mem_cons_self e] at hb
    exact nd.1 hb
abbrev Way := Int × List (Option Int)
/-- cell by cell, from the last that is filled -/
def backR : List Rule → List Int → List Way → List Way
  | r :: rs, x :: xs, W => (backR rs xs W).flatMap fun w => (befR r x w.1).map fun q => (q.2, some q.1 :: w.2)
  | _, _, W => W
theorem back_mem : ∀ {rs : List Rule} {xs : List Int} {W : List Way} {c : Int} {old : List (Option Int)}, rs.length = xs.length →
    ((c, old) ∈ backR rs xs W ↔ ∃ (p : Int) (b : List (Option Int)) (ows : List Int), (p, b) ∈ W ∧ old = ows.map some ++ b ∧ ows.length = xs.length ∧ stepR rs (ows.map some) (some c) = (xs.map some, some p))
  | [], [], W, c, old, _ => by
    show (c, old) ∈ W ↔ _
    constructor
    · intro h
      exact ⟨c, old, [], h, rfl, rfl, rfl⟩
    · rintro ⟨p, b, ows, h, e, hl, hs⟩
      have e0 : ows = [] := List.length_eq_zero_iff.mp hl
      subst e0
      have hs : (([] : List (Option Int)), some c) = ([], some p) := hs
      injection hs with _ h2
      injection h2 with h2
      rw [e, h2]
      exact h
  | r :: rs, x :: xs, W, c, old, hl => by
    have hl' : rs.length = xs.length := by simpa using hl
    show (c, old) ∈ (backR rs xs W).flatMap _ ↔ _
    rw [List.mem_flatMap]
    constructor
    · rintro ⟨⟨p1, b1⟩, hw, hm⟩
      obtain ⟨⟨ow, c'⟩, hq, e⟩ := List.mem_map.mp hm
      injection e with e1 e2
      subst e1
      have hk := bef_mem.mp hq
      obtain ⟨p, b, ows, h1, h2, h3, h4⟩ := (back_mem hl').mp hw
      refine ⟨p, b, ow :: ows, h1, by rw [← e2]; show some ow :: b1 = _; rw [h2]; rfl, by simp [h3], ?_⟩
      show stepR (r :: rs) (some ow :: ows.map some) (some c') = _
      rw [step_cs, hk]
      dsimp only
      rw [h4]
      rfl
    · rintro ⟨p, b, ows, h1, h2, h3, h4⟩
      cases ows with
      | nil => cases h3
      | cons ow ows =>
        have h4 : stepR (r :: rs) (some ow :: ows.map some) (some c) = (some x :: xs.map some, some p) := h4
        rw [step_cs] at h4
        injection h4 with a1 a2
        injection a1 with a3 a4
        injection a3 with a3
        refine ⟨((r.keep ow c).2, ows.map some ++ b), (back_mem hl').mpr ⟨p, b, ows, h1, rfl, by simpa using h3, Prod.ext a4 a2⟩, List.mem_map.mpr ⟨(ow, c), bef_mem.mpr (Prod.ext a3 rfl), ?_⟩⟩
        rw [h2]
        rfl
/-- none twice -/
theorem back_nodup : ∀ {rs : List Rule} {xs : List Int} {W : List Way}, W.Nodup → (backR rs xs W).Nodup
  | [], _, W, h => by
    unfold backR
    exact h
  | _ :: _, [], W, h => by
    unfold backR
    exact h
  | r :: rs, x :: xs, W, h => by
    have ih := back_nodup (rs := rs) (xs := xs) h
    show ((backR rs xs W).flatMap fun w => (befR r x w.1).map fun q => (q.2, some q.1 :: w.2)).Nodup
    generalize backR rs xs W = V at ih ⊢
    induction V with
    | nil => exact List.nodup_nil
    | cons w V ihV =>
      rw [List.nodup_cons] at ih
      rw [List.flatMap_cons]
      refine List.nodup_append.mpr ⟨?_, ihV ih.2, ?_⟩
      · exact nodup_mapB (bef_nodup _ _ _) fun a _ b _ e => by
          injection e with e1 e2
          injection e2 with e2 _
          injection e2 with e2
          exact Prod.ext e2 e1
      · rintro u hu v hv rfl
        obtain ⟨q, hq, rfl⟩ := List.mem_map.mp hu
        obtain ⟨w', hw', hv⟩ := List.mem_flatMap.mp hv
        obtain ⟨q', hq', e⟩ := List.mem_map.mp hv
        injection e with e1 e2
        injection e2 with e2 e3
        injection e2 with e2
        have k1 := bef_mem (ow := q.1) (c := q.2) |>.mp hq
        have k2 := bef_mem (ow := q'.1) (c := q'.2) |>.mp hq'
        rw [e1, e2, k1] at k2
        injection k2 with _ k2
        exact ih.1 (by rw [show w = w' from Prod.ext k2 e3.symm]; exact hw')
end SC
set_option maxRecDepth 100000
set_option maxHeartbeats 2000000
/-! # Part Eg: all the ways back -/
namespace SC
open PySem PySem.Spec PyProof.Rows L2 TL
theorem fill_inj : ∀ {xs ys : List Int} {n m : Nat}, xs.map some ++ nones n = ys.map some ++ nones m → xs = ys ∧ n = m
  | [], [], n, m, h => by
    have h : nones n = nones m := h
    have z := congrArg List.length h
    rw [nones_len, nones_len] at z
    exact ⟨rfl, z⟩
  | [], y :: ys, n, m, h => by
    cases n with
    | zero => cases h
    | succ n =>
      have h : none :: nones n = some y :: (ys.map some ++ nones m) := h
      injection h with h _
      cases h
  | x :: xs, [], n, m, h => by
    cases m with
    | zero => cases h
    | succ m =>
      have h : some x :: (xs.map some ++ nones n) = none :: nones m := h
      injection h with h _
      cases h
  | x :: xs, y :: ys, n, m, h => by
    have h : some x :: (xs.map some ++ nones n) = some y :: (ys.map some ++ nones m) := h
    injection h with h1 h2
    injection h1 with h1
    obtain ⟨e1, e2⟩ := fill_inj h2
    exact ⟨by rw [h1, e1], e2⟩
theorem step_parts {rs : List Rule} {ows ys : List Int} {k : Nat} {c d : Int} (hl : rs.length = ows.length + (k + 1)) (h : stepR (rs.take ows.length) (ows.map some) (some c) = (ys.map some, some d)) : stepR rs (ows.map some ++ nones (k + 1)) (some c) = ((ys ++ [d]).map some ++ nones k, none) := by
  have er : rs = rs.take ows.length ++ rs.drop ows.length := (List.take_append_drop _ _).symm
  cases ed : rs.drop ows.length with
  | nil =>
    have z := congrArg List.length ed
    rw [List.length_drop] at z
    simp at z
    omega
  | cons r rest =>
    rw [ed] at er
    rw [er, step_app _ _ _ _ _ (by rw [List.length_take, List.length_map]; omega), h]
    show ((ys.map some) ++ (stepR (r :: rest) (none :: nones k) (some d)).1, (stepR (r :: rest) (none :: nones k) (some d)).2) = _
    rw [step_cn, List.map_append]
    simp
/-- all the ways back from what is held (xs in the first cells, n cells empty) and what was let out -/
def waysX (rs : List Rule) (xs : List Int) (n : Nat) : Option Int → List Way
  | some o => if xs = [] then [] else if n = 0 then backR rs xs [(o, [])] else []
  | none => match xs.getLast? with
    | none => []
    | some y => backR (rs.take (xs.length - 1)) xs.dropLast [(y, nones (n + 1))]
theorem ways_last {rs : List Rule} {xs : List Int} {y : Int} {n : Nat} : waysX rs (xs ++ [y]) n none = backR (rs.take xs.length) xs [(y, nones (n + 1))] := by
  unfold waysX
  have e : (xs ++ [y]).getLast? = some y := by simp
  rw [e]
  dsimp only
  rw [List.length_append, List.length_singleton, Nat.add_sub_cancel, List.dropLast_concat]
theorem waysX_mem {rs : List Rule} {xs : List Int} {n : Nat} {out : Option Int} {c : Int} {old : List (Option Int)} (hl : rs.length = xs.length + n) (h1 : 1 ≤ rs.length) :
    (c, old) ∈ waysX rs xs n out ↔ Fill old ∧ old.length = rs.length ∧ stepR rs old (some c) = (xs.map some ++ nones n, out) := by
  constructor
  · intro h
    cases out with
    | some o =>
      unfold waysX at h
      dsimp only at h
      by_cases hx : xs = []
      · rw [if_pos hx] at h
        cases h
      · rw [if_neg hx] at h
        by_cases hn : n = 0
        · subst hn
          rw [if_pos rfl] at h
          obtain ⟨p, b, ows, a1, a2, a3, a4⟩ := (back_mem hl).mp h
          have a1 := List.mem_singleton.mp a1
          injection a1 with e1 e2
          subst e1 e2
          subst a2
          refine ⟨⟨ows, 0, rfl⟩, by simp [a3, hl], ?_⟩
          rw [List.append_nil, a4]
          show _ = (xs.map some ++ [], some p)
          rw [List.append_nil]
        · rw [if_neg hn] at h
          cases h
    | none =>
      cases hx : xs.getLast? with
      | none =>
        unfold waysX at h
        dsimp only at h
        rw [hx] at h
        cases h
      | some y =>
        obtain ⟨ys, rfl⟩ : ∃ ys, xs = ys ++ [y] := by
          have hne : xs ≠ [] := fun z => by rw [z] at hx; cases hx
          refine ⟨xs.dropLast, ?_⟩
          have z := List.dropLast_concat_getLast hne
          rw [List.getLast?_eq_getLast hne] at hx
          injection hx with hx
          rw [hx] at z
          exact z.symm
        rw [ways_last] at h
        have lt : (rs.take ys.length).length = ys.length := by
          rw [List.length_take, hl, List.length_append, List.length_singleton]
          omega
        obtain ⟨p, b, ows, a1, a2, a3, a4⟩ := (back_mem lt).mp h
        have a1 := List.mem_singleton.mp a1
        injection a1 with e1 e2
        subst e1 e2
        subst a2
        have hl2 : rs.length = ows.length + (n + 1) := by
          rw [hl, List.length_append, List.length_singleton, a3]
          omega
        rw [← a3] at a4
        exact ⟨⟨ows, n + 1, rfl⟩, by rw [List.length_append, List.length_map, nones_len, hl2], step_parts hl2 a4⟩
  · rintro ⟨⟨ows, m, rfl⟩, ho, hs⟩
    rw [List.length_append, List.length_map, nones_len] at ho
    cases m with
    | zero =>
      obtain ⟨ys, d, e1, e2⟩ := step_full rs ows c (by omega)
      have e0 : ows.map some ++ nones 0 = ows.map some := List.append_nil _
      rw [e0] at hs ⊢
      rw [e1] at hs
      injection hs with s1 s2
      have s1 : ys.map some ++ nones 0 = xs.map some ++ nones n := (List.append_nil _).trans s1
      obtain ⟨k1, k2⟩ := fill_inj s1
      subst k1 k2
      rw [← s2]
      have hx : ys ≠ [] := fun z => by
        rw [hl, z] at h1
        simp at h1
      unfold waysX
      dsimp only
      rw [if_neg hx, if_pos rfl]
      exact (back_mem hl).mpr ⟨d, [], ows, List.mem_singleton.mpr rfl, (List.append_nil _).symm, e2.symm, e1⟩
    | succ k =>
      obtain ⟨ys, d, e1, e2⟩ := step_full (rs.take ows.length) ows c (by rw [List.length_take]; omega)
      have z := step_parts (rs := rs) (k := k) (by omega) e1
      rw [z] at hs
      injection hs with s1 s2
      obtain ⟨k1, k2⟩ := fill_inj s1
      subst k1 k2
      rw [← s2, ways_last]
      have hl3 : rs.length = ys.length + 1 + k := by rw [hl, List.length_append, List.length_singleton]
      have hl4 : (rs.take ys.length).length = ys.length := by
        rw [List.length_take]
        omega
      refine (back_mem hl4).mpr ⟨d, nones (k + 1), ows, List.mem_singleton.mpr rfl, rfl, e2.symm, ?_⟩
      rw [e2]
      exact e1
theorem waysX_nodup {rs : List Rule} {xs : List Int} {n : Nat} {out : Option Int} : (waysX rs xs n out).Nodup := by
  have one : ∀ w : Way, [w].Nodup := fun w => List.nodup_cons.mpr ⟨(fun z => by cases z), List.nodup_nil⟩
  cases out with
  | some o =>
    unfold waysX
    dsimp only
    by_cases hx : xs = []
    · rw [if_pos hx]
      exact List.nodup_nil
    · rw [if_neg hx]
      by_cases hn : n = 0
      · rw [if_pos hn]
        exact back_nodup (one _)
      · rw [if_neg hn]
        exact List.nodup_nil
  | none =>
    unfold waysX
    dsimp only
    cases xs.getLast? with
    | none => exact List.nodup_nil
    | some y => exact back_nodup (one _)
end SC
set_option maxRecDepth 100000
set_option maxHeartbeats 2000000
/-! # Part Eh: xs.count(x) of nested data -/
namespace SC
open PySem PySem.Spec PyProof.Rows L2 TL
def rCountD (K : PySem.W.Frag) : V → List V → Hp → VK → Prop := fun x vs H Q => ∃ (a : Addr) (ys : List V) (y : V) (xs : List PyData) (d : PyData), x = .ref a ∧ vs = [y] ∧ SqL K H a ys ∧ DpAll K H ys xs ∧ Dp K H y d ∧ PyData.plainAll xs = true ∧ d.plain = true ∧ d.depth ≤ 60 ∧ Q (.int ((xs.countP fun z => PyData.eqv z d : Nat) : Int)) H
theorem mt_countD {X : Cx} (hu : X.A.units + 64 < cLine) : MtR X "list.count" (rCountD X.K) := by
  intro pins s σ H x xs v us Q I rx rxs h
  obtain ⟨a, ys, y, ps, d, ex, exs, hs, hp, hd, pl, pd, dp, q⟩ := h
  subst ex exs
  obtain rfl : v = Value.ref a := rx
  obtain ⟨uy, eu, ry⟩ := rxs.one
  subst eu
  obtain ⟨its, rv, hl, hlen⟩ := I.list hs
  obtain ⟨as, ra⟩ := Dp.readsAll I ps ys its hp rv
  obtain ⟨bs, rb⟩ := Dp.reads I d y uy hd ry
  exact PySem.SeqAt.count_list_data (vs := its.toArray) hl.isList (by simpa using ra) rb pl pd (by omega) ⟨.int _, H, I.tok _, ⟨s.toks, rfl⟩, q⟩
section
variable {K : PySem.W.Frag} {M : List Addr} {σ : L2.St} {H : Hp}
/-- xs.count(x) -/
theorem rd_countD {to tx : TE} {l : List D} {d : D} {n : Nat} (ol : ∀ y ∈ l, Ok n y) (od : Ok n d) (hn : n ≤ 60) (h : Rd K M to σ H (.lst l)) (hx : Rd K M tx σ H d) : Rd K M (tBM K "list" (rCountD K) to (tCons tx tNil)) σ H (.int ((l.countP fun z => eqD z d : Nat) : Int)) :=
  fun H1 s1 g Q k => h H1 s1 g _ fun x H2 s2 g2 rx => by
    obtain ⟨a, vs, rfl, e1, r1⟩ := rx
    refine ⟨.inl ⟨rfl, _, SqL.of (wo_le _ _ e1)⟩, hx H2 (s1.trans s2) g2 _ fun y H3 s3 g3 r3 => ?_⟩
    have r4 := RpL.same (swo s3) l r1
    have pa : ∀ ds : List D, (∀ z ∈ ds, Ok n z) → PyData.plainAll (toPyL ds) = true := fun ds => by
      induction ds with
      | nil => exact fun _ => rfl
      | cons z ds ih =>
        intro hz
        show (PyData.plain (toPy z) && PyData.plainAll (toPyL ds)) = true
        rw [PyData.plain_of_canLay0 _ (Ok.lay z (hz z List.mem_cons_self)).1, ih fun y hy => hz y (List.mem_cons_of_mem _ hy)]
        rfl
    have ct : ∀ ds : List D, ((toPyL ds).countP fun z => PyData.eqv z (toPy d)) = ds.countP fun z => eqD z d := fun ds => by
      induction ds with
      | nil => rfl
      | cons z ds ih =>
        show ((toPy z :: toPyL ds).countP fun z => PyData.eqv z (toPy d)) = _
        rw [List.countP_cons, List.countP_cons, ih]
        rfl
    refine ⟨a, vs, y, toPyL l, toPy d, rfl, rfl, SqL.of (s3 _ _ (wo_le _ _ e1)), Ok.dpL (fun _ => rfl) l ol (RpL.same wo_le l r4), Ok.dp (fun _ => rfl) d od r3.here, pa l ol, PyData.plain_of_canLay0 _ (Ok.lay d od).1, Nat.le_trans (Ok.lay d od).2 hn, ?_⟩
    rw [ct]
    exact k _ H3 (s2.trans s3) g3 rfl
end
end SC
set_option maxRecDepth 100000
set_option maxHeartbeats 2000000
/-! # Part Ei: (x,) and (x,) * n as tuples whose object is known -/
namespace SC
open PySem PySem.Spec PyProof.Rows L2 TL
def tTupK (t : TA) : TE := fun σ H Q => t σ H fun xs H1 => xs.length ≤ sizeLine ∧ ∀ (p : Addr) (o : Obj), H1 p = none → o.dict = none → Q (.ref p) (upd H1 p (.frz o (.tup xs)))
theorem pe_tupK {X : Cx} {es : List Expr} {t : TA} {x1} {pos : Pos} (h : PA X es t) : PE X (.Tuple es x1 pos) (tTupK t) := by
  refine ⟨fun pins s σ H Q I hq => ?_⟩
  refine wpAny_Tuple_spliced (thn (h.run pos pins s σ H _ I hq) fun us s1 ⟨xs, H1, I1, r, z, q⟩ => ⟨by rw [← r.length]; exact z, ?_⟩)
  refine ⟨.ref s1.heap.objs.size, _, I1.laid (t' := s1.toks) (o := .frz { cls := .type "tuple", data := .seq us.toArray } (.tup xs)) (fun b u e => Heap.get?_push_of_some _ e) (Nat.le_refl _) ?_, rfl, q _ _ (I1.hok.fresh (Nat.le_refl _)) rfl⟩
  exact ⟨Heap.get?_push_size _ rfl, z, us, r, ⟨_, Heap.get?_push_size _ rfl, rfl, _, rfl⟩⟩
/-- (x,) * k, one item: k = 1 gives the tuple itself -/
def rRepK (K : PySem.W.Frag) : R2 := fun x y H Q => ∃ (l : Addr) (k : Int) (z : V) (o0 : Obj), x = .ref l ∧ y = .int k ∧ H l = some (.frz o0 (.tup [z])) ∧ o0.dict = none ∧ 1 ≤ k ∧ k ≤ 1000 ∧ ∀ (p : Addr) (o : Obj) (H' : Hp), Same H H' → o.dict = none → H' p = some (.frz o (.tup (List.replicate k.toNat z))) → (p = l ∨ H p = none) → Q (.ref p) H'
theorem op_repK {X : Cx} : OpR X (binaryOp .Mult) (rRepK X.K) := by
  intro pins s σ H x y v u Q I rx ry h
  obtain ⟨l, k, z, o0, ex, ey, hl, hd0, h1, h2, q⟩ := h
  have hT : SqT X.K H l [z] := .inl (.inr ⟨o0, hl⟩)
  by_cases hk : k = 1
  · subst hk
    exact op_rep1 pins s σ H x y v u Q I rx ry ⟨l, [z], ex, ey, hT, q l o0 H (fun _ _ h => h) hd0 hl (.inl rfl)⟩
  subst ex ey
  cases rx
  obtain ⟨t, rfl⟩ := ry
  obtain ⟨its, r, ⟨⟨cls, dd, data, sl⟩, ho, hc, n, hd⟩, hs⟩ := I.tuple hT
  simp only at hc hd
  subst hc hd
  obtain ⟨w, rfl, rw'⟩ := r.one
  have ll : (List.replicate k.toNat [w]).flatten.length = k.toNat := by
    rw [PyProof.Rows.lm_len_rep_flat]
    simp
  have le : k.toNat ≤ sizeLine := by rw [sizeLine_eq]; omega
  have e0 : (List.foldl (fun x1 x2 => x1 ++ x2) #[] (List.replicate k.toNat [w].toArray)) = (List.replicate k.toNat [w]).flatten.toArray := size_rep [w] k.toNat
  refine wpAny_binaryOp_repeat_ref (T := "tuple") (U := "int") (by decide) ⟨_, ho, rfl⟩ (fun s' => typeIs_int s' k t) noFill_tuple_mul PySem.F.fills_int_mul PySem.F.slot_int_rmul repeat_tuple PySem.F.slot_int_index.lookup
    (call_meets PySem.F.slot_int_rmul (typeIs_int s k t) PySem.F.entry_int_rmul (PySem.F.args_int_rmul_2 _ _) (int_rmul_tuple k t l [w].toArray n dd sl)
      ⟨ho, rfl, ⟨_, ho, rfl⟩, call_meets PySem.F.slot_tuple_mul ⟨_, ho, rfl⟩ PySem.F.entry_tuple_mul (PySem.F.args_tuple_mul_2 _ _) (tuple_mulW l [w].toArray n dd sl k t ?_ ?_ ?_ ?_ ?_ ?_) ⟨ho, ?_⟩⟩)
  · rw [decide_eq_false (by omega), decide_eq_false (by omega)]
    rfl
  · show (false || k == 1) = false
    rw [Bool.false_or]
    exact beq_eq_false_iff_ne.mpr hk
  · show (decide (k ≤ 0) || false) = false
    rw [Bool.or_false]
    exact decide_eq_false (by omega)
  · show ¬ ((1 : Nat) : Int) * k > _
    omega
  · show Builtin.Tuple.tupleTooMany (((1 : Nat) : Int) * k) = false
    unfold Builtin.Tuple.tupleTooMany
    rw [sizeLine_eq]
    exact decide_eq_false (by omega)
  · rw [e0, List.size_toArray, ll]
    exact le
  · rw [e0]
    have hf := I.hok.fresh (Nat.le_refl _)
    have ez : (List.replicate k.toNat [z]).flatten = List.replicate k.toNat z := by
      generalize k.toNat = m
      induction m with
      | zero => rfl
      | succ m ih => rw [List.replicate_succ, List.replicate_succ, List.flatten_cons, ih]; rfl
    refine ⟨.ref s.heap.objs.size, _, I.laid (t' := s.toks) (o := .frz { cls := .type "tuple", data := .seq (List.replicate k.toNat [w]).flatten.toArray } (.tup (List.replicate k.toNat [z]).flatten)) (fun b ob q => Heap.get?_push_of_some _ q) (Nat.le_refl _) ?_, rfl, q _ _ _ (same_new hf) rfl (by rw [upd_same, ez]) (.inr hf)⟩
    exact ⟨Heap.get?_push_size _ rfl, by rw [PyProof.Rows.lm_len_rep_flat]; show k.toNat * 1 ≤ _; omega, _, r.rep k.toNat, IsTup.new _ _⟩
section
variable {K : PySem.W.Frag} {M : List Addr} {σ : L2.St} {H : Hp}
theorem rd_tupK {t : TA} {l : List D} (h : RdA K M t σ H l) (hl : l.length ≤ sizeLine) : Rd K M (tTupK t) σ H (.ktup l) := fun H1 s1 g Q k => h H1 s1 g _ fun vs H2 s2 g2 r2 => ⟨by rw [r2.len]; exact hl, fun p o hp hd => by
  have s : Same H2 (upd H2 p (.frz o (.tup vs))) := same_new hp
  refine k _ _ (s2.trans s) (g2.same s) ⟨p, o, vs, rfl, ?_, hd, RpL.same (swo s) l r2⟩
  rw [wo_at (g2.out hp), upd_same]⟩
theorem rpl_rep {d : D} {z : V} (h : Rp K H d z) : ∀ n, RpL K H (List.replicate n d) (List.replicate n z)
  | 0 => rfl
  | n + 1 => ⟨z, List.replicate n z, rfl, h, rpl_rep h n⟩
theorem rd_repK {d : D} {n : Nat} {ta tb : TE} (h1 : 1 ≤ n) (h2 : n ≤ 1000) (ha : Rd K M ta σ H (.ktup [d])) (hb : Rd K M tb σ H (.int n)) : Rd K M (tOp (rRepK K) ta tb) σ H (.ktup (List.replicate n d)) :=
  rd_op ha hb fun x y H1 Q g hx hy k => by
    obtain ⟨a, o, vs, rfl, e1, hd, r1⟩ := hx
    obtain ⟨z, vs', rfl, rz, r2⟩ := r1
    cases r2
    refine ⟨a, (n : Int), z, o, rfl, hy, wo_le _ _ e1, hd, by omega, by omega, fun p o' H' s hd' ep hp => ?_⟩
    have pM : p ∉ M := by
      rcases hp with rfl | hp
      · exact (wo_some e1).1
      · exact g.out hp
    refine k _ H' s (g.same s) ⟨p, o', _, rfl, by rw [wo_at pM]; exact ep, hd', ?_⟩
    rw [Int.toNat_natCast]
    exact rpl_rep (Rp.same (swo s) _ rz) n
end
end SC
set_option maxRecDepth 100000
set_option maxHeartbeats 2000000
/-! # Part Ej: t + u as a tuple whose object is known; ways back where some are left out -/
namespace SC
open PySem PySem.Spec PyProof.Rows L2 TL
def rCatK (K : PySem.W.Frag) : R2 := fun x y H Q => ∃ (a b : Addr) (xs ys : List V) (o1 o2 : Obj), x = .ref a ∧ y = .ref b ∧ H a = some (.frz o1 (.tup xs)) ∧ o1.dict = none ∧ H b = some (.frz o2 (.tup ys)) ∧ o2.dict = none ∧ xs.length + ys.length ≤ sizeLine ∧
  ∀ (p : Addr) (o : Obj) (H' : Hp), Same H H' → o.dict = none → H' p = some (.frz o (.tup (xs ++ ys))) → (p = a ∨ p = b ∨ H p = none) → Q (.ref p) H'
theorem op_catK {X : Cx} : OpR X (binaryOp .Add) (rCatK X.K) := by
  intro pins s σ H x y v u Q I rx ry h
  obtain ⟨a, b, xs, ys, o1, o2, ex, ey, ha, d1, hb, d2, hz, q⟩ := h
  have ta : SqT X.K H a xs := .inl (.inr ⟨o1, ha⟩)
  have tb : SqT X.K H b ys := .inl (.inr ⟨o2, hb⟩)
  by_cases hx : xs = []
  · subst hx
    exact op_catA pins s σ H x y v u Q I rx ry ⟨a, b, [], ys, ex, ey, ta, tb, hz, fun _ => q b o2 H (Same.refl _) d2 hb (.inr (.inl rfl)), fun z => absurd rfl z, fun z => absurd rfl z⟩
  by_cases hy : ys = []
  · subst hy
    exact op_catA pins s σ H x y v u Q I rx ry ⟨a, b, xs, [], ex, ey, ta, tb, hz, fun z => absurd z hx, fun _ _ => q a o1 H (Same.refl _) d1 (by rw [List.append_nil]; exact ha) (.inl rfl), fun _ z => absurd rfl z⟩
  subst ex ey
  cases rx
  cases ry
  obtain ⟨its, r1, p1, _⟩ := I.tuple ta
  obtain ⟨its2, r2, p2, _⟩ := I.tuple tb
  refine HT.cat_tup p1 p2 (fun z => hx (r1.nil_iff.mp z)) (fun z => absurd (r2.nil_iff.mp z) hy) (fun z => ?_) (by rw [← r1.length, ← r2.length]; exact hz)
  have hf := I.hok.fresh (Nat.le_refl s.heap.objs.size)
  refine ⟨.ref s.heap.objs.size, _, I.laid (t' := s.toks) (o := .frz { cls := .type "tuple", data := .seq (its ++ its2).toArray } (.tup (xs ++ ys))) (fun b ob q => Heap.get?_push_of_some _ q) (Nat.le_refl _) ?_, rfl, q _ _ _ (same_new hf) rfl upd_same (.inr (.inr hf))⟩
  exact ⟨Heap.get?_push_size _ rfl, by rw [List.length_append]; exact hz, _, r1.append r2, IsTup.new _ _⟩
section
variable {K : PySem.W.Frag} {M : List Addr} {σ : L2.St} {H : Hp}
theorem rd_catK {l m : List D} {ta tb : TE} (hl : l.length + m.length ≤ sizeLine) (ha : Rd K M ta σ H (.ktup l)) (hb : Rd K M tb σ H (.ktup m)) : Rd K M (tOp (rCatK K) ta tb) σ H (.ktup (l ++ m)) :=
  rd_op ha hb fun x y H1 Q g hx hy k => by
    obtain ⟨a, o1, vs, rfl, e1, d1, r1⟩ := hx
    obtain ⟨b, o2, us, rfl, e2, d2, r2⟩ := hy
    refine ⟨a, b, vs, us, o1, o2, rfl, rfl, wo_le _ _ e1, d1, wo_le _ _ e2, d2, by rw [r1.len, r2.len]; exact hl, fun p o H' s hd ep hp => ?_⟩
    have pM : p ∉ M := by
      rcases hp with rfl | rfl | hp
      · exact (wo_some e1).1
      · exact (wo_some e2).1
      · exact g.out hp
    exact k _ H' s (g.same s) ⟨p, o, _, rfl, by rw [wo_at pM]; exact ep, hd, RpL.same (swo s) _ (r1.app r2)⟩
end
section
variable {K : PySem.W.Frag} {M : List Addr} {σ : L2.St} {H : Hp}
theorem rdt_orT {t u : TT} {a b : Bool} (h : RdT K M t σ H a) (h' : RdT K M u σ H b) : RdT K M (tOr t u) σ H (a || b) := rdt_or h (fun e => by rw [e, Bool.false_or]; exact h') (fun e => by rw [e]; rfl)
theorem rdt_andT {t u : TT} {a b : Bool} (h : RdT K M t σ H a) (h' : RdT K M u σ H b) : RdT K M (tAnd t u) σ H (a && b) := rdt_and h (fun e => by rw [e, Bool.true_and]; exact h') (fun e => by rw [e]; rfl)
end
/-! ways back, but for those that are told to be in vain -/
abbrev Fit := Rule → Int → List (Option Int) → Bool
def backF (fit : Fit) : List Rule → List Int → List Way → List Way
  | r :: rs, x :: xs, W => (backF fit rs xs W).flatMap fun w => ((befR r x w.1).filter fun q => fit r q.1 w.2).map fun q => (q.2, some q.1 :: w.2)
  | _, _, W => W
def waysF (fit : Fit) (rs : List Rule) (xs : List Int) (n : Nat) : Option Int → List Way
  | some o => if xs = [] then [] else if n = 0 then backF fit rs xs [(o, [])] else []
  | none => match xs.getLast? with
    | none => []
    | some y => backF fit (rs.take (xs.length - 1)) xs.dropLast [(y, nones (n + 1))]
theorem backF_true : ∀ (rs : List Rule) (xs : List Int) (W : List Way), backF (fun _ _ _ => true) rs xs W = backR rs xs W
  | r :: rs, x :: xs, W => by
    show (backF _ rs xs W).flatMap _ = (backR rs xs W).flatMap _
    rw [backF_true rs xs W]
    congr 1
    funext w
    rw [List.filter_eq_self.mpr fun _ _ => rfl]
  | [], _, _ => by unfold backF backR; rfl
  | _ :: _, [], _ => by unfold backF backR; rfl
theorem waysF_true (rs : List Rule) (xs : List Int) (n : Nat) (out : Option Int) : waysF (fun _ _ _ => true) rs xs n out = waysX rs xs n out := by
  cases out with
  | some o => unfold waysF waysX; simp only [backF_true]
  | none =>
    unfold waysF waysX
    cases xs.getLast? with
    | none => rfl
    | some y => exact backF_true _ _ _
theorem bef_two (r : Rule) (k p : Int) : (befR r k p).length ≤ 2 := by
  unfold befR
  refine Nat.le_trans (List.length_filter_le _ _) ?_
  by_cases h : k = p
  · rw [if_pos h]; show 1 ≤ 2; decide
  · rw [if_neg h]; show 2 ≤ 2; decide
theorem flatB_len {α β : Type} {f : α → List β} {n : Nat} (h : ∀ a, (f a).length ≤ n) : ∀ l : List α, (l.flatMap f).length ≤ n * l.length
  | [] => by simp
  | a :: l => by
    rw [List.flatMap_cons, List.length_append, List.length_cons, Nat.mul_succ]
    have := h a
    have := flatB_len h l
    omega
theorem backF_len (fit : Fit) : ∀ (rs : List Rule) (xs : List Int) (W : List Way), (backF fit rs xs W).length ≤ 2 ^ rs.length * W.length
  | r :: rs, x :: xs, W => by
    have h := backF_len fit rs xs W
    refine Nat.le_trans (flatB_len (n := 2) (fun w => ?_) _) ?_
    · rw [List.length_map]
      exact Nat.le_trans (List.length_filter_le _ _) (bef_two _ _ _)
    · rw [List.length_cons, Nat.pow_succ]
      calc 2 * (backF fit rs xs W).length ≤ 2 * (2 ^ rs.length * W.length) := Nat.mul_le_mul_left _ h
        _ = 2 ^ rs.length * 2 * W.length := by rw [Nat.mul_comm (2 ^ rs.length) 2, Nat.mul_assoc]
  | [], _, W => by unfold backF; simp
  | _ :: rs, [], W => by
    unfold backF
    have := Nat.one_le_two_pow (n := (rs.length + 1))
    rw [List.length_cons]
    exact Nat.le_mul_of_pos_left _ (by omega)
theorem backF_b (fit : Fit) {n : Nat} : ∀ (rs : List Rule) (xs : List Int) (W : List Way), (∀ u ∈ W, u.2.length ≤ n) → ∀ w ∈ backF fit rs xs W, w.2.length ≤ rs.length + n
  | r :: rs, x :: xs, W, h, w, hw => by
    obtain ⟨u, hu, hm⟩ := List.mem_flatMap.mp hw
    obtain ⟨q, _, rfl⟩ := List.mem_map.mp hm
    have := backF_b fit rs xs W h u hu
    show (some q.1 :: u.2).length ≤ _
    rw [List.length_cons, List.length_cons]
    omega
  | [], _, W, h, w, hw => by
    unfold backF at hw
    have := h w hw
    omega
  | _ :: _, [], W, h, w, hw => by
    unfold backF at hw
    have := h w hw
    omega
theorem backF_at {fit : Fit} {rs : List Rule} {xs : List Int} {W : List Way} {m : Nat} {r : Rule} {x : Int} (hr : rs[m]? = some r) (hx : xs[m]? = some x) : backF fit (rs.drop m) (xs.drop m) W = (backF fit (rs.drop (m + 1)) (xs.drop (m + 1)) W).flatMap fun w => ((befR r x w.1).filter fun q => fit r q.1 w.2).map fun q => (q.2, some q.1 :: w.2) := by
  obtain ⟨h1, e1⟩ := List.getElem?_eq_some_iff.mp hr
  obtain ⟨h2, e2⟩ := List.getElem?_eq_some_iff.mp hx
  rw [List.drop_eq_getElem_cons h1, List.drop_eq_getElem_cons h2, e1, e2]
  rfl
end SC
set_option maxRecDepth 100000
set_option maxHeartbeats 2000000
/-! # Part Ft: what may be called with values, wherever it came from -/
namespace SC
open PySem PySem.Spec PyProof.Rows L2 TL
/-- f may be called where J stands: it answers as R says and changes nothing -/
structure CalD (P : Program) (w : World) (K : PySem.W.Frag) (mg : Str → Option Value) (base : Heap) (k : Nat) (f : Addr) (J : Hp → Prop) (R : List D → D → Prop) : Prop where
  fn : ∀ (H : Hp) (h : Heap), HOk P w H h → J H → PySem.W.FnAt f h
  same : ∀ (H H' : Hp), J H → Same H H' → J H'
  run : ∀ (A : Around) (outer : List PySem.Env) (s : Shared) (H : Hp) (us : List Value) (vs : List V) (Q : VK), Room k A → Env0 P w K mg base A outer s H → J H → Vals vs us → spP K R vs H Q E0 → codeAny (model P w) A (.call (.ref f) ⟨us, []⟩) (CR CX0 outer P w H s Q E0) s
theorem CalD.mono {P : Program} {w : World} {K : PySem.W.Frag} {mg : Str → Option Value} {base : Heap} {j k : Nat} {f : Addr} {J : Hp → Prop} {R : List D → D → Prop} (C : CalD P w K mg base j f J R) (h : j ≤ k) : CalD P w K mg base k f J R := ⟨C.fn, C.same, fun A outer s H us vs Q hr => C.run A outer s H us vs Q (hr.mono h)⟩
def tCallV (i : Nat) (f : Addr) (J : Hp → Prop) (sp : Sp) (t : TA) : TE := fun σ H Q => σ[i]? = some (some (.ref f)) ∧ J H ∧ t σ H fun vs H1 => J H1 ∧ sp vs H1 Q E0
theorem pe_callV {X : Cx} {k n i : Nat} {x : Str} {f : Addr} {J : Hp → Prop} {R : List D → D → Prop} {e : Expr} {es : List Expr} {t : TA} {p pos : Pos} (C : CalD X.prog X.w X.K X.mg X.base k f J R) (hr : Room n X.A) (hn : k ≤ n) (hN : X.N[i]? = some x) (hv : Vis X.env.scope x) (ha : PA X (e :: es) t)
    (hd : (x == ("__debug__" : Str)) = false := by decide) (hcd : (x == ("__classdict__" : Str)) = false := by decide)
    (he : starEach (e :: es) X.env = (false, eval e X.env) :: starEach es X.env := by rfl) (hpl : (backTo pos (starEach es X.env)).any (·.1) = false := by rfl) :
    PE X (.Call (.Name x p) (e :: es) [] pos) (tCallV i f J (spP X.K R) t) := by
  refine ⟨fun pins s σ H Q I h => ?_⟩
  obtain ⟨hs, hJ, ht⟩ := h
  refine wpAny_Call_Name_kw (thn ((pe_var (pos := p) hN hv hd hcd).run pins s σ H (fun v H1 => v = .ref f ∧ H1 = H) I ⟨.ref f, hs, rfl, rfl⟩) fun u s1 ⟨v, H1, I1, r1, q1⟩ => ?_)
  obtain ⟨ev, eH⟩ := q1
  subst ev
  rw [eH] at I1
  obtain rfl : u = Value.ref f := r1
  refine PySem.W.callWith_F (first := []) (C.fn _ _ I1.hok hJ) (thn (ha.run pos pins s1 σ H _ I1 ht) fun us s2 ⟨vs, H2, I2, r, h1, q⟩ => ⟨C.fn _ _ I2.hok h1, ?_⟩) he hpl
  show wpAny _ _ (call (.ref f) us) _ _ _
  refine wpAny_call (codeAny_mono (C.run X.A X.stack s2 H2 us vs Q (hr.mono hn) I2.env0 h1 r q) fun r s' hq => ?_)
  cases r with
  | error e => exact False.elim hq
  | ok fl =>
    cases fl with
    | ret u => exact I2.after hq
    | next => exact False.elim hq
    | brk => exact False.elim hq
    | cont => exact False.elim hq
theorem pe_callVK {X : Cx} {K : PySem.W.Frag} {k n i : Nat} {x : Str} {f : Addr} {J : Hp → Prop} {R : List D → D → Prop} {e : Expr} {es : List Expr} {t : TA} {p pos : Pos} (hK : X.K = K) (C : CalD X.prog X.w K X.mg X.base k f J R) (hr : Room n X.A) (hn : k ≤ n) (hN : X.N[i]? = some x) (hv : Vis X.env.scope x) (ha : PA X (e :: es) t)
    (hd : (x == ("__debug__" : Str)) = false := by decide) (hcd : (x == ("__classdict__" : Str)) = false := by decide)
    (he : starEach (e :: es) X.env = (false, eval e X.env) :: starEach es X.env := by rfl) (hpl : (backTo pos (starEach es X.env)).any (·.1) = false := by rfl) :
    PE X (.Call (.Name x p) (e :: es) [] pos) (tCallV i f J (spP K R) t) := by
  subst hK
  exact pe_callV C hr hn hN hv ha hd hcd he hpl
theorem rd_V {K : PySem.W.Frag} {M : List Addr} {σ : L2.St} {H : Hp} {i : Nat} {f : Addr} {J : Hp → Prop} {R : List D → D → Prop} {ds : List D} {d : D} {u : TA} (hs : σ[i]? = some (some (.ref f))) (hJ : J H) (sm : ∀ H H', J H → Same H H' → J H') (hR : R ds d) (h : RdA K M u σ H ds) : Rd K M (tCallV i f J (spP K R) u) σ H d :=
  fun H1 s1 g Q k => ⟨hs, sm _ _ hJ s1, h H1 s1 g _ fun xs H2 s2 g2 r2 => ⟨sm _ _ hJ (s1.trans s2), M, ds, d, hR, g2, r2, fun v H3 s3 g3 r3 => k v H3 (s2.trans s3) g3 r3⟩⟩
theorem cr_e0 {P : Program} {w : World} {outer : List PySem.Env} {H : Hp} {s : Shared} {Q : VK} {r : Result} {s' : Shared} (c : CR (L2.CX P w) outer P w H s Q E0 r s') : CR CX0 outer P w H s Q E0 r s' := by
  cases r with
  | error e =>
    obtain ⟨a, B, H', cls, d, _, _, _, _, _, _, _, q⟩ := c
    exact False.elim q
  | ok fl =>
    cases fl with
    | ret u => exact c
    | next => exact c
    | brk => exact c
    | cont => exact c
/-- n parameters, no defaults: they are filled by what is given -/
def LamBindN (n : Nat) (params : Arguments) (body : Expr) (scope : Scope) : Prop := ∀ (q : Str) (cl : List (Str × Addr)) (doc pm cdv ctv : Value) (us : List Value), us.length = n →
  ∃ binds, bindArgs (PySem.W.kdv_fn "<lambda>" q params (.expr body) scope cl .none doc pm cdv ctv) ⟨us, []⟩ = pure binds ∧ ∀ y ∈ binds, scope.names.lookup y.1 = some .local
/-- a lambda that answers True whatever it is asked -/
theorem cald_true {X : Cx} {σ : L2.St} {G : Addr → Option Obj} {params : Arguments} {body : Expr} {scope : Scope} {f : Addr} {k n : Nat} (C : ClosG X G σ) (L : LamD X.N X.env.scope scope) (hb : LamBindN n params body scope)
    (hbody : ∀ (A : Around) (outer : List PySem.Env) (s : Shared) (H : Hp) (E : XK) (f c' : Addr), PE (LamX.lamCx X A outer s H E scope f c') body (tC (.bl true))) :
    CalD X.prog X.w X.K X.mg X.base (k + 1) f (fun H => GIn G H ∧ LamAt X params body scope [] f H) (fun ds d => ds.length = n ∧ d = .bl true) := by
  refine ⟨fun H h hok hR => ?_, fun H H' h s => ⟨h.1.same s, h.2.same s⟩, fun A outer s H us vs Q hr e0 hR r h => ?_⟩
  · obtain ⟨_, c', dV, doc, pm, ctv, h1, _⟩ := hR
    exact ⟨_, _, _, _, pinO_at hok h1⟩
  · obtain ⟨gi, c', dV, doc, pm, ctv, h1, h2, h3⟩ := hR
    obtain ⟨M, ds, d, ⟨hl, rfl⟩, gd, rp, q⟩ := h
    have dN : dV = .none := by
      rcases h3 with ⟨_, z⟩ | ⟨z, _⟩
      · exact z
      · exact absurd rfl z
    subst dN
    have of1 := pinO_at e0.hok h1
    have gf : ∀ b o, G b = some o → b ∉ frs outer := fun b o e hb => by
      have z := e0.frf b hb
      rw [gi b o e] at z
      cases z
    have gs : ∀ b o, G b = some o → s.heap.get? b = some o := fun b o e => pinO_at e0.hok (gi b o e)
    have lim : s.heap.NoLimit := e0.mod.nolimit.keeps fun b o e => (e0.bs b o e).1
    obtain ⟨⟨oc, vs0, t0, hoc, hdc, hvc⟩, _, _⟩ := e0.hok c' _ h2
    obtain ⟨binds, hbd, hloc⟩ := hb (X.env.qual ++ "<lambda>") (cloFrom X.env.cells scope.names []) doc pm (.ref c') ctv us (by rw [← r.length, rp.len]; exact hl)
    refine codeAny_mono ?_ fun r s' c => cr_e0 (cr_cut (Q := Q) (E := E0) gi e0.hok gf c)
    refine PySem.W.kla_callFunE hr.depth of1 rfl L.co L.gen rfl ⟨c', oc, vs0, t0, rfl, hoc, hdc, hvc⟩ ?_
    rw [hbd]
    refine wpAny_pure ?_
    refine wpAny_newFunctionEnv (fun y hy => (L.own y hy).1) hloc (fun h₁ hns hsb => ⟨lim.fresh _ hsb, ?_⟩) L.kind
    show codeAny _ _ (.expr body (LamX.lamEnv X scope s.heap.objs.size f c')) _ _
    have kp : ∀ b o, s.heap.get? b = some o → h₁.get? b = some o := fun b o e => hsb.extBut b o (Nat.ne_of_lt (Heap.lt_size e)) (Heap.get?_push_of_some _ e)
    have J : Inv (LamX.lamCx X A outer s (cutG H G) (fun c d H' => GOut G H' → E0 c d (addG H' G)) scope f c') [] σ (cutG H G) { s with heap := h₁, toks := s.toks + binds.length } := lam_start3 C L (env0_cut e0 gi) hr.hd gs gout_cut hns kp
    refine PySem.W.kla_codeExpr (wpAny_mono ((hbody _ _ s (cutG H G) _ f c').run [] _ _ _ (fun v H' => GOut G H' → Q v (addG H' G)) J (fun _ => ?_)) (fun v s' hq => ?_) fun e s' hq => hq)
    · rw [add_cut gi]
      exact q _ _ (Same.refl _) gd rfl
    · obtain ⟨w', H', J', rv, q⟩ := hq
      exact ⟨w', H', J'.os, J'.bare, J'.base, J'.hok, rv, q⟩
end SC
set_option maxRecDepth 100000
set_option maxHeartbeats 2000000
/-! # Part Ek: data when cells are tracked no more -/
namespace SC
open PySem PySem.Spec PyProof.Rows L2 TL
/-- all but what is told by the heap itself stays -/
def ExtP (H H' : Hp) : Prop := ∀ b o, H b = some o → (∀ φ, o ≠ .ext φ) → H' b = some o
section
variable {K : PySem.W.Frag} {M : List Addr} {σ : L2.St} {H H' H1 : Hp} {G : Addr → Option Obj}
theorem CellAt.extP {a : Addr} {r : Rule} (c : CellAt K H a r) (e : ExtP H H') : CellAt K H' a r := by
  obtain ⟨h1, dx, h2⟩ := c
  exact ⟨h1, dx, e _ _ h2 (fun _ z => by cases z)⟩
theorem ChainAt.extP {a : Addr} {rs : List Rule} (c : ChainAt K H a rs) (e : ExtP H H') : ChainAt K H' a rs := by
  obtain ⟨dx, t, as, h1, h2, h3, h4⟩ := c
  exact ⟨dx, t, as, e _ _ h1 (fun _ z => by cases z), e _ _ h2 (fun _ z => by cases z), ⟨h3.1, fun i b r e1 e2 => (h3.2 i b r e1 e2).extP e⟩, h4⟩
mutual
theorem Rp.extP (s : ExtP H H') : ∀ (d : D) {v : V}, Rp K H d v → Rp K H' d v
  | .non, _, h => h
  | .bl _, _, h => h
  | .int _, _, h => h
  | .str _, _, h => h
  | .lst l, _, h => by
    obtain ⟨a, vs, h1, h2, h3⟩ := h
    exact ⟨a, vs, h1, s _ _ h2 (fun _ z => by cases z), RpL.extP s l h3⟩
  | .tup l, _, h => by
    obtain ⟨a, vs, h1, h2, h3⟩ := h
    exact ⟨a, vs, h1, s _ _ h2 (fun _ z => by cases z), RpL.extP s l h3⟩
  | .chain rs, _, h => by
    obtain ⟨a, h1, h2⟩ := h
    exact ⟨a, h1, h2.extP s⟩
  | .cell r, _, h => by
    obtain ⟨a, h1, h2⟩ := h
    exact ⟨a, h1, h2.extP s⟩
  | .dic l, _, h => by
    obtain ⟨a, o, h1, h2⟩ := h
    exact ⟨a, o, h1, s _ _ h2 (fun _ z => by cases z)⟩
  | .ktup l, _, h => by
    obtain ⟨a, o, vs, h1, h2, h3, h4⟩ := h
    exact ⟨a, o, vs, h1, s _ _ h2 (fun _ z => by cases z), h3, RpL.extP s l h4⟩
theorem RpL.extP (s : ExtP H H') : ∀ (l : List D) {vs : List V}, RpL K H l vs → RpL K H' l vs
  | [], _, h => h
  | d :: ds, _, h => by
    obtain ⟨v, vs', h1, h2, h3⟩ := h
    exact ⟨v, vs', h1, Rp.extP s d h2, RpL.extP s ds h3⟩
end
theorem same_addG (go : GOut G H) : Same H (addG H G) := fun b o e => by
  rw [addG_none (go.none e)]
  exact e
/-- what stood before stands behind, when the cells are tracked no more -/
theorem same_cutG (go : GOut G H) (s : Same (addG H G) H') : Same H (cutG H' G) := fun b o e => by
  rw [cutG_none (go.none e)]
  exact s _ _ (same_addG go _ _ e)
theorem extP_cutG (gi : GIn G H) : ExtP (wo M H) (wo M (cutG H G)) := fun b o e n => by
  obtain ⟨e1, e2⟩ := wo_some e
  rw [wo_at e1]
  cases q : G b with
  | none => rw [cutG_none q]; exact e2
  | some u =>
    have z := gi b u q
    rw [e2] at z
    cases z
    exact absurd rfl (n _)
theorem rd_cval {d : D} {v : V} (r : Rp K (wo M H) d v) : Rd K M (tC v) σ H d := fun H1 s1 g Q k => k v H1 (Same.refl _) g (Rp.same (swo s1) d r)
end
end SC
set_option maxRecDepth 100000
set_option maxHeartbeats 2000000
/-! # Part Em: all orders of some numbers, one number after another (mathematics) -/
namespace SC
open PySem PySem.Spec PyProof.Rows L2 TL
def lastI (s : List Int) : Int := s.getLastD 0
theorem lastI_snoc (s : List Int) (x : Int) : lastI (s ++ [x]) = x := by
  unfold lastI
  simp
def fullsG (ns ds : List Int) : Nat → List (List Int)
  | 0 => [[]]
  | k + 1 => ((fullsG ns ds k).flatMap fun s => ds.map fun x => s ++ [x]).filter fun s => decide (s.count (lastI s) ≤ ns.count (lastI s))
theorem snoc_of {s : List Int} {k : Nat} (h : s.length = k + 1) : ∃ t x, s = t ++ [x] ∧ t.length = k := by
  have hne : s ≠ [] := fun z => by rw [z] at h; cases h
  refine ⟨s.dropLast, s.getLast hne, (List.dropLast_concat_getLast hne).symm, ?_⟩
  rw [List.length_dropLast]
  omega
theorem fulls_mem {ns ds : List Int} (hd : ∀ x, x ∈ ds ↔ x ∈ ns) : ∀ {k : Nat} {s : List Int}, s ∈ fullsG ns ds k ↔ s.length = k ∧ ∀ x, s.count x ≤ ns.count x
  | 0, s => by
    show s ∈ [[]] ↔ _
    constructor
    · intro h
      rw [List.mem_singleton.mp h]
      exact ⟨rfl, fun x => Nat.zero_le _⟩
    · rintro ⟨h, _⟩
      rw [List.length_eq_zero_iff.mp h]
      exact List.mem_singleton.mpr rfl
  | k + 1, s => by
    show s ∈ List.filter _ _ ↔ _
    rw [List.mem_filter, List.mem_flatMap]
    constructor
    · rintro ⟨⟨t, ht, hs⟩, hc⟩
      obtain ⟨x, hx, rfl⟩ := List.mem_map.mp hs
      obtain ⟨h1, h2⟩ := (fulls_mem hd).mp ht
      have hc := of_decide_eq_true hc
      rw [lastI_snoc] at hc
      refine ⟨by rw [List.length_append, h1]; rfl, fun y => ?_⟩
      by_cases e : y = x
      · rw [e]; exact hc
      · rw [List.count_append, List.count_singleton]
        have := h2 y
        rw [if_neg (by simpa using (fun z => e z.symm))]
        omega
    · rintro ⟨h1, h2⟩
      obtain ⟨t, x, rfl, ht⟩ := snoc_of h1
      have hx := h2 x
      refine ⟨⟨t, (fulls_mem hd).mpr ⟨ht, fun y => Nat.le_trans ?_ (h2 y)⟩, List.mem_map.mpr ⟨x, (hd x).mpr ?_, rfl⟩⟩, decide_eq_true (by rw [lastI_snoc]; exact hx)⟩
      · rw [List.count_append]; omega
      · rw [List.count_append, List.count_singleton] at hx
        simp only [beq_self_eq_true, if_true] at hx
        exact List.count_pos_iff.mp (by omega)
theorem flat_snoc_nodup {ds : List Int} (hd : ds.Nodup) : ∀ {l : List (List Int)}, l.Nodup → (l.flatMap fun s => ds.map fun x => s ++ [x]).Nodup
  | [], _ => List.nodup_nil
  | s :: l, h => by
    rw [List.nodup_cons] at h
    rw [List.flatMap_cons]
    refine List.nodup_append.mpr ⟨nodup_mapB hd fun a _ b _ e => by simpa using e, flat_snoc_nodup hd h.2, ?_⟩
    rintro u hu v hv rfl
    obtain ⟨x, _, rfl⟩ := List.mem_map.mp hu
    obtain ⟨t, ht, hv⟩ := List.mem_flatMap.mp hv
    obtain ⟨y, _, e⟩ := List.mem_map.mp hv
    have z : t = s := (List.append_inj' e rfl).1
    rw [z] at ht
    exact h.1 ht
theorem fulls_nodup {ns ds : List Int} (hd : ds.Nodup) : ∀ k, (fullsG ns ds k).Nodup
  | 0 => List.nodup_cons.mpr ⟨(fun z => by cases z), List.nodup_nil⟩
  | k + 1 => (flat_snoc_nodup hd (fulls_nodup hd k)).filter _
theorem flat_snoc_len {ds : List Int} (l : List (List Int)) : (l.flatMap fun s => ds.map fun x => s ++ [x]).length = l.length * ds.length := by
  induction l with
  | nil => simp
  | cons s l ih => rw [List.flatMap_cons, List.length_append, ih, List.length_map, List.length_cons, Nat.succ_mul]; omega
theorem fulls_len {ns ds : List Int} {m : Nat} (h : ds.length ≤ m) : ∀ k, (fullsG ns ds k).length ≤ m ^ k
  | 0 => Nat.le_refl _
  | k + 1 => by
    refine Nat.le_trans (List.length_filter_le _ _) ?_
    rw [flat_snoc_len, Nat.pow_succ]
    exact Nat.mul_le_mul (fulls_len h k) h
theorem count_le_perm {a b : List Int} (h : a.Perm b) : ∀ x, a.count x ≤ b.count x := fun x => Nat.le_of_eq (h.count_eq x)
theorem fl_map_some (l : List Int) : fl (l.map some) = l := by
  induction l with
  | nil => rfl
  | cons x l ih => show x :: fl (l.map some) = _; rw [ih]
/-- what came in and what was held, as one list -/
def toS (w : Way) : List Int := w.1 :: fl w.2
/-- the ways back are the orders of the numbers that lead on -/
theorem ways_count {rs : List Rule} {xs : List Int} {n : Nat} {out : Option Int} {ds : List Int} (hl : rs.length = xs.length + n) (h1 : 1 ≤ rs.length) (hd : ds.Nodup) (hm : ∀ x, x ∈ ds ↔ x ∈ xs ++ opL out) :
    (waysX rs xs n out).length = ((fullsG (xs ++ opL out) ds (xs ++ opL out).length).filter fun s => decide (stepR rs (s.tail.map some ++ nones (rs.length - s.tail.length)) (some (s.headD 0)) = (xs.map some ++ nones n, out))).length := by
  have key : ((waysX rs xs n out).map toS).Perm ((fullsG (xs ++ opL out) ds (xs ++ opL out).length).filter fun s => decide (stepR rs (s.tail.map some ++ nones (rs.length - s.tail.length)) (some (s.headD 0)) = (xs.map some ++ nones n, out))) := by
    refine (List.perm_ext_iff_of_nodup ?_ ((fulls_nodup hd _).filter _)).mpr fun s => ?_
    · refine nodup_mapB waysX_nodup ?_
      rintro ⟨c, o⟩ ha ⟨c', o'⟩ hb e
      obtain ⟨⟨ys, k, e1⟩, l1, _⟩ := (waysX_mem hl h1).mp ha
      obtain ⟨⟨ys', k', e2⟩, l2, _⟩ := (waysX_mem hl h1).mp hb
      injection e with e3 e4
      subst e1 e2
      have f3 : c = c' := e3
      have f4 : fl (ys.map some ++ nones k) = fl (ys'.map some ++ nones k') := e4
      clear e3 e4
      rw [fl_app, fl_app, fl_nones, fl_nones, fl_map_some, fl_map_some, List.append_nil, List.append_nil] at f4
      subst f3 f4
      rw [List.length_append, nones_len] at l1 l2
      have : k = k' := by omega
      rw [this]
    · rw [List.mem_map, List.mem_filter, fulls_mem hm]
      constructor
      · rintro ⟨⟨c, o⟩, hw, rfl⟩
        obtain ⟨⟨ys, k, e1⟩, l1, st⟩ := (waysX_mem hl h1).mp hw
        subst e1
        have ef : fl (ys.map some ++ nones k) = ys := by rw [fl_app, fl_nones, fl_map_some, List.append_nil]
        have pm := step_perm rs (ys.map some ++ nones k) (some c)
        rw [st] at pm
        have pm : (fl (xs.map some ++ nones n) ++ opL out).Perm (fl (ys.map some ++ nones k) ++ opL (some c)) := pm
        rw [ef, fl_app, fl_nones, fl_map_some, List.append_nil] at pm
        have pm2 : (c :: ys).Perm (xs ++ opL out) := (List.perm_append_comm (l₁ := [c]) (l₂ := ys)).trans pm.symm
        have es : toS (c, ys.map some ++ nones k) = c :: ys := by unfold toS; rw [ef]
        rw [es]
        refine ⟨⟨pm2.length_eq, count_le_perm pm2⟩, decide_eq_true ?_⟩
        show stepR rs (ys.map some ++ nones (rs.length - ys.length)) (some c) = _
        have ek : rs.length - ys.length = k := by
          rw [List.length_append, nones_len, List.length_map] at l1
          omega
        rw [ek]
        exact st
      · rintro ⟨⟨hlen, hc⟩, hst⟩
        have hst := of_decide_eq_true hst
        have hne : s ≠ [] := fun z => by
          rw [z] at hlen
          have e : xs ++ opL out = [] := List.length_eq_zero_iff.mp hlen.symm
          rw [z] at hst
          have pm := step_perm rs (([] : List Int).tail.map some ++ nones (rs.length - ([] : List Int).tail.length)) (some (([] : List Int).headD 0))
          rw [hst] at pm
          have l := pm.length_eq
          have el : fl (xs.map some ++ nones n) = xs := by rw [fl_app, fl_nones, fl_map_some, List.append_nil]
          have l : (fl (xs.map some ++ nones n) ++ opL out).length = (fl (nones (rs.length - 0)) ++ [0]).length := l
          rw [el, e] at l
          simp at l
        obtain ⟨c, ys, rfl⟩ : ∃ c ys, s = c :: ys := by
          cases s with
          | nil => exact absurd rfl hne
          | cons c ys => exact ⟨c, ys, rfl⟩
        have hst : stepR rs (ys.map some ++ nones (rs.length - ys.length)) (some c) = (xs.map some ++ nones n, out) := hst
        have hy : ys.length ≤ rs.length := by
          have hlen : ys.length + 1 = (xs ++ opL out).length := hlen
          rw [List.length_append] at hlen
          have : (opL out).length ≤ 1 := by cases out <;> simp [opL]
          omega
        refine ⟨(c, ys.map some ++ nones (rs.length - ys.length)), (waysX_mem hl h1).mpr ⟨⟨ys, _, rfl⟩, by rw [List.length_append, nones_len, List.length_map]; omega, hst⟩, ?_⟩
        unfold toS
        show c :: fl (ys.map some ++ nones (rs.length - ys.length)) = _
        rw [fl_app, fl_nones, fl_map_some, List.append_nil]
  rw [← List.length_map, key.length_eq]
theorem fulls_step {ns ds : List Int} (k : Nat) : fullsG ns ds (k + 1) = ((fullsG ns ds k).flatMap fun s => ds.map fun x => s ++ [x]).filter fun s => decide (s.count (lastI s) ≤ ns.count (lastI s)) := rfl
theorem flat_take {ds : List Int} {l : List (List Int)} {j : Nat} {r : List Int} (hj : l[j]? = some r) : ((l.take (j + 1)).flatMap fun r => ds.map fun x => r ++ [x]) = ((l.take j).flatMap fun r => ds.map fun x => r ++ [x]) ++ ds.map fun x => r ++ [x] := by
  rw [take_more hj, List.flatMap_append]
  simp
theorem flat_form {ds : List Int} {l : List (List Int)} {s : List Int} (h : s ∈ l.flatMap fun s => ds.map fun x => s ++ [x]) : ∃ t x, t ∈ l ∧ x ∈ ds ∧ s = t ++ [x] := by
  obtain ⟨t, ht, hs⟩ := List.mem_flatMap.mp h
  obtain ⟨x, hx, rfl⟩ := List.mem_map.mp hs
  exact ⟨t, x, ht, hx, rfl⟩
end SC
set_option maxRecDepth 100000
set_option maxHeartbeats 2000000
/-! # Part En: more readings of known tuples; [e for x in xs if t]; earlier in a law -/
namespace SC
open PySem PySem.Spec PyProof.Rows L2 TL
theorem pe_bmK {X : Cx} {K : PySem.W.Frag} {T : String} {o e : Expr} {es : List Expr} {to : TE} {t : TA} {name : Str} {apos cpos : Pos} {id : String} {r : V → List V → Hp → VK → Prop} (hK : X.K = K) (pa : PlainAttrs T) (slot : Slot T name id) (hty : typeOf (.builtin id) = pure (.type "method_descriptor")) (hm : MtR X id r) (ho : PE X o to) (ha : PA X (e :: es) t)
    (hbase : attributeBase o name X.env (eval o X.env) = eval o X.env := by rfl)
    (hfew : ((backTo cpos (starEach (e :: es) X.env)).all (fun x => !x.1) && (backToKw cpos (keywordEach [] X.env)).all (fun x => x.1.isSome)
      && decide ((e :: es).length + ([] : List Keyword).length + (if ([] : List Keyword).isEmpty then 0 else 1) < 30)) = true := by rfl)
    (hline : (apos.endLine == cpos.line) = true := by rfl) (hs : starEach (e :: es) X.env = (false, eval e X.env) :: starEach es X.env := by rfl) (hplain : (backTo cpos (starEach es X.env)).any (·.1) = false := by rfl) :
    PE X (.Call (.Attribute o name apos) (e :: es) [] cpos) (tBM K T r to t) := by
  subst hK
  exact pe_bm pa slot hty hm ho ha hbase hfew hline hs hplain
section
variable {K : PySem.W.Frag} {M : List Addr} {σ : L2.St} {H : Hp} {ta tb : TE} {d : D}
theorem rd_listK {t : TA} {l : List D} (h : RdA K M t σ H [.ktup l]) : Rd K M (tCB (fun xs H Q => ∃ p ys, xs = [.ref p] ∧ (SqL K H p ys ∨ SqT K H p ys) ∧ ∀ l, H l = none → Q (.ref l) (upd H l (.lst ys))) t) σ H (.lst l) :=
  rd_cb h fun xs H1 Q g hx k => by
    obtain ⟨v, rfl, a, o, vs, rfl, e1, _, r1⟩ := rp1 hx
    exact ⟨a, vs, rfl, .inr (ktup_sq e1), fun p hp => new_lst g hp r1 k⟩
/-- t[1:] of a tuple that has an item -/
theorem rd_tailK {l : List D} {tl th : TO} (hl : l ≠ []) (ha : Rd K M ta σ H (.ktup l)) (h1 : RdO K M tl σ H (some 1)) (h2 : RdO K M th σ H none) : Rd K M (tSl (rSlA K) ta tl th) σ H (.tup l.tail) :=
  fun H1 s1 g Q k => ha H1 s1 g _ fun x H2 s2 g2 rx => h1 H2 (s1.trans s2) g2 _ fun H3 s3 g3 => h2 H3 ((s1.trans s2).trans s3) g3 _ fun H4 s4 g4 => by
    obtain ⟨a, o, vs, rfl, e1, _, r1⟩ := Rp.same (swo (s3.trans s4)) _ rx
    have hv : vs ≠ [] := fun z => by
      rw [z] at r1
      have := r1.len
      exact hl (List.length_eq_zero_iff.mp this.symm)
    have hp : 0 < vs.length := List.length_pos_iff.mpr hv
    refine ⟨a, vs, rfl, ktup_sq e1, fun z => ?_, fun _ p hp => ?_⟩
    · have z := z.1
      have e : HT.sIx vs.length 0 (some ((1 : Nat) : Int)) = 0 := z
      rw [HT.sIx_nat] at e
      omega
    · have ec : cutD l (some ((1 : Nat) : Int)) none = l.tail := by rw [cut_from]; cases l <;> rfl
      have r2 := r1.cut (lo := some ((1 : Nat) : Int)) (hi := none)
      rw [ec] at r2
      exact new_tup g4 hp r2 fun v H5 s5 => k v H5 (((s2.trans s3).trans s4).trans s5)
theorem flat_ints (l : List Int) : (l.map V.int).all flatV = true := by
  rw [List.all_eq_true]
  intro y hy
  obtain ⟨o, _, rfl⟩ := List.mem_map.mp hy
  rfl
theorem count_ints (l : List Int) (x : Int) : (l.map V.int).countP (fun z => eqV z (.int x)) = l.count x := by
  rw [List.countP_map]
  unfold List.count
  apply List.countP_congr
  intro a _
  show eqV (.int a) (.int x) = true ↔ (a == x) = true
  rw [beq_iff_eq]
  constructor
  · intro h
    by_cases e : a = x
    · exact e
    · exfalso
      have z : eqV (.int a) (.int x) = false := by
        unfold eqV
        simp [e]
      rw [z] at h
      cases h
  · intro h
    rw [h]
    unfold eqV
    simp
theorem rd_countK {to : TE} {u : TA} {os : List Int} {x : Int} (h : Rd K M to σ H (.ktup (os.map D.int))) (hu : RdA K M u σ H [.int x]) : Rd K M (tBMT (rCountT K) to u) σ H (.int (os.count x : Nat)) :=
  fun H1 s1 g Q k => h H1 s1 g _ fun y H2 s2 g2 rx => by
    obtain ⟨a, o, vs, rfl, e1, hdn, r1⟩ := rx
    have e := rp_ints.mp r1
    subst e
    refine ⟨⟨a, _, rfl, o, wo_le _ _ e1, hdn⟩, hu H2 (s1.trans s2) g2 _ fun xs H3 s3 g3 r3 => ?_⟩
    obtain ⟨v, rfl, rv⟩ := rp1 r3
    cases rv
    refine ⟨a, _, .int x, rfl, rfl, .inl (.inr ⟨o, s3 _ _ (wo_le _ _ e1)⟩), rfl, flat_ints os, k _ H3 (s2.trans s3) g3 ?_⟩
    show V.int _ = V.int _
    rw [count_ints]
theorem rd_countI {to : TE} {u : TA} {os : List Int} {x : Int} (h : Rd K M to σ H (.lst (os.map D.int))) (hu : RdA K M u σ H [.int x]) : Rd K M (tBM K "list" (rCountF K) to u) σ H (.int (os.count x : Nat)) :=
  fun H1 s1 g Q k => h H1 s1 g _ fun y H2 s2 g2 rx => by
    obtain ⟨a, vs, rfl, e1, r1⟩ := rx
    have e := rp_ints.mp r1
    subst e
    refine ⟨.inl ⟨rfl, _, SqL.of (wo_le _ _ e1)⟩, hu H2 (s1.trans s2) g2 _ fun xs H3 s3 g3 r3 => ?_⟩
    obtain ⟨v, rfl, rv⟩ := rp1 r3
    cases rv
    refine ⟨a, _, .int x, rfl, rfl, SqL.of (s3 _ _ (wo_le _ _ e1)), rfl, flat_ints os, k _ H3 (s2.trans s3) g3 ?_⟩
    show V.int _ = V.int _
    rw [count_ints]
theorem rd_lcK {tl : TE} {tt : TT} {te : TE} {i : Nat} {l : List D} (f : D → Option D) (hl : Rd K M tl σ H (.ktup l)) (hlen : l.length < sizeLine) (hT : ∀ x ∈ l, ∀ H', Same H H' → Turns K M σ H' i tt te x (f x)) :
    Rd K M (tLc (iTup K tl) (gName i) tt te [i]) σ H (.lst (l.filterMap f)) := fun H1 s1 g Q k => hl H1 s1 g _ fun x H2 s2 g2 rx => by
  obtain ⟨a, o, vs, rfl, e1, _, r1⟩ := rx
  have ea := wo_le _ _ e1
  refine ⟨a, rfl, ⟨vs, ktup_sq e1⟩, fun D0 hD0 => ?_⟩
  have hD0M := g2.out hD0
  refine lc_tup (K := K) (a := a) (xs := vs) (fun n H3 => ∃ acc, Same H2 H3 ∧ Gd K (D0 :: M) H3 ∧ H3 D0 = some (.lst acc) ∧ RpL K (wo (D0 :: M) H3) ((l.take n).filterMap f) acc) ?_ ?_ ?_ ?_
  · exact ⟨[], same_new hD0, (g2.same (same_new hD0)).lst upd_same, upd_same, rfl⟩
  · rintro n H3 _ ⟨acc, s3, _⟩
    exact .inl (.inr ⟨o, s3 _ _ ea⟩)
  · rintro n v H3 hi ⟨acc, s3, g3, hD, ra⟩
    obtain ⟨x, hx, rv⟩ := r1.get' hi
    exact lc_turn (hT x (List.mem_of_getElem? hx) H2 (s1.trans s2)) hlen hD0 hx s3 g3 (Rp.same (wo_cons hD0 s3) _ rv) hD ra fun H4 acc' s4 g4 h4 r4 => ⟨acc', s4, g4, h4, r4⟩
  · rintro H3 ⟨acc, s3, g3, hD, ra⟩
    rw [r1.len, List.take_length] at ra
    exact k _ H3 (s2.trans s3) g3.tl (lc_done hD0M hD ra)
theorem rd_somesK {tl : TE} {i : Nat} {os : List (Option Int)} (hi : i < σ.length) (hl : os.length < sizeLine) (h : Rd K M tl σ H (.ktup (os.map dO))) :
    Rd K M (tLc (iTup K tl) (gName i) (tTest (tOp (fun x y H Q => y = .non ∧ Q (.bl (!decide (x = .non))) H) (tVar i) (tC .non))) (tVar i) [i]) σ H (.lst ((os.filterMap id).map D.int)) := by
  have z := rd_lcK (K := K) (M := M) (i := i) (fun x => if (!isN x) = true then some x else none) h (by rw [List.length_map]; exact hl) fun x _ H' _ => turns_some (K := K) (M := M) (σ := σ) (H := H') (i := i) (x := x) hi
  rw [somes_map] at z
  exact z
/-- [e for x in xs if t] -/
theorem rd_filtL {α : Type} {tl : TE} {i : Nat} {tt : TT} {te : TE} (l : List α) (f : α → D) (p : α → Bool) (k : α → D) (hl : l.length < sizeLine) (h : Rd K M tl σ H (.lst (l.map f)))
    (ht : ∀ x ∈ l, ∀ H1, Same H H1 → ∀ M' H' v, Same H1 H' → Same (wo M H1) (wo M' H') → Gd K M' H' → Rp K (wo M' H') (f x) v → RdT K M' tt ((L2.wipe σ [i]).set i (some v)) H' (p x) ∧ (p x = true → Rd K M' te ((L2.wipe σ [i]).set i (some v)) H' (k x))) :
    Rd K M (tLc (iList K tl) (gName i) tt te [i]) σ H (.lst ((l.filter p).map k)) := fun H1 s1 g Q kk => h H1 s1 g _ fun x H2 s2 g2 rx => by
  obtain ⟨a, vs, rfl, e1, r1⟩ := rx
  have ea := wo_le _ _ e1
  refine ⟨a, rfl, ⟨vs, SqL.of ea⟩, fun D0 hD0 => ?_⟩
  have hD0M := g2.out hD0
  refine lc_list (K := K) (a := a) (xs := vs) (fun n H3 => ∃ acc, Same H2 H3 ∧ Gd K (D0 :: M) H3 ∧ H3 D0 = some (.lst acc) ∧ RpL K (wo (D0 :: M) H3) (((l.take n).filter p).map k) acc) ?_ ?_ ?_ ?_
  · exact ⟨[], same_new hD0, (g2.same (same_new hD0)).lst upd_same, upd_same, rfl⟩
  · rintro n H3 _ ⟨acc, s3, _⟩
    exact SqL.of (s3 _ _ ea)
  · rintro n v H3 hi ⟨acc, s3, g3, hD, ra⟩
    obtain ⟨x, hx, rv⟩ := r1.get' hi
    rw [List.getElem?_map] at hx
    cases q : l[n]? with
    | none => rw [q] at hx; cases hx
    | some z =>
      rw [q] at hx
      cases hx
      have rv3 := Rp.same (wo_cons (M := M) hD0 s3) _ rv
      refine ⟨wipe_one, ?_⟩
      obtain ⟨b1, b2⟩ := ht z (List.mem_of_getElem? q) H2 (s1.trans s2) (D0 :: M) H3 v s3 (wo_cons hD0 s3) g3 rv3
      refine b1 H3 (Same.refl _) g3 _ fun H4 s4 g4 => ?_
      have ln : acc.length < sizeLine := by
        rw [ra.len, List.length_map]
        refine Nat.lt_of_le_of_lt (List.length_filter_le _ _) ?_
        rw [List.length_take]
        omega
      have ra4 : RpL K (wo (D0 :: M) H4) (((l.take n).filter p).map k) acc := RpL.same (swo s4) _ ra
      have hD4 := s4 _ _ hD
      cases hp : p z with
      | false =>
        refine iteF ⟨acc, s3.trans s4, g4, hD4, ?_⟩
        rw [take_more q, List.filter_append, List.filter_cons, hp]
        simpa using ra4
      | true =>
        refine iteT (b2 hp H4 s4 g4 _ fun y H5 s5 g5 r5 => ?_)
        have ra5 : RpL K (wo (D0 :: M) H5) (((l.take n).filter p).map k) acc := RpL.same (swo s5) _ ra4
        refine ⟨acc, s5 _ _ hD4, ln, acc ++ [y], ?_, g5.at trivial, upd_same, ?_⟩
        · intro b o hb
          rw [upd_ne (ne_of_none hb hD0)]
          exact s5 _ _ (s4 _ _ (s3 _ _ hb))
        · have e : ((l.take (n + 1)).filter p).map k = ((l.take n).filter p).map k ++ [k z] := by
            rw [take_more q, List.filter_append, List.map_append]
            simp [hp]
          rw [wo_upd List.mem_cons_self, e]
          exact ra5.snoc r5
  · rintro H3 ⟨acc, s3, g3, hD, ra⟩
    rw [r1.len, List.length_map, List.take_length] at ra
    exact kk _ H3 (s2.trans s3) g3.tl (lc_done hD0M hD ra)
end
end SC
set_option maxRecDepth 100000
set_option maxHeartbeats 2000000
/-! # Part Ep: what chains give, as tuples whose object is known -/
namespace SC
open PySem PySem.Spec PyProof.Rows L2 TL
theorem SqT.up {K : PySem.W.Frag} {H H' : Hp} {a : Addr} {xs : List V} (h : SqT K H a xs) (s : Same H H') : SqT K H' a xs := by
  rcases h with (h | ⟨o, h⟩) | h
  · exact .inl (.inl (s _ _ h))
  · exact .inl (.inr ⟨o, s _ _ h⟩)
  · exact .inr h
def spEmptyK (K : PySem.W.Frag) : Sp := fun vs H Q _ => ∃ (c : Addr) (rs : List Rule), vs = [.ref c] ∧ ChainAt K H c rs ∧ ∀ (p : Addr) (o : Obj) (H' : Hp), H p = none → o.dict = none → Same H H' → H' p = some (.frz o (.tup ((nones rs.length).map ov))) → Q (.ref p) H'
def spStepK (K : PySem.W.Frag) : Sp := fun vs H Q _ => ∃ (c h : Addr) (n : Int) (rs : List Rule) (hs : List (Option Int)), vs = [.ref c, .ref h, .int n] ∧ ChainAt K H c rs ∧ SqT K H h (hs.map ov) ∧ hs.length = rs.length ∧ Fill hs ∧
  ∀ (p k : Addr) (o : Obj) (H' : Hp), H p = none → H k = none → p ≠ k → o.dict = none → Same H H' → H' p = some (.tup [.ref k, ov (stepR rs hs (some n)).2]) → H' k = some (.frz o (.tup ((stepR rs hs (some n)).1.map ov))) → Q (.ref p) H'
def NewRunK (H : Hp) (rs : List Rule) (ns : List Int) (Q : VK) : Prop := ∀ (p o h : Addr) (oh : Obj) (H' : Hp), H p = none → H o = none → H h = none → oh.dict = none → Same H H' → H' p = some (.tup [.ref o, .ref h]) →
  H' o = some (.lst ((runR rs (nones rs.length) ns).1.map ov)) → H' h = some (.frz oh (.tup ((runR rs (nones rs.length) ns).2.map ov))) → Q (.ref p) H'
def spChCallK (K : PySem.W.Frag) : Sp := fun vs H Q _ => ∃ (c a : Addr) (rs : List Rule) (ns : List Int), vs = [.ref c, .ref a] ∧ ChainAt K H c rs ∧ H a = some (.lst (ns.map V.int)) ∧ ns.length ≤ 1000 ∧ (∀ z ∈ ns, numOk z) ∧ NewRunK H rs ns Q
section
variable {K : PySem.W.Frag} {M : List Addr} {σ : L2.St} {H : Hp}
def runDK (rs : List Rule) (ns : List Int) : D := .tup [.lst ((runR rs (nones rs.length) ns).1.map dO), .ktup ((runR rs (nones rs.length) ns).2.map dO)]
theorem new_runK {H1 : Hp} {Q : VK} {rs : List Rule} {ns : List Int} (g : Gd K M H1) (k : ∀ v H2, Same H1 H2 → Gd K M H2 → Rp K (wo M H2) (runDK rs ns) v → Q v H2) : NewRunK H1 rs ns Q :=
  fun p o h oh H2 hp ho hh hd s e1 e2 e3 => by
    refine k _ H2 s (g.same s) ⟨p, _, rfl, by rw [wo_at (g.out hp)]; exact e1, _, _, rfl, ⟨o, _, rfl, by rw [wo_at (g.out ho)]; exact e2, rp_opts.mpr rfl⟩, _, _, rfl, ⟨h, oh, _, rfl, by rw [wo_at (g.out hh)]; exact e3, hd, rp_opts.mpr rfl⟩, rfl⟩
theorem rd_chcallK {tf : TE} {t : TA} {rs : List Rule} {ns : List Int} (hl : ns.length ≤ 1000) (hz : ∀ z ∈ ns, numOk z) (hf : Rd K M tf σ H (.chain rs)) (ha : RdA K M t σ H [.lst (ns.map D.int)]) :
    Rd K M (tCallC (ChC K) (spChCallK K) E0 tf t) σ H (runDK rs ns) := fun H1 s1 g Q k => hf H1 s1 g _ fun x H2 s2 g2 rx => by
  obtain ⟨c, rfl, cc⟩ := rx
  refine ⟨c, rfl, ha H2 (s1.trans s2) g2 _ fun xs H3 s3 g3 r3 => ?_⟩
  obtain ⟨v, rfl, a, vs, rfl, e1, r1⟩ := rp1 r3
  rw [rp_ints.mp r1] at e1
  have c3 : ChainAt K H3 c rs := (cc.same wo_le).same s3
  obtain ⟨dx, tt, as, h1, _⟩ := id c3
  exact ⟨⟨dx, _, h1⟩, c, a, rs, ns, rfl, c3, wo_le _ _ e1, hl, hz, new_runK g3 fun v H4 s4 => k v H4 ((s2.trans s3).trans s4)⟩
theorem rd_chemptyK {tf : TE} {rs : List Rule} (hf : Rd K M tf σ H (.chain rs)) : Rd K M (tProp (ChC K) (spEmptyK K) [] E0 tf) σ H (.ktup ((nones rs.length).map dO)) := fun H1 s1 g Q k => hf H1 s1 g _ fun x H2 s2 g2 rx => by
  obtain ⟨c, rfl, cc⟩ := rx
  have c2 := cc.same wo_le
  obtain ⟨dx, t, as, h1, h2, h3, h4⟩ := id c2
  exact ⟨c, dx, _, rfl, h1, c, rs, rfl, c2, fun p o H3 hp hd s3 e3 => k _ H3 (s2.trans s3) (g2.same s3) ⟨p, o, _, rfl, by rw [wo_at (g2.out hp)]; exact e3, hd, rp_opts.mpr rfl⟩⟩
theorem rd_stepK {tc : TE} {u : TA} {rs : List Rule} {hs : List (Option Int)} {n : Int} (hl : hs.length = rs.length) (hf : Fill hs) (hc : Rd K M tc σ H (.chain rs)) (ha : RdA K M u σ H [.ktup (hs.map dO), .int n]) :
    Rd K M (tMeth (ChC K) "step" (spStepK K) [] E0 tc u) σ H (.tup [.ktup ((stepR rs hs (some n)).1.map dO), dO (stepR rs hs (some n)).2]) := fun H1 s1 g Q k => hc H1 s1 g _ fun x H2 s2 g2 rx => by
  obtain ⟨c, rfl, cc⟩ := rx
  have c2 := cc.same wo_le
  obtain ⟨dx, t, as, h1, _⟩ := id c2
  refine ⟨c, dx, _, rfl, h1, rfl, ha H2 (s1.trans s2) g2 _ fun vs H3 s3 g3 r3 => ?_⟩
  obtain ⟨v1, vs1, rfl, ⟨h, o, ws, rfl, e1, _, r1⟩, v2, vs2, rfl, r2, r4⟩ := r3
  cases r2
  cases r4
  rw [rp_opts.mp r1] at e1
  refine ⟨c, h, n, rs, hs, rfl, c2.same s3, .inl (.inr ⟨o, wo_le _ _ e1⟩), hl, hf, fun p q ok H4 hp hq npq hd s4 e2 e3 => ?_⟩
  have g4 := g3.same s4
  exact k _ H4 ((s2.trans s3).trans s4) g4 ⟨p, _, rfl, by rw [wo_at (g3.out hp)]; exact e2, _, _, rfl, ⟨q, ok, _, rfl, by rw [wo_at (g3.out hq)]; exact e3, hd, rp_opts.mpr rfl⟩, _, _, rfl, rp_dO.mpr rfl, rfl⟩
end
end SC
set_option maxRecDepth 100000
set_option maxHeartbeats 2000000
/-! # Part Er: opposite chains and rows that come again (mathematics); [e for a, b in d.items()], [e for x in a known tuple] -/
namespace SC
open PySem PySem.Spec PyProof.Rows L2 TL
abbrev ngR (row : List Int) : List Int := row.map fun z => -z
theorem flow_neg {rs : List Rule} {row : List Int} (hne : row ≠ []) : ∀ t, heldF (rs.map Rule.neg) (ngR row) t = (heldF rs row t).map ng ∧ outF (rs.map Rule.neg) (ngR row) t = ng (outF rs row t) := by
  have hp : 0 < row.length := List.length_pos_iff.mpr hne
  have step : ∀ t, heldF (rs.map Rule.neg) (ngR row) t = (heldF rs row t).map ng → heldF (rs.map Rule.neg) (ngR row) (t + 1) = (heldF rs row (t + 1)).map ng ∧ outF (rs.map Rule.neg) (ngR row) t = ng (outF rs row t) := fun t ih => by
    obtain ⟨n, hn⟩ : ∃ n, row[t % row.length]? = some n := ⟨_, List.getElem?_eq_getElem (Nat.mod_lt _ hp)⟩
    have hn' : (ngR row)[t % (ngR row).length]? = some (-n) := by
      rw [List.length_map, List.getElem?_map, hn]
      rfl
    have a := held_step (rs := rs) hn
    have b := held_step (rs := rs.map Rule.neg) hn'
    rw [ih] at b
    have c := step_neg rs (heldF rs row t) (some n)
    rw [a] at c
    have c : stepR (rs.map Rule.neg) ((heldF rs row t).map ng) (some (-n)) = ((heldF rs row (t + 1)).map ng, ng (outF rs row t)) := c
    rw [c] at b
    exact ⟨(congrArg Prod.fst b).symm, (congrArg Prod.snd b).symm⟩
  have held : ∀ t, heldF (rs.map Rule.neg) (ngR row) t = (heldF rs row t).map ng := fun t => by
    induction t with
    | zero =>
      rw [held_zero, held_zero, List.length_map]
      unfold nones
      rw [List.map_replicate]
      rfl
    | succ t ih => exact (step t ih).1
  exact fun t => ⟨held t, (step t (held t)).2⟩
theorem ng_ng (o : Option Int) : ng (ng o) = o := by
  cases o with
  | none => rfl
  | some z => show some (- -z) = some z; rw [Int.neg_neg]
theorem key_neg {rs : List Rule} {row : List Int} (hne : row ≠ []) (i j : Nat) : keyF (rs.map Rule.neg) (ngR row) i = keyF (rs.map Rule.neg) (ngR row) j ↔ keyF rs row i = keyF rs row j := by
  unfold keyF
  rw [(flow_neg hne i).1, (flow_neg hne j).1, List.length_map, Prod.mk.injEq, Prod.mk.injEq]
  constructor
  · rintro ⟨a, b⟩
    refine ⟨?_, b⟩
    have z := congrArg (List.map ng) a
    rw [neg_ng, neg_ng] at z
    exact z
  · rintro ⟨a, b⟩
    exact ⟨by rw [a], b⟩
theorem Cyc.neg {rs : List Rule} {row : List Int} {s e : Nat} (hne : row ≠ []) (c : Cyc rs row s e) : Cyc (rs.map Rule.neg) (ngR row) s e :=
  ⟨c.lt, (key_neg hne _ _).mpr c.again, fun i j h1 h2 h => c.fresh i j h1 h2 ((key_neg hne _ _).mp h)⟩
theorem outs_neg {rs : List Rule} {row : List Int} (hne : row ≠ []) (T : Nat) : outsF (rs.map Rule.neg) (ngR row) T = ngR (outsF rs row T) := by
  unfold outsF
  induction (List.range T) with
  | nil => rfl
  | cons t l ih =>
    rw [List.filterMap_cons, List.filterMap_cons, (flow_neg hne t).2, ih]
    cases outF rs row t <;> rfl
theorem count_neg (os : List Int) (v : Int) : (ngR os).count (-v) = os.count v := by
  induction os with
  | nil => rfl
  | cons x os ih =>
    show ((-x) :: ngR os).count (-v) = _
    rw [List.count_cons, List.count_cons, ih]
    congr 1
    by_cases h : x = v
    · subst h; simp
    · have h' : ¬ -x = -v := by omega
      simp [h, h']
theorem keys_neg (os : List Int) : keysOf (ngR os) = ((keysOf os).map fun z => -z).reverse := by
  refine (keysOf_one ?_ ?_ ?_).symm
  · refine (List.reverse_perm _).nodup_iff.mpr (nodup_mapB (keysOf_nodup os) fun a _ b _ e => by omega)
  · intro v
    rw [List.mem_reverse, List.mem_map, List.mem_map]
    constructor
    · rintro ⟨a, ha, rfl⟩
      exact ⟨a, mem_keysOf.mp ha, rfl⟩
    · rintro ⟨a, ha, rfl⟩
      exact ⟨a, mem_keysOf.mpr ha, rfl⟩
  · rw [List.pairwise_reverse, List.pairwise_map]
    exact (keysOf_rise os).imp fun h => by omega
theorem tally_neg (os : List Int) : ((tally os).map fun p => ((-p.1, p.2) : Int × Int)).reverse = tally (ngR os) := by
  unfold tally
  rw [keys_neg, List.map_map, List.map_reverse, List.map_map]
  congr 1
  refine List.map_congr_left fun v _ => ?_
  show ((-v, ((os.count v : Nat) : Int)) : Int × Int) = (-v, (((ngR os).count (-v) : Nat) : Int))
  rw [count_neg]
section
variable {K : PySem.W.Frag} {M : List Addr} {σ : L2.St} {H : Hp}
theorem rd_mapK {α : Type} {tl : TE} {i : Nat} {te : TE} (l : List α) (f : α → D) (k : α → D) (hl : l.length < sizeLine) (h : Rd K M tl σ H (.ktup (l.map f)))
    (ht : ∀ x ∈ l, ∀ H1, Same H H1 → ∀ M' H' v, Same H1 H' → Same (wo M H1) (wo M' H') → Gd K M' H' → Rp K (wo M' H') (f x) v → Rd K M' te ((L2.wipe σ [i]).set i (some v)) H' (k x)) :
    Rd K M (tLc (iTup K tl) (gName i) tYes te [i]) σ H (.lst (l.map k)) := fun H1 s1 g Q kk => h H1 s1 g _ fun x H2 s2 g2 rx => by
  obtain ⟨a, o, vs, rfl, e1, _, r1⟩ := rx
  have ea := wo_le _ _ e1
  refine ⟨a, rfl, ⟨vs, ktup_sq e1⟩, fun D0 hD0 => ?_⟩
  have hD0M := g2.out hD0
  refine lc_tup (K := K) (a := a) (xs := vs) (fun n H3 => ∃ acc, Same H2 H3 ∧ Gd K (D0 :: M) H3 ∧ H3 D0 = some (.lst acc) ∧ RpL K (wo (D0 :: M) H3) ((l.take n).map k) acc) ?_ ?_ ?_ ?_
  · exact ⟨[], same_new hD0, (g2.same (same_new hD0)).lst upd_same, upd_same, rfl⟩
  · rintro n H3 _ ⟨acc, s3, _⟩
    exact .inl (.inr ⟨o, s3 _ _ ea⟩)
  · rintro n v H3 hi ⟨acc, s3, g3, hD, ra⟩
    obtain ⟨x, hx, rv⟩ := r1.get' hi
    rw [List.getElem?_map] at hx
    cases q : l[n]? with
    | none => rw [q] at hx; cases hx
    | some z =>
      rw [q] at hx
      cases hx
      have rv3 := Rp.same (wo_cons (M := M) hD0 s3) _ rv
      refine ⟨wipe_one, ?_⟩
      simp only [tYes, if_true]
      refine ht z (List.mem_of_getElem? q) H2 (s1.trans s2) (D0 :: M) H3 v s3 (wo_cons hD0 s3) g3 rv3 H3 (Same.refl _) g3 _ fun y H5 s5 g5 r5 => ?_
      have r6 : RpL K (wo (D0 :: M) H5) ((l.take n).map k) acc := RpL.same (swo s5) _ ra
      refine ⟨acc, s5 _ _ hD, ?_, acc ++ [y], ?_, g5.at trivial, upd_same, ?_⟩
      · rw [r6.len, List.length_map, List.length_take]
        omega
      · intro b o hb
        rw [upd_ne (ne_of_none hb hD0)]
        exact s5 _ _ (s3 _ _ hb)
      · rw [wo_upd List.mem_cons_self, take_more q, List.map_append]
        exact r6.snoc r5
  · rintro H3 ⟨acc, s3, g3, hD, ra⟩
    rw [r1.len, List.length_map, List.take_length] at ra
    exact kk _ H3 (s2.trans s3) g3.tl (lc_done hD0M hD ra)
/-- [e for a, b in d.items()] -/
theorem rd_lcI {td : TE} {i j : Nat} {te : TE} (hij : i ≠ j) (l : List (Int × Int)) (k : Int × Int → D) (hl : l.length < sizeLine) (h : Rd K M td σ H (.dic l))
    (ht : ∀ x ∈ l, ∀ M' H' v u, Same (wo M H) (wo M' H') → Same H H' → Gd K M' H' → Rp K (wo M' H') (.int x.1) v → Rp K (wo M' H') (.int x.2) u → Rd K M' te (own2 σ i j v u) H' (k x)) :
    Rd K M (tLc (iItems td) (gTup K 2 (gCons (gName i) (gCons (gName j) gNil))) tYes te [i, j]) σ H (.lst (l.map k)) := fun H1 s1 g Q kk => h H1 s1 g _ fun x H2 s2 g2 rx => by
  obtain ⟨a, o, rfl, e1⟩ := rx
  have ea := wo_le _ _ e1
  refine ⟨a, o, _, rfl, ea, fun D0 hD0 => ?_⟩
  have hD0M := g2.out hD0
  have lk : (kvI l).length = l.length := by unfold kvI; rw [List.length_map]
  refine ⟨fun n m H3 => m = l.length - n ∧ n ≤ l.length ∧ ∃ acc, Same H2 H3 ∧ Gd K (D0 :: M) H3 ∧ H3 D0 = some (.lst acc) ∧ RpL K (wo (D0 :: M) H3) ((l.take n).map k) acc, ⟨l.length, by simp, Nat.zero_le _, [], same_new hD0, (g2.same (same_new hD0)).lst upd_same, upd_same, rfl⟩, ?_⟩
  rintro n m H3 ⟨rfl, hn, acc, s3, g3, hD, ra⟩
  by_cases hlt : n < l.length
  · refine .inr ⟨⟨s3 _ _ ea, by rw [lk]; exact hlt⟩, fun H' => ∃ acc, Same H2 H' ∧ Gd K (D0 :: M) H' ∧ H' D0 = some (.lst acc) ∧ RpL K (wo (D0 :: M) H') ((l.take (n + 1)).map k) acc, fun H' p' => ⟨l.length - (n + 1), by omega, rfl, hlt, p'⟩, ?_⟩
    rintro x H4 ⟨T, kx, vx, hkv, rfl, hT, rfl⟩
    have q : l[n]? = some l[n] := List.getElem?_eq_getElem hlt
    generalize l[n] = z at q
    have ekv : (kvI l)[n]? = some (Sum.inl z.1, V.int z.2) := by unfold kvI; rw [List.getElem?_map, q]; rfl
    rw [ekv] at hkv
    cases hkv
    have s4 : Same H3 (upd H3 T (.tup [.int z.1, .int z.2])) := same_new hT
    show gTup K 2 _ (.ref T) _ (upd H3 T (.tup [.int z.1, .int z.2])) _
    have sq : SqT K (upd H3 T (.tup [.int z.1, .int z.2])) T [.int z.1, .int z.2] := SqT.of upd_same
    generalize upd H3 T (.tup [.int z.1, .int z.2]) = H4 at s4 sq ⊢
    refine ⟨T, _, rfl, sq, rfl, _, _, rfl, _, _, rfl, rfl, ⟨wipe_two hij, ?_⟩⟩
    simp only [tYes, if_true]
    have s5 := s3.trans s4
    have g4 := g3.same s4
    refine ht z (List.mem_of_getElem? q) (D0 :: M) H4 (.int z.1) (.int z.2) ((swo (s1.trans s2)).trans (wo_cons hD0 s5)) ((s1.trans s2).trans s5) g4 rfl rfl H4 (Same.refl _) g4 _ fun y H6 s6 g6 r6 => ?_
    have ra6 : RpL K (wo (D0 :: M) H6) ((l.take n).map k) acc := RpL.same (swo (s4.trans s6)) _ ra
    refine ⟨acc, s6 _ _ (s4 _ _ hD), ?_, acc ++ [y], ?_, g6.at trivial, upd_same, ?_⟩
    · rw [ra6.len, List.length_map, List.length_take]
      omega
    · intro b o hb
      rw [upd_ne (ne_of_none hb hD0)]
      exact s6 _ _ (s5 _ _ hb)
    · rw [wo_upd List.mem_cons_self, take_more q, List.map_append]
      exact ra6.snoc r6
  · have e : n = l.length := by omega
    subst e
    rw [List.take_length] at ra
    exact .inl ⟨⟨s3 _ _ ea, by rw [lk]; exact Nat.le_refl _⟩, kk _ H3 (s2.trans s3) g3.tl (lc_done hD0M hD ra)⟩
end
end SC
set_option maxRecDepth 100000
set_option maxHeartbeats 2000000
namespace SC
open PySem PySem.Spec PyProof.Rows L2 TL
section
variable {P : Program} {w : World} {K : PySem.W.Frag} {mg : Str → Option Value} {base : Heap}
theorem sc_within : FnScope ["value", "least", "most"] ["value", "least", "most"] (defScope s_is_within) := ⟨rfl, rfl, rfl, by decide +kernel, rfl, by decide +kernel, by decide +kernel⟩
theorem ok_within {f : Addr} {fd : FuncData} (F : Fun K "is_within" "is_within" s_is_within f fd) (B : Bln mg) : FnOk P w K mg base CX0 1 f fd ["value", "least", "most"] (spWithin K) := by
  refine F.ok sc_within (fun vs H Q E h => ?_) (fun cdv A outer s H vs Q E hr h => ?_)
  · obtain ⟨v, lo, hi, rfl, _⟩ := h
    rfl
  · obtain ⟨v, lo, hi, rfl, h⟩ := h
    refine ⟨_, pss_cons (ps_if (PW.pt (pw_or (pt_not (pt_val (pe_callB call_isi (by rfl) B.isinstance boot_isinstance' (pa_cons (pv 0) (pa_cons (pe_bltn (v := .ty "int") (by rfl) B.int boot_int' rfl) pa_nil)))))
        (pw_or1 (pt_val (pe_callB call_isi (by rfl) B.isinstance boot_isinstance' (pa_cons (pv 0) (pa_cons (pe_bltn (v := .ty "bool") (by rfl) B.bool boot_bool' rfl) pa_nil)))))))
        (pss_one (ps_ret pe_bl)) pss_nil)
      (pss_one (ps_ret (pe_chain op_le op_le (pv 1) (pv 0) (pv 2)))), ?_⟩
    rcases h with ⟨i, rfl, q⟩ | ⟨T, hT, ty, q⟩
    · refine ⟨_, rfl, _, _, _, _, _, rfl, .ty "int", .base (.int i), kit_ty (by decide +kernel), true, rfl, ?_⟩
      refine iteF ?_
      refine ⟨_, rfl, _, _, _, _, _, rfl, .ty "bool", .base (.int i), kit_ty (r := false) (by decide +kernel), false, rfl, ?_⟩
      refine iteF ?_
      refine ⟨_, rfl, _, rfl, _, _, rfl, rfl, _, rfl, ?_⟩
      by_cases h1 : lo ≤ i
      · rw [decide_eq_true h1] at q ⊢
        refine iteT ⟨_, rfl, _, _, rfl, rfl, q⟩
      · rw [decide_eq_false h1] at q ⊢
        exact iteF q
    · by_cases hb : T = "bool"
      · subst hb
        refine ⟨_, rfl, _, _, _, _, _, rfl, .ty "int", ty, kit_ty (r := true) (by decide +kernel), true, rfl, iteF ?_⟩
        exact ⟨_, rfl, _, _, _, _, _, rfl, .ty "bool", ty, kit_ty (r := true) (by decide +kernel), true, rfl, iteT q⟩
      · exact ⟨_, rfl, _, _, _, _, _, rfl, .ty "int", ty, odd_int hT hb, false, rfl, iteT (iteT q)⟩
theorem sc_number : FnScope ["value"] ["value"] (defScope s_is_number) := ⟨rfl, rfl, rfl, by decide +kernel, rfl, by decide +kernel, by decide +kernel⟩
theorem ok_number {f g : Addr} {fd gd : FuncData} (F : Fun K "is_number" "is_number" s_is_number f fd) (G : Fun K "is_within" "is_within" s_is_within g gd) (B : Bln mg) (hg : mg "is_within" = some (.ref g)) {t : Tok} (hL : mg "LIMIT" = some (.int 1000000000 t)) :
    FnOk P w K mg base CX0 2 f fd ["value"] (spNumber K) := by
  have GW : FnOk P w K mg base CX0 1 g gd ["value", "least", "most"] (spWithin K) := ok_within G B
  have bW := G.binds (ps := ["value", "least", "most"]) fun _ _ _ _ _ _ us hl => match us, hl with | [_, _, _], _ => rfl
  refine F.ok sc_number (fun vs H Q E h => ?_) (fun cdv A outer s H vs Q E hr h => ?_)
  · obtain ⟨v, rfl, _⟩ := h
    rfl
  · obtain ⟨v, rfl, h⟩ := h
    refine ⟨_, pss_one (ps_ret (pe_call GW hr (by rfl) hg G.kp bW .nil pass0 (pa_cons (pv 0) (pa_cons (pe_un un_neg (pe_glob (v := .int 1000000000) (by rfl) hL ⟨_, rfl⟩)) (pa_cons (pe_glob (v := .int 1000000000) (by rfl) hL ⟨_, rfl⟩) pa_nil))))), ?_⟩
    refine ⟨_, rfl, _, rfl, v, -1000000000, 1000000000, rfl, ?_⟩
    exact h
theorem en_ok {i : Int} (hn : numOk i) : (decide (-1000000000 ≤ i) && decide (i ≤ 1000000000)) = true := by
  rw [decide_eq_true hn.1, decide_eq_true hn.2]
  rfl
theorem en_no {i : Int} (hn : ¬ numOk i) : (decide (-1000000000 ≤ i) && decide (i ≤ 1000000000)) = false := by
  cases h1 : (decide (-1000000000 ≤ i) && decide (i ≤ 1000000000)) with
  | false => rfl
  | true =>
    obtain ⟨z1, z2⟩ := He.ba h1
    exact absurd ⟨of_decide_eq_true z1, of_decide_eq_true z2⟩ hn
theorem sc_checknum : FnScope ["value"] ["value"] (defScope s_check_number) := ⟨rfl, rfl, rfl, by decide +kernel, rfl, by decide +kernel, by decide +kernel⟩
theorem ok_checknum {f g : Addr} {fd gd : FuncData} (F : Fun K "check_number" "check_number" s_check_number f fd) (G : FnOk P w K mg base CX0 2 g gd ["value"] (spNumber K)) (bG : Binds K gd ["value"] []) (kG : PySem.W.keepIn K (.ref g) = true) (hg : mg "is_number" = some (.ref g)) (X : Err0 K mg "InvalidNumber") :
    FnOk P w K mg base (L2.CX P w) 3 f fd ["value"] (spCheckNum K) := by
  refine F.okX sc_checknum (fun vs H Q E h => ?_) (fun cdv A outer s H vs Q E hr h => ?_)
  · obtain ⟨v, rfl, _⟩ := h
    rfl
  · obtain ⟨v, rfl, h⟩ := h
    refine ⟨_, pss_one (ps_if (pt_not (pt_val (pe_call G hr (by rfl) hg kG bG .nil pass0 (pa_cons (pv 0) pa_nil)))) (pss_one (ps_raise rfl (takes_of rfl rfl rfl rfl) (pmk_own PySem.F.excBase_ValueError X.ex X.gl X.kp (raises_own X.sb X.ty) (by exact rfl)))) pss_nil), ?_⟩
    rcases h with ⟨i, rfl, q1, q2⟩ | ⟨T0, hT, ty, q⟩
    · refine ⟨_, rfl, _, rfl, .inl ⟨i, rfl, _, rfl, ?_⟩⟩
      by_cases hn : numOk i
      · rw [en_ok hn]
        exact iteF (q1 hn)
      · rw [en_no hn]
        exact iteT (q2 hn)
    · exact ⟨_, rfl, _, rfl, .inr ⟨T0, hT, ty, _, rfl, iteT q⟩⟩
theorem sc_ninit : FnScope ["self", "mark"] ["self", "mark"] (defScope s_Near_init) := ⟨rfl, rfl, rfl, by decide +kernel, rfl, by decide +kernel, by decide +kernel⟩
theorem ok_ninit {f g : Addr} {fd gd : FuncData} (F : Fun K "__init__" "Near.__init__" s_Near_init f fd) (G : FnOk P w K mg base (L2.CX P w) 3 g gd ["value"] (spCheckNum K)) (bG : Binds K gd ["value"] []) (kG : PySem.W.keepIn K (.ref g) = true) (hg : mg "check_number" = some (.ref g)) (T : Cells K mg) :
    FnOk P w K mg base (L2.CX P w) 4 f fd ["self", "mark"] (spNearInit K) := by
  refine F.okX sc_ninit (fun vs H Q E h => ?_) (fun cdv A outer s H vs Q E hr h => ?_)
  · obtain ⟨a, dx, v, rfl, _⟩ := h
    rfl
  · obtain ⟨a, dx, v, rfl, ha, h⟩ := h
    refine ⟨_, pss_cons (ps_expr (pe_call G hr (by rfl) hg kG bG .nil (passes_call (takes_of rfl rfl rfl rfl) (fun _ _ _ _ h => h)) (pa_cons (pv 1) pa_nil)))
      (pss_one (ps_fld (pv 0) (pv 1) rfl)), ?_⟩
    rcases h with ⟨i, rfl, q1, q2⟩ | ⟨T0, hT, ty, q⟩
    · exact ⟨_, rfl, _, rfl, .inl ⟨i, rfl, fun hn => ⟨_, rfl, _, rfl, a, _, dx, [], rfl, ha, T.cls .near, T.noM, (by show 0 < 1000; decide), q1 hn⟩, q2⟩⟩
    · exact ⟨_, rfl, _, rfl, .inr ⟨T0, hT, ty, q⟩⟩
/-! ### what a cell does with two numbers -/
theorem sc_call {st : Stmt} (h : FnScope ["self", "held", "came"] ["self", "held", "came"] (defScope st)) : FnScope ["self", "held", "came"] ["self", "held", "came"] (defScope st) := h
theorem sc_Cell_call : FnScope ["self", "held", "came"] ["self", "held", "came"] (defScope s_Cell_call) := ⟨rfl, rfl, rfl, by decide +kernel, rfl, by decide +kernel, by decide +kernel⟩
theorem ok_Cell_call {f : Addr} {fd : FuncData} (F : Fun K "__call__" "Cell.__call__" s_Cell_call f fd) (B : Bln mg) (T : Cells K mg) : FnOk P w K mg base CX0 1 f fd ["self", "held", "came"] (spCall K .first) := by
  refine F.ok sc_Cell_call (fun vs H Q E h => ?_) (fun cdv A outer s H vs Q E hr h => ?_)
  · obtain ⟨a, r, h, c, rfl, _⟩ := h
    rfl
  · obtain ⟨a, r, h, c, rfl, hk, ca, q⟩ := h
    cases r with
    | first =>
      refine ⟨_, pss_one (ps_ret (pe_tup (pa_cons (pv 1) (pa_cons (pv 2) pa_nil)))), ?_⟩
      exact ⟨_, rfl, _, rfl, (by show 2 ≤ sizeLine; decide), fun p hp => q p hp⟩
    | _ => cases hk
theorem sc_Last_call : FnScope ["self", "held", "came"] ["self", "held", "came"] (defScope s_Last_call) := ⟨rfl, rfl, rfl, by decide +kernel, rfl, by decide +kernel, by decide +kernel⟩
theorem ok_Last_call {f : Addr} {fd : FuncData} (F : Fun K "__call__" "Last.__call__" s_Last_call f fd) (B : Bln mg) (T : Cells K mg) : FnOk P w K mg base CX0 1 f fd ["self", "held", "came"] (spCall K .last) := by
  refine F.ok sc_Last_call (fun vs H Q E h => ?_) (fun cdv A outer s H vs Q E hr h => ?_)
  · obtain ⟨a, r, h, c, rfl, _⟩ := h
    rfl
  · obtain ⟨a, r, h, c, rfl, hk, ca, q⟩ := h
    cases r with
    | last =>
      refine ⟨_, pss_one (ps_ret (pe_tup (pa_cons (pv 2) (pa_cons (pv 1) pa_nil)))), ?_⟩
      exact ⟨_, rfl, _, rfl, (by show 2 ≤ sizeLine; decide), fun p hp => q p hp⟩
    | _ => cases hk
theorem sc_Less_call : FnScope ["self", "held", "came"] ["self", "held", "came"] (defScope s_Less_call) := ⟨rfl, rfl, rfl, by decide +kernel, rfl, by decide +kernel, by decide +kernel⟩
theorem ok_Less_call {f : Addr} {fd : FuncData} (F : Fun K "__call__" "Less.__call__" s_Less_call f fd) (B : Bln mg) (T : Cells K mg) : FnOk P w K mg base CX0 1 f fd ["self", "held", "came"] (spCall K .less) := by
  refine F.ok sc_Less_call (fun vs H Q E h => ?_) (fun cdv A outer s H vs Q E hr h => ?_)
  · obtain ⟨a, r, h, c, rfl, _⟩ := h
    rfl
  · obtain ⟨a, r, h, c, rfl, hk, ca, q⟩ := h
    cases r with
    | less =>
      refine ⟨_, pss_cons (ps_if (pt_cmpR op_lt (pv 2) (pv 1) (nomark _)) (pss_one (ps_ret (pe_tup (pa_cons (pv 2) (pa_cons (pv 1) pa_nil))))) pss_nil) (pss_one (ps_ret (pe_tup (pa_cons (pv 1) (pa_cons (pv 2) pa_nil))))), ?_⟩
      refine ⟨_, rfl, _, rfl, _, _, rfl, rfl, _, rfl, ?_⟩
      by_cases hc : c < h
      · rw [decide_eq_true hc]
        refine iteT ⟨_, rfl, _, rfl, (by show 2 ≤ sizeLine; decide), fun p hp => ?_⟩
        have z := q p hp
        rw [show (Rule.less).keep h c = (c, h) from if_pos hc] at z
        exact z
      · rw [decide_eq_false hc]
        refine iteF ⟨_, rfl, _, rfl, (by show 2 ≤ sizeLine; decide), fun p hp => ?_⟩
        have z := q p hp
        rw [show (Rule.less).keep h c = (h, c) from if_neg hc] at z
        exact z
    | _ => cases hk
theorem sc_Greater_call : FnScope ["self", "held", "came"] ["self", "held", "came"] (defScope s_Greater_call) := ⟨rfl, rfl, rfl, by decide +kernel, rfl, by decide +kernel, by decide +kernel⟩
theorem ok_Greater_call {f : Addr} {fd : FuncData} (F : Fun K "__call__" "Greater.__call__" s_Greater_call f fd) (B : Bln mg) (T : Cells K mg) : FnOk P w K mg base CX0 1 f fd ["self", "held", "came"] (spCall K .greater) := by
  refine F.ok sc_Greater_call (fun vs H Q E h => ?_) (fun cdv A outer s H vs Q E hr h => ?_)
  · obtain ⟨a, r, h, c, rfl, _⟩ := h
    rfl
  · obtain ⟨a, r, h, c, rfl, hk, ca, q⟩ := h
    cases r with
    | greater =>
      refine ⟨_, pss_cons (ps_if (pt_cmpR op_gt (pv 2) (pv 1) (nomark _)) (pss_one (ps_ret (pe_tup (pa_cons (pv 2) (pa_cons (pv 1) pa_nil))))) pss_nil) (pss_one (ps_ret (pe_tup (pa_cons (pv 1) (pa_cons (pv 2) pa_nil))))), ?_⟩
      refine ⟨_, rfl, _, rfl, _, _, rfl, rfl, _, rfl, ?_⟩
      by_cases hc : h < c
      · rw [decide_eq_true hc]
        refine iteT ⟨_, rfl, _, rfl, (by show 2 ≤ sizeLine; decide), fun p hp => ?_⟩
        have z := q p hp
        rw [show (Rule.greater).keep h c = (c, h) from if_pos hc] at z
        exact z
      · rw [decide_eq_false hc]
        refine iteF ⟨_, rfl, _, rfl, (by show 2 ≤ sizeLine; decide), fun p hp => ?_⟩
        have z := q p hp
        rw [show (Rule.greater).keep h c = (h, c) from if_neg hc] at z
        exact z
    | _ => cases hk
theorem sc_Near_call : FnScope ["self", "held", "came"] ["self", "held", "came"] (defScope s_Near_call) := ⟨rfl, rfl, rfl, by decide +kernel, rfl, by decide +kernel, by decide +kernel⟩
theorem ok_Near_call {f : Addr} {fd : FuncData} (F : Fun K "__call__" "Near.__call__" s_Near_call f fd) (B : Bln mg) (T : Cells K mg) : FnOk P w K mg base CX0 1 f fd ["self", "held", "came"] (spCall K .near) := by
  refine F.ok sc_Near_call (fun vs H Q E h => ?_) (fun cdv A outer s H vs Q E hr h => ?_)
  · obtain ⟨a, r, h, c, rfl, _⟩ := h
    rfl
  · obtain ⟨a, r, h, c, rfl, hk, ca, q⟩ := h
    cases r with
    | near m =>
      obtain ⟨hok, dx, ha⟩ := ca
      have l : (Rule.near m).fs.lookup ("mark" : Str) = some (.int m) := by simp [Rule.fs, List.lookup]
      refine ⟨_, pss_cons (ps_if (pt_cmpR op_lt (pe_callB call_abs (by rfl) B.abs boot_abs' (pa_cons (pe_op op_sub (pv 2) (pe_fld (pv 0) rfl)) pa_nil)) (pe_callB call_abs (by rfl) B.abs boot_abs' (pa_cons (pe_op op_sub (pv 1) (pe_fld (pv 0) rfl)) pa_nil)) (nomark _)) (pss_one (ps_ret (pe_tup (pa_cons (pv 2) (pa_cons (pv 1) pa_nil))))) pss_nil) (pss_one (ps_ret (pe_tup (pa_cons (pv 1) (pa_cons (pv 2) pa_nil))))), ?_⟩
      refine ⟨_, rfl, _, rfl, a, _, dx, _, _, rfl, ha, T.cls .near, T.noM, l, _, _, rfl, rfl, _, rfl, ?_⟩
      refine ⟨_, rfl, _, rfl, a, _, dx, _, _, rfl, ha, T.cls .near, T.noM, l, _, _, rfl, rfl, _, rfl, ?_⟩
      refine ⟨_, _, rfl, rfl, _, rfl, ?_⟩
      by_cases hc : absI (c - m) < absI (h - m)
      · refine (if_pos (decide_eq_true (show (if c - m < 0 then -(c - m) else c - m) < (if h - m < 0 then -(h - m) else h - m) from hc))).mpr ?_
        refine ⟨_, rfl, _, rfl, (by show 2 ≤ sizeLine; decide), fun p hp => ?_⟩
        have z := q p hp
        rw [show (Rule.near m).keep h c = (c, h) from if_pos hc] at z
        exact z
      · refine (if_neg (fun z => hc (of_decide_eq_true z))).mpr ?_
        refine ⟨_, rfl, _, rfl, (by show 2 ≤ sizeLine; decide), fun p hp => ?_⟩
        have z := q p hp
        rw [show (Rule.near m).keep h c = (h, c) from if_neg hc] at z
        exact z
    | _ => cases hk
/-! ### labels -/
theorem sc_Cell_label : FnScope ["self"] ["self"] (defScope s_Cell_label) := ⟨rfl, rfl, rfl, by decide +kernel, rfl, by decide +kernel, by decide +kernel⟩
theorem ok_Cell_label {f : Addr} {fd : FuncData} (F : Fun K "label" "Cell.label" s_Cell_label f fd) (T : Cells K mg) : FnOk P w K mg base CX0 1 f fd ["self"] (spLabel K .first) := by
  refine F.ok sc_Cell_label (fun vs H Q E h => ?_) (fun cdv A outer s H vs Q E hr h => ?_)
  · obtain ⟨a, r, rfl, _⟩ := h
    rfl
  · obtain ⟨a, r, rfl, hk, ⟨hok, dx, ha⟩, q⟩ := h
    obtain ⟨u, con⟩ := T.kind .first
    cases r with
    | first =>
      refine ⟨_, pss_one (ps_ret (pe_con (pv 0) rfl)), ?_⟩
      exact ⟨_, rfl, a, _, dx, _, _, u, rfl, ha, T.cls .first, con, rfl, q⟩
    | _ => cases hk
theorem sc_Last_label : FnScope ["self"] ["self"] (defScope s_Last_label) := ⟨rfl, rfl, rfl, by decide +kernel, rfl, by decide +kernel, by decide +kernel⟩
theorem ok_Last_label {f : Addr} {fd : FuncData} (F : Fun K "label" "Last.label" s_Last_label f fd) (T : Cells K mg) : FnOk P w K mg base CX0 1 f fd ["self"] (spLabel K .last) := by
  refine F.ok sc_Last_label (fun vs H Q E h => ?_) (fun cdv A outer s H vs Q E hr h => ?_)
  · obtain ⟨a, r, rfl, _⟩ := h
    rfl
  · obtain ⟨a, r, rfl, hk, ⟨hok, dx, ha⟩, q⟩ := h
    obtain ⟨u, con⟩ := T.kind .last
    cases r with
    | last =>
      refine ⟨_, pss_one (ps_ret (pe_con (pv 0) rfl)), ?_⟩
      exact ⟨_, rfl, a, _, dx, _, _, u, rfl, ha, T.cls .last, con, rfl, q⟩
    | _ => cases hk
theorem sc_Less_label : FnScope ["self"] ["self"] (defScope s_Less_label) := ⟨rfl, rfl, rfl, by decide +kernel, rfl, by decide +kernel, by decide +kernel⟩
theorem ok_Less_label {f : Addr} {fd : FuncData} (F : Fun K "label" "Less.label" s_Less_label f fd) (T : Cells K mg) : FnOk P w K mg base CX0 1 f fd ["self"] (spLabel K .less) := by
  refine F.ok sc_Less_label (fun vs H Q E h => ?_) (fun cdv A outer s H vs Q E hr h => ?_)
  · obtain ⟨a, r, rfl, _⟩ := h
    rfl
  · obtain ⟨a, r, rfl, hk, ⟨hok, dx, ha⟩, q⟩ := h
    obtain ⟨u, con⟩ := T.kind .less
    cases r with
    | less =>
      refine ⟨_, pss_one (ps_ret (pe_con (pv 0) rfl)), ?_⟩
      exact ⟨_, rfl, a, _, dx, _, _, u, rfl, ha, T.cls .less, con, rfl, q⟩
    | _ => cases hk
theorem sc_Greater_label : FnScope ["self"] ["self"] (defScope s_Greater_label) := ⟨rfl, rfl, rfl, by decide +kernel, rfl, by decide +kernel, by decide +kernel⟩
theorem ok_Greater_label {f : Addr} {fd : FuncData} (F : Fun K "label" "Greater.label" s_Greater_label f fd) (T : Cells K mg) : FnOk P w K mg base CX0 1 f fd ["self"] (spLabel K .greater) := by
  refine F.ok sc_Greater_label (fun vs H Q E h => ?_) (fun cdv A outer s H vs Q E hr h => ?_)
  · obtain ⟨a, r, rfl, _⟩ := h
    rfl
  · obtain ⟨a, r, rfl, hk, ⟨hok, dx, ha⟩, q⟩ := h
    obtain ⟨u, con⟩ := T.kind .greater
    cases r with
    | greater =>
      refine ⟨_, pss_one (ps_ret (pe_con (pv 0) rfl)), ?_⟩
      exact ⟨_, rfl, a, _, dx, _, _, u, rfl, ha, T.cls .greater, con, rfl, q⟩
    | _ => cases hk
theorem near_word (x : Str) : ((Str.empty ++ ("near" : Str)) ++ (":" : Str)) ++ x = ("near:" : Str) ++ x := by
  rw [show ((Str.empty ++ ("near" : Str)) ++ (":" : Str)) = ("near:" : Str) by decide +kernel]
theorem sc_Near_label : FnScope ["self"] ["self"] (defScope s_Near_label) := ⟨rfl, rfl, rfl, by decide +kernel, rfl, by decide +kernel, by decide +kernel⟩
theorem ok_Near_label {f : Addr} {fd : FuncData} (F : Fun K "label" "Near.label" s_Near_label f fd) (T : Cells K mg) : FnOk P w K mg base CX0 1 f fd ["self"] (spLabel K .near) := by
  refine F.ok sc_Near_label (fun vs H Q E h => ?_) (fun cdv A outer s H vs Q E hr h => ?_)
  · obtain ⟨a, r, rfl, _⟩ := h
    rfl
  · obtain ⟨a, r, rfl, hk, ⟨hok, dx, ha⟩, q⟩ := h
    obtain ⟨u, con⟩ := T.kind .near
    cases r with
    | near m =>
      have l : (Rule.near m).fs.lookup ("mark" : Str) = some (.int m) := by simp [Rule.fs, List.lookup]
      refine ⟨_, pss_one (ps_ret (pe_joined (.cons (pe_fmt (pe_con (pv 0) rfl)) (.cons pe_str (.cons (pe_fmt (pe_fld (pv 0) rfl)) .nil))))), ?_⟩
      refine ⟨_, rfl, a, _, dx, _, _, u, rfl, ha, T.cls .near, con, fs_kind _, .inl ⟨_, rfl, by decide +kernel, _, rfl, by decide +kernel, ?_⟩⟩
      refine ⟨_, rfl, by decide +kernel, ?_⟩
      refine ⟨_, rfl, a, _, dx, _, _, rfl, ha, T.cls .near, T.noM, l, .inr ⟨m, rfl, numS_log hok, _, rfl, ?_, ?_⟩⟩
      · show ((((Str.empty ++ ("near" : Str)) ++ (":" : Str)) ++ numS m)).length ≤ sizeLine
        rw [near_word]
        exact Nat.le_trans (label_len (r := .near m) hok) (by decide)
      · show Q (.str ((((Str.empty ++ ("near" : Str)) ++ (":" : Str)) ++ numS m))) H
        rw [near_word]
        exact q
    | _ => cases hk
/-! ### equal cells -/
theorem sc_Cell_eq : FnScope ["self", "other"] ["self", "other"] (defScope s_Cell_eq) := ⟨rfl, rfl, rfl, by decide +kernel, rfl, by decide +kernel, by decide +kernel⟩
theorem ok_Cell_eq {f : Addr} {fd : FuncData} (F : Fun K "__eq__" "Cell.__eq__" s_Cell_eq f fd) (B : Bln mg) (T : Cells K mg) (L : LabelsOk P w K mg base 1) : FnOk P w K mg base CX0 3 f fd ["self", "other"] (spEq K .first) := by
  refine F.ok sc_Cell_eq (fun vs H Q E h => ?_) (fun cdv A outer s H vs Q E hr h => ?_)
  · obtain ⟨a, r, y, rfl, _⟩ := h
    rfl
  · obtain ⟨a, r, y, rfl, hk, ca, h⟩ := h
    refine ⟨_, pss_one (ps_ret (pe_and (pe_callB call_isi (by rfl) B.isinstance boot_isinstance' (pa_cons (pv 1) (pa_cons (pe_glob (v := .ref (He.ga K "Cell")) (by rfl) (T.glo .first) rfl) pa_nil)))
      (pe_one (pe_cmpR op_eq (pe_label T L hr (pv 0)) (pe_label T L hr (pv 1)) (nomark _))))), ?_⟩
    rcases h with ⟨b, r', rfl, cb, q⟩ | ⟨z, rfl, q⟩
    · refine ⟨_, rfl, _, _, _, _, true, rfl, .own _, cb.ty T, T.kit r'.kd, _, rfl, iteT ?_⟩
      refine ⟨_, rfl, a, r, rfl, ca, _, rfl, b, r', rfl, cb, rfl, ?_⟩
      have e : decide (V.str r.label = V.str r'.label) = decide (r.label = r'.label) := by
        by_cases z : r.label = r'.label
        · rw [decide_eq_true z, z]
          exact decide_eq_true rfl
        · rw [decide_eq_false z]
          exact decide_eq_false fun y => z (V.str.inj y)
      rw [e]
      exact q
    · exact ⟨_, rfl, _, _, _, _, false, rfl, .own _, .base (.str z), T.kitS, _, rfl, iteF q⟩
theorem sc_Last_eq : FnScope ["self", "other"] ["self", "other"] (defScope s_Last_eq) := ⟨rfl, rfl, rfl, by decide +kernel, rfl, by decide +kernel, by decide +kernel⟩
theorem ok_Last_eq {f : Addr} {fd : FuncData} (F : Fun K "__eq__" "Last.__eq__" s_Last_eq f fd) (B : Bln mg) (T : Cells K mg) (L : LabelsOk P w K mg base 1) : FnOk P w K mg base CX0 3 f fd ["self", "other"] (spEq K .last) := by
  refine F.ok sc_Last_eq (fun vs H Q E h => ?_) (fun cdv A outer s H vs Q E hr h => ?_)
  · obtain ⟨a, r, y, rfl, _⟩ := h
    rfl
  · obtain ⟨a, r, y, rfl, hk, ca, h⟩ := h
    refine ⟨_, pss_one (ps_ret (pe_and (pe_callB call_isi (by rfl) B.isinstance boot_isinstance' (pa_cons (pv 1) (pa_cons (pe_glob (v := .ref (He.ga K "Cell")) (by rfl) (T.glo .first) rfl) pa_nil)))
      (pe_one (pe_cmpR op_eq (pe_label T L hr (pv 0)) (pe_label T L hr (pv 1)) (nomark _))))), ?_⟩
    rcases h with ⟨b, r', rfl, cb, q⟩ | ⟨z, rfl, q⟩
    · refine ⟨_, rfl, _, _, _, _, true, rfl, .own _, cb.ty T, T.kit r'.kd, _, rfl, iteT ?_⟩
      refine ⟨_, rfl, a, r, rfl, ca, _, rfl, b, r', rfl, cb, rfl, ?_⟩
      have e : decide (V.str r.label = V.str r'.label) = decide (r.label = r'.label) := by
        by_cases z : r.label = r'.label
        · rw [decide_eq_true z, z]
          exact decide_eq_true rfl
        · rw [decide_eq_false z]
          exact decide_eq_false fun y => z (V.str.inj y)
      rw [e]
      exact q
    · exact ⟨_, rfl, _, _, _, _, false, rfl, .own _, .base (.str z), T.kitS, _, rfl, iteF q⟩
theorem sc_Less_eq : FnScope ["self", "other"] ["self", "other"] (defScope s_Less_eq) := ⟨rfl, rfl, rfl, by decide +kernel, rfl, by decide +kernel, by decide +kernel⟩
theorem ok_Less_eq {f : Addr} {fd : FuncData} (F : Fun K "__eq__" "Less.__eq__" s_Less_eq f fd) (B : Bln mg) (T : Cells K mg) (L : LabelsOk P w K mg base 1) : FnOk P w K mg base CX0 3 f fd ["self", "other"] (spEq K .less) := by
  refine F.ok sc_Less_eq (fun vs H Q E h => ?_) (fun cdv A outer s H vs Q E hr h => ?_)
  · obtain ⟨a, r, y, rfl, _⟩ := h
    rfl
  · obtain ⟨a, r, y, rfl, hk, ca, h⟩ := h
    refine ⟨_, pss_one (ps_ret (pe_and (pe_callB call_isi (by rfl) B.isinstance boot_isinstance' (pa_cons (pv 1) (pa_cons (pe_glob (v := .ref (He.ga K "Cell")) (by rfl) (T.glo .first) rfl) pa_nil)))
      (pe_one (pe_cmpR op_eq (pe_label T L hr (pv 0)) (pe_label T L hr (pv 1)) (nomark _))))), ?_⟩
    rcases h with ⟨b, r', rfl, cb, q⟩ | ⟨z, rfl, q⟩
    · refine ⟨_, rfl, _, _, _, _, true, rfl, .own _, cb.ty T, T.kit r'.kd, _, rfl, iteT ?_⟩
      refine ⟨_, rfl, a, r, rfl, ca, _, rfl, b, r', rfl, cb, rfl, ?_⟩
      have e : decide (V.str r.label = V.str r'.label) = decide (r.label = r'.label) := by
        by_cases z : r.label = r'.label
        · rw [decide_eq_true z, z]
          exact decide_eq_true rfl
        · rw [decide_eq_false z]
          exact decide_eq_false fun y => z (V.str.inj y)
      rw [e]
      exact q
    · exact ⟨_, rfl, _, _, _, _, false, rfl, .own _, .base (.str z), T.kitS, _, rfl, iteF q⟩
theorem sc_Greater_eq : FnScope ["self", "other"] ["self", "other"] (defScope s_Greater_eq) := ⟨rfl, rfl, rfl, by decide +kernel, rfl, by decide +kernel, by decide +kernel⟩
theorem ok_Greater_eq {f : Addr} {fd : FuncData} (F : Fun K "__eq__" "Greater.__eq__" s_Greater_eq f fd) (B : Bln mg) (T : Cells K mg) (L : LabelsOk P w K mg base 1) : FnOk P w K mg base CX0 3 f fd ["self", "other"] (spEq K .greater) := by
  refine F.ok sc_Greater_eq (fun vs H Q E h => ?_) (fun cdv A outer s H vs Q E hr h => ?_)
  · obtain ⟨a, r, y, rfl, _⟩ := h
    rfl
  · obtain ⟨a, r, y, rfl, hk, ca, h⟩ := h
    refine ⟨_, pss_one (ps_ret (pe_and (pe_callB call_isi (by rfl) B.isinstance boot_isinstance' (pa_cons (pv 1) (pa_cons (pe_glob (v := .ref (He.ga K "Cell")) (by rfl) (T.glo .first) rfl) pa_nil)))
      (pe_one (pe_cmpR op_eq (pe_label T L hr (pv 0)) (pe_label T L hr (pv 1)) (nomark _))))), ?_⟩
    rcases h with ⟨b, r', rfl, cb, q⟩ | ⟨z, rfl, q⟩
    · refine ⟨_, rfl, _, _, _, _, true, rfl, .own _, cb.ty T, T.kit r'.kd, _, rfl, iteT ?_⟩
      refine ⟨_, rfl, a, r, rfl, ca, _, rfl, b, r', rfl, cb, rfl, ?_⟩
      have e : decide (V.str r.label = V.str r'.label) = decide (r.label = r'.label) := by
        by_cases z : r.label = r'.label
        · rw [decide_eq_true z, z]
          exact decide_eq_true rfl
        · rw [decide_eq_false z]
          exact decide_eq_false fun y => z (V.str.inj y)
      rw [e]
      exact q
    · exact ⟨_, rfl, _, _, _, _, false, rfl, .own _, .base (.str z), T.kitS, _, rfl, iteF q⟩
theorem sc_Near_eq : FnScope ["self", "other"] ["self", "other"] (defScope s_Near_eq) := ⟨rfl, rfl, rfl, by decide +kernel, rfl, by decide +kernel, by decide +kernel⟩
theorem ok_Near_eq {f : Addr} {fd : FuncData} (F : Fun K "__eq__" "Near.__eq__" s_Near_eq f fd) (B : Bln mg) (T : Cells K mg) (L : LabelsOk P w K mg base 1) : FnOk P w K mg base CX0 3 f fd ["self", "other"] (spEq K .near) := by
  refine F.ok sc_Near_eq (fun vs H Q E h => ?_) (fun cdv A outer s H vs Q E hr h => ?_)
  · obtain ⟨a, r, y, rfl, _⟩ := h
    rfl
  · obtain ⟨a, r, y, rfl, hk, ca, h⟩ := h
    refine ⟨_, pss_one (ps_ret (pe_and (pe_callB call_isi (by rfl) B.isinstance boot_isinstance' (pa_cons (pv 1) (pa_cons (pe_glob (v := .ref (He.ga K "Cell")) (by rfl) (T.glo .first) rfl) pa_nil)))
      (pe_one (pe_cmpR op_eq (pe_label T L hr (pv 0)) (pe_label T L hr (pv 1)) (nomark _))))), ?_⟩
    rcases h with ⟨b, r', rfl, cb, q⟩ | ⟨z, rfl, q⟩
    · refine ⟨_, rfl, _, _, _, _, true, rfl, .own _, cb.ty T, T.kit r'.kd, _, rfl, iteT ?_⟩
      refine ⟨_, rfl, a, r, rfl, ca, _, rfl, b, r', rfl, cb, rfl, ?_⟩
      have e : decide (V.str r.label = V.str r'.label) = decide (r.label = r'.label) := by
        by_cases z : r.label = r'.label
        · rw [decide_eq_true z, z]
          exact decide_eq_true rfl
        · rw [decide_eq_false z]
          exact decide_eq_false fun y => z (V.str.inj y)
      rw [e]
      exact q
    · exact ⟨_, rfl, _, _, _, _, false, rfl, .own _, .base (.str z), T.kitS, _, rfl, iteF q⟩
/-! ### opposite cells -/
theorem made_same {H : Hp} {x dx C : Addr} {fs : List (Str × V)} (h1 : H x = none) (h2 : H dx = none) : Same H (upd (upd H dx (.own x)) x (.ins C dx fs)) := fun b o e => by
  rw [upd_ne (ne_of_none e h1), upd_ne (ne_of_none e h2)]
  exact e
theorem sc_Cell_neg : FnScope ["self"] ["self"] (defScope s_Cell_neg) := ⟨rfl, rfl, rfl, by decide +kernel, rfl, by decide +kernel, by decide +kernel⟩
theorem ok_Cell_neg {f : Addr} {fd : FuncData} (F : Fun K "__neg__" "Cell.__neg__" s_Cell_neg f fd) (T : Cells K mg) : FnOk P w K mg base CX0 1 f fd ["self"] (spNeg K .first) := by
  refine F.ok sc_Cell_neg (fun vs H Q E h => ?_) (fun cdv A outer s H vs Q E hr h => ?_)
  · obtain ⟨a, r, rfl, _⟩ := h
    rfl
  · obtain ⟨a, r, rfl, hk, ⟨hok, dx, ha⟩, q⟩ := h
    cases r with
    | first =>
      refine ⟨_, pss_one (ps_ret (pe_mk0 (T.mk0 .first (by decide)) (by rfl) (T.glo .first))), ?_⟩
      intro x dy h1 h2 h3
      exact q x _ h1 (made_same h1 h2) ⟨trivial, dy, upd_same⟩
    | _ => cases hk
theorem sc_Last_neg : FnScope ["self"] ["self"] (defScope s_Last_neg) := ⟨rfl, rfl, rfl, by decide +kernel, rfl, by decide +kernel, by decide +kernel⟩
theorem ok_Last_neg {f : Addr} {fd : FuncData} (F : Fun K "__neg__" "Last.__neg__" s_Last_neg f fd) (T : Cells K mg) : FnOk P w K mg base CX0 1 f fd ["self"] (spNeg K .last) := by
  refine F.ok sc_Last_neg (fun vs H Q E h => ?_) (fun cdv A outer s H vs Q E hr h => ?_)
  · obtain ⟨a, r, rfl, _⟩ := h
    rfl
  · obtain ⟨a, r, rfl, hk, ⟨hok, dx, ha⟩, q⟩ := h
    cases r with
    | last =>
      refine ⟨_, pss_one (ps_ret (pe_mk0 (T.mk0 .last (by decide)) (by rfl) (T.glo .last))), ?_⟩
      intro x dy h1 h2 h3
      exact q x _ h1 (made_same h1 h2) ⟨trivial, dy, upd_same⟩
    | _ => cases hk
theorem sc_Less_neg : FnScope ["self"] ["self"] (defScope s_Less_neg) := ⟨rfl, rfl, rfl, by decide +kernel, rfl, by decide +kernel, by decide +kernel⟩
theorem ok_Less_neg {f : Addr} {fd : FuncData} (F : Fun K "__neg__" "Less.__neg__" s_Less_neg f fd) (T : Cells K mg) : FnOk P w K mg base CX0 1 f fd ["self"] (spNeg K .less) := by
  refine F.ok sc_Less_neg (fun vs H Q E h => ?_) (fun cdv A outer s H vs Q E hr h => ?_)
  · obtain ⟨a, r, rfl, _⟩ := h
    rfl
  · obtain ⟨a, r, rfl, hk, ⟨hok, dx, ha⟩, q⟩ := h
    cases r with
    | less =>
      refine ⟨_, pss_one (ps_ret (pe_mk0 (T.mk0 .greater (by decide)) (by rfl) (T.glo .greater))), ?_⟩
      intro x dy h1 h2 h3
      exact q x _ h1 (made_same h1 h2) ⟨trivial, dy, upd_same⟩
    | _ => cases hk
theorem sc_Greater_neg : FnScope ["self"] ["self"] (defScope s_Greater_neg) := ⟨rfl, rfl, rfl, by decide +kernel, rfl, by decide +kernel, by decide +kernel⟩
theorem ok_Greater_neg {f : Addr} {fd : FuncData} (F : Fun K "__neg__" "Greater.__neg__" s_Greater_neg f fd) (T : Cells K mg) : FnOk P w K mg base CX0 1 f fd ["self"] (spNeg K .greater) := by
  refine F.ok sc_Greater_neg (fun vs H Q E h => ?_) (fun cdv A outer s H vs Q E hr h => ?_)
  · obtain ⟨a, r, rfl, _⟩ := h
    rfl
  · obtain ⟨a, r, rfl, hk, ⟨hok, dx, ha⟩, q⟩ := h
    cases r with
    | greater =>
      refine ⟨_, pss_one (ps_ret (pe_mk0 (T.mk0 .less (by decide)) (by rfl) (T.glo .less))), ?_⟩
      intro x dy h1 h2 h3
      exact q x _ h1 (made_same h1 h2) ⟨trivial, dy, upd_same⟩
    | _ => cases hk
theorem sc_Near_neg : FnScope ["self"] ["self"] (defScope s_Near_neg) := ⟨rfl, rfl, rfl, by decide +kernel, rfl, by decide +kernel, by decide +kernel⟩
theorem ok_Near_neg {f : Addr} {fd gd : FuncData} (F : Fun K "__neg__" "Near.__neg__" s_Near_neg f fd) (T : Cells K mg) (G : FnOk P w K mg base (L2.CX P w) 4 (He.ma K (He.ga K "Near") "__init__") gd ["self", "mark"] (spNearInit K)) (bG : Binds K gd ["self", "mark"] []) :
    FnOk P w K mg base CX0 6 f fd ["self"] (spNeg K .near) := by
  refine F.ok sc_Near_neg (fun vs H Q E h => ?_) (fun cdv A outer s H vs Q E hr h => ?_)
  · obtain ⟨a, r, rfl, _⟩ := h
    rfl
  · obtain ⟨a, r, rfl, hk, ⟨hok, dx, ha⟩, q⟩ := h
    cases r with
    | near m =>
      have l : (Rule.near m).fs.lookup ("mark" : Str) = some (.int m) := by simp [Rule.fs, List.lookup]
      refine ⟨_, pss_one (ps_ret (pe_make T.mkN G hr (by rfl) (T.glo .near) bG .nil passL (pa_cons (pe_un un_neg (pe_fld (pv 0) rfl)) pa_nil))), ?_⟩
      refine ⟨_, rfl, a, _, dx, _, _, rfl, ha, T.cls .near, T.noM, l, _, rfl, fun x dy h1 h2 h3 => ?_⟩
      have hn : numOk (-m) := Rule.neg_ok (r := .near m) hok
      refine ⟨x, dy, _, rfl, upd_same, .inl ⟨-m, rfl, fun _ => ⟨rfl, ?_⟩, fun z => absurd hn z⟩⟩
      rw [upd_upd]
      exact q x _ h1 (made_same h1 h2) ⟨hn, dy, upd_same⟩
    | _ => cases hk
end
end SC
set_option maxRecDepth 100000
set_option maxHeartbeats 2000000
namespace SC
open PySem PySem.Spec PyProof.Rows L2 TL
section
variable {P : Program} {w : World} {K : PySem.W.Frag} {mg : Str → Option Value} {base : Heap}
theorem sc_below : FnScope ["_law_d", "_law_limit", "_law_result"] ["_law_d", "_law_limit"] (defScope s__law_below) := ⟨rfl, rfl, rfl, by decide +kernel, rfl, by decide +kernel, by decide +kernel⟩
theorem ok_below {f : Addr} {fd : FuncData} (F : Fun K "_law_below" "_law_below" s__law_below f fd) (B : Bln mg) : FnOk P w K mg base CX0 1 f fd ["_law_d", "_law_limit"] spBelow := by
  refine F.ok sc_below (fun vs H Q E h => ?_) (fun cdv A outer s H vs Q E hr h => ?_)
  · obtain ⟨a, L, ds, rfl, _⟩ := h
    rfl
  · obtain ⟨a, L, ds, rfl, hL, hL2, ha, hd, q⟩ := h
    refine ⟨_, C8.pss_cut (ps_if (PW.pt (pw_and (pt_cmpR op_eq (pe_ix ix_list (pv 0) pe_int (fun _ _ => rfl)) pe_int (nomark _)) (pw_and1 (pt_cmpR op_gt (pe_callB call_len_seq (by rfl) B.len boot_len' (pa_cons (pv 0) pa_nil)) pe_int (nomark _)))))
        (pss_one (ps_asg (pe_bm PySem.F.plainAttrs_list PySem.F.slot_list_pop PySem.F.type_list_pop mt_popAt (pv 0) (pa_cons pe_int pa_nil)) (pg_sub (pv 0) pe_int set_list))) pss_nil)
      (pss_cons (ps_if (pt_cmpR op_gt (pe_ix ix_list (pv 0) pe_int (fun _ _ => rfl)) pe_int (nomark _))
        (pss_cons (ps_set (i := 2) sc_below.nd rfl (.inl rfl) (pe_op op_mod (pe_ix ix_list (pv 0) pe_int (fun _ _ => rfl)) (pv 1)))
          (pss_cons (ps_asg (pe_op op_fdivW (pe_ix ix_list (pv 0) pe_int (fun _ _ => rfl)) (pv 1)) (pg_sub (pv 0) pe_int set_list)) (pss_one (ps_ret (pv 2))))) pss_nil)
      (pss_cons (ps_asg (pe_op op_mod (pe_op op_add (pe_op op_mul (pe_ix ix_list (pv 0) pe_int (fun _ _ => rfl)) pe_int) pe_int) pe_int) (pg_sub (pv 0) pe_int set_list))
        (pss_one (ps_ret (pe_op op_mod (pe_op op_fdiv (pe_ix ix_list (pv 0) pe_int (fun _ _ => rfl)) pe_int) (pv 1)))))), ?_⟩
    refine ⟨fun σ' H' => σ' = [some (.ref a), some (.int L), none] ∧ ∃ ds', DOk ds' ∧ H' a = some (.lst (ds'.map V.int)) ∧ (H' = H ∨ ∃ o, H' = upd H a o), ?_, ?_⟩
    · obtain ⟨sd, b, rest, rfl, h1, h2, h3, h4, h5⟩ := id hd
      refine ⟨_, rfl, _, _, _, _, rfl, rfl, SqL.of ha, atI_nat (j := 1) rfl, rfl, _, rfl, ?_⟩
      by_cases hb : b = 0
      · subst hb
        refine iteT ?_
        refine ⟨_, rfl, _, _, rfl, .inl (SqL.of ha), _, _, rfl, rfl, _, rfl, ?_⟩
        cases rest with
        | nil =>
          refine iteF ?_
          exact ⟨rfl, _, hd, ha, .inl rfl⟩
        | cons z rest =>
          refine iteD1 (by simp only [List.length_map, List.length_cons]; omega) ?_
          refine ⟨_, rfl, .inl ⟨rfl, _, SqL.of ha⟩, a, _, 2, 2, .int z, rfl, rfl, ha, by decide, by decide, sx_at (j := 2) (by simp only [List.length_map, List.length_cons]; omega), rfl, ?_⟩
          refine ⟨_, rfl, a, _, 1, 1, rfl, rfl, upd_same, ixN_at (j := 1) (by simp), ?_⟩
          refine ⟨rfl, sd :: z :: rest, ⟨sd, z, rest, rfl, h1, h2, h4 z List.mem_cons_self, fun y hy => h4 y (List.mem_cons_of_mem _ hy), by simp only [List.length_cons] at h5; omega⟩, ?_, .inr ⟨_, upd_upd⟩⟩
          rw [upd_same]
          rfl
      · refine (if_neg (fun z => hb (V.int.inj (of_decide_eq_true z)))).mpr (iteF ?_)
        exact ⟨rfl, _, hd, ha, .inl rfl⟩
    · rintro σ' H' ⟨rfl, ds', hd', ha', hH⟩
      have up : ∀ o, upd H' a o = upd H a o := fun o => by
        rcases hH with rfl | ⟨o', rfl⟩
        · rfl
        · exact upd_upd
      obtain ⟨sd, b, rest, rfl, h1, h2, h3, h4, h5⟩ := id hd'
      refine ⟨_, rfl, _, _, _, _, rfl, rfl, SqL.of ha', atI_nat (j := 1) rfl, _, _, rfl, rfl, _, rfl, ?_⟩
      by_cases hb : 0 < b
      · refine iteD1 hb ?_
        refine ⟨_, rfl, _, _, _, _, rfl, rfl, SqL.of ha', atI_nat (j := 1) rfl, _, rfl, _, _, rfl, rfl, hL, ?_⟩
        refine ⟨_, rfl, _, _, _, _, rfl, rfl, SqL.of ha', atI_nat (j := 1) rfl, _, rfl, _, _, rfl, rfl, lim_div hL hL2, ?_⟩
        refine ⟨_, rfl, a, _, 1, 1, rfl, rfl, ha', ixN_at (j := 1) (by simp), ?_⟩
        refine ⟨_, rfl, ?_⟩
        rw [up]
        exact q (b % L) (sd :: b / L :: rest) (Int.emod_nonneg _ (by omega)) (Int.emod_lt_of_pos _ hL) ⟨sd, b / L, rest, rfl, h1, h2, Int.ediv_nonneg h3 (by omega), h4, h5⟩
      · refine iteD0 hb ?_
        refine ⟨_, rfl, _, _, _, _, rfl, rfl, SqL.of ha', atI_nat (j := 0) rfl, _, _, rfl, rfl, .inl ⟨by omega, by omega⟩, _, _, rfl, rfl, _, _, rfl, rfl, (by show (0 : Int) < 2147483647; decide), ?_⟩
        refine ⟨_, rfl, a, _, 0, 0, rfl, rfl, ha', ixN_at (j := 0) (by simp), ?_⟩
        refine ⟨_, rfl, _, _, _, _, rfl, rfl, SqL.of upd_same, atI_nat (j := 0) rfl, _, _, rfl, rfl, ⟨by decide, by decide⟩, _, rfl, _, _, rfl, rfl, hL, ?_⟩
        rw [up]
        exact q (((sd * 48271 + 11) % 2147483647) / 64 % L) (((sd * 48271 + 11) % 2147483647) :: b :: rest) (Int.emod_nonneg _ (by omega)) (Int.emod_lt_of_pos _ hL)
          ⟨_, b, rest, rfl, Int.emod_nonneg _ (by decide), Int.emod_lt_of_pos _ (by decide), h3, h4, h5⟩
theorem sc_random : FnScope ["_law_script", "_law_salt", "_law_seed", "_law_cell"] ["_law_script", "_law_salt"] (defScope s__law_random) := ⟨rfl, rfl, rfl, by decide +kernel, rfl, by decide +kernel, by decide +kernel⟩
theorem ok_random {f : Addr} {fd : FuncData} (F : Fun K "_law_random" "_law_random" s__law_random f fd) (B : Bln mg) : FnOk P w K mg base CX0 1 f fd ["_law_script", "_law_salt"] (spRandom K) := by
  refine F.ok sc_random (fun vs H Q E h => ?_) (fun cdv A outer s H vs Q E hr h => ?_)
  · obtain ⟨a, ns, salt, rfl, _⟩ := h
    rfl
  · obtain ⟨a, ns, salt, rfl, hS, hl, hs1, hs2, q⟩ := h
    refine ⟨_, pss_cons (ps_set (i := 2) sc_random.nd rfl (.inl rfl) (pv 1))
      (pss_cons (ps_for PassesOwn.never rfl (pi_list (pv 0)) (pg_name (i := 3) sc_random.nd rfl (.inl rfl))
        (pss_one (ps_set (i := 2) sc_random.nd rfl (.inl rfl) (pe_op op_mod (pe_op op_add (pe_op op_mul (pv 2) pe_int) (pe_callB call_abs (by rfl) B.abs boot_abs' (pa_cons (pv 3) pa_nil))) pe_int))))
      (pss_one (ps_ret (pe_op op_cat (pe_lst (pa_cons (pv 2) (pa_cons pe_int pa_nil)))
        (pe_lc (own := [("_law_cell", 3)]) (g := gName 3) (by rfl) sc_random.nd (pi_list (pv 0)) (blkOk_by (own := [("_law_cell", 3)]) (N := ["_law_script", "_law_salt", "_law_seed", "_law_cell"]) (sc := defScope s__law_random) (by decide +kernel))
          (fun _ _ _ _ _ => pg_name (i := 3) sc_random.nd rfl (.inl rfl)) (fun _ _ _ _ _ => pts_one (pt_cmpR op_ge (pv 3) (pe_op op_pow pe_int pe_int) (nomark _))) (fun _ _ _ _ _ => pv 3)))))), ?_⟩
    refine ⟨_, rfl, ?_⟩
    refine ⟨_, rfl, a, rfl, ⟨_, hS⟩, for_list (K := K) (a := a) (xs := ns.map V.int) (fun i σ H2 => ∃ (v : Option V) (sd : Int), σ = [some (.ref a), some (.int salt), some (.int sd), v] ∧ H2 = H ∧ 0 ≤ sd ∧ sd < 2147483647)
      ⟨none, salt, rfl, rfl, hs1, hs2⟩ (fun i σ H2 _ ⟨_, _, _, e, _⟩ => by rw [e]; exact hS) ?_ ?_⟩
    · rintro i y σ H2 hi ⟨v, sd, rfl, rfl, h1, h2⟩
      obtain ⟨z, hz, rfl⟩ := map_int_at hi
      refine ⟨_, rfl, _, _, rfl, rfl, .inl ⟨by omega, by omega⟩, _, rfl, _, rfl, _, _, rfl, rfl, _, _, rfl, rfl, (by show (0 : Int) < 2147483647; decide), ?_⟩
      exact ⟨_, _, rfl, rfl, Int.emod_nonneg _ (by decide), Int.emod_lt_of_pos _ (by decide)⟩
    · rintro σ H2 ⟨v, sd, rfl, rfl, h1, h2⟩
      refine ⟨_, rfl, (by show 2 ≤ sizeLine; decide), fun p hp => ?_⟩
      have s1 : Same H2 (upd H2 p (.lst [.int sd, .int 0])) := same_new hp
      refine ⟨_, rfl, a, rfl, ⟨_, s1.seq hS⟩, fun D hD => ?_⟩
      have hDp : D ≠ p := fun e => by
        rw [e, upd_same] at hD
        cases hD
      have hD0 : H2 D = none := by
        rw [upd_ne hDp] at hD
        exact hD
      refine lc_list (K := K) (a := a) (xs := ns.map V.int) (fun i H3 => H3 = upd (upd H2 p (.lst [.int sd, .int 0])) D (.lst (((ns.take i).filter fun z => decide (1000000000000000000 ≤ z)).map V.int))) rfl ?_ ?_ ?_
      · rintro i H3 _ rfl
        exact (Same.upd s1 hD0).seq hS
      · rintro i y H3 hi rfl
        obtain ⟨z, hz, rfl⟩ := map_int_at hi
        refine ⟨rfl, _, rfl, _, _, rfl, rfl, ⟨by decide, by decide, by decide⟩, _, _, rfl, rfl, _, rfl, ?_⟩
        have ep : ((10 : Int) ^ (18 : Int).toNat) = 1000000000000000000 := by decide +kernel
        rw [take_more hz, List.filter_append]
        by_cases hb : (1000000000000000000 : Int) ≤ z
        · refine iteD1 (by rw [ep]; exact hb) ?_
          refine ⟨_, rfl, _, upd_same, ?_, ?_⟩
          · rw [List.length_map]
            have := List.length_filter_le (fun z => decide (1000000000000000000 ≤ z)) (ns.take i)
            have h3 : (ns.take i).length ≤ ns.length := by rw [List.length_take]; omega
            exact Nat.lt_of_le_of_lt (Nat.le_trans this (Nat.le_trans h3 hl)) (by decide)
          · rw [upd_upd, List.map_append]
            simp [hb]
        · refine iteD0 (by rw [ep]; exact hb) ?_
          simp [hb]
      · rintro H3 rfl
        rw [List.length_map, List.take_length]
        have h3 : (ns.filter fun z => decide (1000000000000000000 ≤ z)).length ≤ 63 := Nat.le_trans (List.length_filter_le _ _) hl
        refine ⟨p, D, _, _, rfl, rfl, by rw [upd_ne hDp.symm, upd_same], upd_same, ?_, fun p' hp' => ?_⟩
        · rw [List.length_map]
          exact Nat.le_trans (show 2 + (ns.filter fun z => decide (1000000000000000000 ≤ z)).length ≤ 65 by omega) (by decide)
        · have hp0 : H2 p' = none := (Same.upd s1 hD0).free hp'
          refine q p' _ (sd :: 0 :: ns.filter fun z => decide (1000000000000000000 ≤ z)) hp0 (Same.upd (Same.upd s1 hD0) hp0) ⟨sd, 0, _, rfl, h1, h2, by decide, fun z hz => ?_, h3⟩ ?_
          · have := of_decide_eq_true (List.mem_filter.mp hz).2
            omega
          · rw [upd_same]
            rfl
end
end SC
set_option maxRecDepth 100000
set_option maxHeartbeats 2000000
namespace SC
open PySem PySem.Spec PyProof.Rows L2 TL
section
variable {P : Program} {w : World} {K : PySem.W.Frag} {mg : Str → Option Value} {base : Heap}
def nmNear : List Str := ["word", "written", "digits", "mark"]
theorem sc_near : FnScope nmNear ["word"] (defScope s_near_of) := ⟨rfl, rfl, rfl, by decide +kernel, rfl, by decide +kernel, by decide +kernel⟩
theorem ok_near {f g : Addr} {fd gd hd : FuncData} (F : Fun K "near_of" "near_of" s_near_of f fd) (B : Bln mg) (T : Cells K mg) (G : FnOk P w K mg base CX0 2 g gd ["value"] (spNumber K)) (bG : Binds K gd ["value"] []) (kG : PySem.W.keepIn K (.ref g) = true) (hg : mg "is_number" = some (.ref g))
    (N : FnOk P w K mg base (L2.CX P w) 4 (He.ma K (He.ga K "Near") "__init__") hd ["self", "mark"] (spNearInit K)) (bN : Binds K hd ["self", "mark"] []) {t1 t2 : Tok} (hs : mg "NEAR_START" = some (.str "near:" t1)) (hm : mg "MOST_DIGITS" = some (.int 10 t2)) :
    FnOk P w K mg base CX0 6 f fd ["word"] (spNear K) := by
  refine F.ok sc_near (fun vs H Q E h => ?_) (fun cdv A outer s H vs Q E hr h => ?_)
  · obtain ⟨m, rfl, _⟩ := h
    rfl
  · obtain ⟨m, rfl, ho, q⟩ := h
    refine ⟨_, pss_cons (ps_set (i := 1) sc_near.nd rfl (.inl rfl) (pe_bm PySem.F.plainAttrs_str PySem.F.slot_str_removeprefix PySem.F.type_str_removeprefix mt_removeprefix (pv 0) (pa_cons (pe_glob (v := .str "near:") (by rfl) hs ⟨_, rfl⟩) pa_nil)))
      (pss_cons (ps_set (i := 2) sc_near.nd rfl (.inl rfl) (pe_bm PySem.F.plainAttrs_str PySem.F.slot_str_removeprefix PySem.F.type_str_removeprefix mt_removeprefix (pv 1) (pa_cons pe_str pa_nil)))
      (pss_cons (ps_if (PW.pt (pw_or (pt_not (pt_val (pe_bm0 PySem.F.plainAttrs_str PySem.F.slot_str_isascii PySem.F.type_str_isascii mt_isascii (pv 2)))) (pw_or (pt_not (pt_val (pe_bm0 PySem.F.plainAttrs_str PySem.F.slot_str_isdigit PySem.F.type_str_isdigit mt_isdigit (pv 2))))
        (pw_or1 (pt_cmpR op_gt (pe_callB call_len_str (by rfl) B.len boot_len' (pa_cons (pv 2) pa_nil)) (pe_glob (v := .int 10) (by rfl) hm ⟨_, rfl⟩) (nomark _)))))) pss_never pss_nil)
      (pss_cons (ps_set (i := 3) sc_near.nd rfl (.inl rfl) (pe_callTy call_int_str (by rfl) B.int boot_int' (pa_cons (pv 1) pa_nil)))
      (pss_cons (ps_if (PW.pt (pw_or (pt_not (pt_val (pe_call (G.mono (by decide : 2 ≤ 5)) hr (by rfl) hg kG bG .nil pass0 (pa_cons (pv 3) pa_nil)))) (pw_or1 (pt_cmpR op_ne (pe_callTy call_str_int (by rfl) B.str boot_str' (pa_cons (pv 3) pa_nil)) (pv 1) (nomark _))))) pss_never pss_nil)
        (pss_one (ps_ret (pe_make T.mkN N hr (by rfl) (T.glo .near) bN .nil passL (pa_cons (pv 3) pa_nil)))))))), ?_⟩
    have e1 := rem_near m
    have e2 := rem_minus m
    have e3 := digit_all e2
    have e4 := digit_len e2 ho
    refine ⟨_, rfl, rfl, _, _, rfl, rfl, Nat.le_trans (label_len (r := .near m) ho) (by decide), ?_⟩
    rw [e1]
    refine ⟨_, rfl, rfl, _, _, rfl, rfl, Nat.le_trans (numS_len ho) (by decide), ?_⟩
    generalize Txt.removeprefix (numS m) ("-" : Str) = dg at *
    refine ⟨_, rfl, rfl, _, rfl, rfl, trivial, _, rfl, ?_⟩
    rw [e3.1]
    refine iteF ⟨_, rfl, rfl, _, rfl, rfl, trivial, _, rfl, ?_⟩
    rw [e3.2]
    refine iteF ?_
    refine ⟨_, rfl, dg, rfl, Nat.le_trans e4 (by decide), ?_⟩
    refine ⟨_, _, rfl, rfl, _, rfl, iteD0 (by omega) ?_⟩
    refine ⟨_, rfl, _, _, rfl, numS_read ho, Nat.le_trans (numS_len ho) (by decide), ?_⟩
    have en : (decide (-1000000000 ≤ m) && decide (m ≤ 1000000000)) = true := by
      rw [decide_eq_true ho.1, decide_eq_true ho.2]
      rfl
    refine ⟨_, rfl, _, rfl, .inl ⟨m, rfl, _, rfl, ?_⟩⟩
    rw [en]
    refine iteF ?_
    refine ⟨_, rfl, m, rfl, numS_log ho, _, rfl, rfl, _, rfl, ?_⟩
    refine iteNS rfl ?_
    refine ⟨_, rfl, fun x dy h1 h2 h3 => ?_⟩
    refine ⟨x, dy, _, rfl, upd_same, .inl ⟨m, rfl, fun _ => ⟨rfl, ?_⟩, fun z => absurd ho z⟩⟩
    rw [upd_upd]
    exact q x _ h1 (made_same h1 h2) ⟨ho, dy, upd_same⟩
/-- the cells' classes, read as values -/
structure CellsC (K : PySem.W.Frag) : Prop where
  rd : ∀ k : Kd, ClX.CRead K (He.ga K k.cn) (.type "type")
  kd : ∀ k : Kd, k ≠ .near → ∃ u, ClX.CVal K (He.ga K k.cn) (.type "type") "KIND" (.str k.word) u
theorem word_ne {r : Rule} {k : Kd} (h : r.ok) (hk : k ≠ .near) (hr : r.kd ≠ k) : ¬ V.str r.label = V.str k.word := fun z => by
  cases r with
  | near m => exact near_ne m hk z
  | first => cases k <;> first | exact hr rfl | exact hk rfl | (revert z; decide +kernel)
  | last => cases k <;> first | exact hr rfl | exact hk rfl | (revert z; decide +kernel)
  | less => cases k <;> first | exact hr rfl | exact hk rfl | (revert z; decide +kernel)
  | greater => cases k <;> first | exact hr rfl | exact hk rfl | (revert z; decide +kernel)
theorem sc_cellof : FnScope ["word"] ["word"] (defScope s_cell_of) := ⟨rfl, rfl, rfl, by decide +kernel, rfl, by decide +kernel, by decide +kernel⟩
theorem ok_cellof {f g : Addr} {fd gd : FuncData} (F : Fun K "cell_of" "cell_of" s_cell_of f fd) (T : Cells K mg) (TC : CellsC K) (G : FnOk P w K mg base CX0 6 g gd ["word"] (spNear K)) (bG : Binds K gd ["word"] []) (kG : PySem.W.keepIn K (.ref g) = true) (hg : mg "near_of" = some (.ref g))
    {t1 : Tok} (hs : mg "NEAR_START" = some (.str "near:" t1)) : FnOk P w K mg base CX0 7 f fd ["word"] (spCellOf K) := by
  refine F.ok sc_cellof (fun vs H Q E h => ?_) (fun cdv A outer s H vs Q E hr h => ?_)
  · obtain ⟨r, rfl, _⟩ := h
    rfl
  · obtain ⟨r, rfl, ho, q⟩ := h
    refine ⟨_, pss_cons (ps_if (pt_cmpR op_eq (pv 0) (ClX.pe_cval (pe_glob (v := .ref (He.ga K "Cell")) (by rfl) (T.glo .first) rfl)) (nomark _)) (pss_one (ps_ret (pe_mk0 (T.mk0 .first (by decide)) (by rfl) (T.glo .first)))) pss_nil)
      (pss_cons (ps_if (pt_cmpR op_eq (pv 0) (ClX.pe_cval (pe_glob (v := .ref (He.ga K "Last")) (by rfl) (T.glo .last) rfl)) (nomark _)) (pss_one (ps_ret (pe_mk0 (T.mk0 .last (by decide)) (by rfl) (T.glo .last)))) pss_nil)
      (pss_cons (ps_if (pt_cmpR op_eq (pv 0) (ClX.pe_cval (pe_glob (v := .ref (He.ga K "Less")) (by rfl) (T.glo .less) rfl)) (nomark _)) (pss_one (ps_ret (pe_mk0 (T.mk0 .less (by decide)) (by rfl) (T.glo .less)))) pss_nil)
      (pss_cons (ps_if (pt_cmpR op_eq (pv 0) (ClX.pe_cval (pe_glob (v := .ref (He.ga K "Greater")) (by rfl) (T.glo .greater) rfl)) (nomark _)) (pss_one (ps_ret (pe_mk0 (T.mk0 .greater (by decide)) (by rfl) (T.glo .greater)))) pss_nil)
      (pss_cons (ps_if (pt_val (pe_bm PySem.F.plainAttrs_str PySem.F.slot_str_startswith PySem.F.type_str_startswith mt_startswith (pv 0) (pa_cons (pe_glob (v := .str "near:") (by rfl) hs ⟨_, rfl⟩) pa_nil))) (pss_one (ps_ret (pe_call G hr (by rfl) hg kG bG .nil pass0 (pa_cons (pv 0) pa_nil)))) pss_nil)
        pss_never)))), ?_⟩
    obtain ⟨u1, k1⟩ := TC.kd .first (by decide)
    obtain ⟨u2, k2⟩ := TC.kd .last (by decide)
    obtain ⟨u3, k3⟩ := TC.kd .less (by decide)
    obtain ⟨u4, k4⟩ := TC.kd .greater (by decide)
    refine ⟨_, rfl, _, _, _, _, rfl, TC.rd .first, k1, rfl, _, rfl, ?_⟩
    by_cases h1 : r.kd = .first
    · cases r with
      | first =>
        refine iteD1 rfl ?_
        intro x dy a1 a2 a3
        exact q x _ a1 (made_same a1 a2) ⟨trivial, dy, upd_same⟩
      | _ => cases h1
    refine iteD0 (word_ne ho (k := .first) (by decide) h1) ?_
    refine ⟨_, rfl, _, _, _, _, rfl, TC.rd .last, k2, rfl, _, rfl, ?_⟩
    by_cases h2 : r.kd = .last
    · cases r with
      | last =>
        refine iteD1 rfl ?_
        intro x dy a1 a2 a3
        exact q x _ a1 (made_same a1 a2) ⟨trivial, dy, upd_same⟩
      | _ => cases h2
    refine iteD0 (word_ne ho (k := .last) (by decide) h2) ?_
    refine ⟨_, rfl, _, _, _, _, rfl, TC.rd .less, k3, rfl, _, rfl, ?_⟩
    by_cases h3 : r.kd = .less
    · cases r with
      | less =>
        refine iteD1 rfl ?_
        intro x dy a1 a2 a3
        exact q x _ a1 (made_same a1 a2) ⟨trivial, dy, upd_same⟩
      | _ => cases h3
    refine iteD0 (word_ne ho (k := .less) (by decide) h3) ?_
    refine ⟨_, rfl, _, _, _, _, rfl, TC.rd .greater, k4, rfl, _, rfl, ?_⟩
    by_cases h4 : r.kd = .greater
    · cases r with
      | greater =>
        refine iteD1 rfl ?_
        intro x dy a1 a2 a3
        exact q x _ a1 (made_same a1 a2) ⟨trivial, dy, upd_same⟩
      | _ => cases h4
    refine iteD0 (word_ne ho (k := .greater) (by decide) h4) ?_
    cases r with
    | near m =>
      refine ⟨_, rfl, rfl, _, _, rfl, rfl, _, rfl, ?_⟩
      rw [starts_near]
      exact iteT ⟨_, rfl, m, rfl, ho, q⟩
    | first => exact absurd rfl h1
    | last => exact absurd rfl h2
    | less => exact absurd rfl h3
    | greater => exact absurd rfl h4
def nmCheck : List Str := ["row", "longest", "at", "number"]
theorem sc_check : FnScope nmCheck ["row", "longest"] (defScope s_check_row) := ⟨rfl, rfl, rfl, by decide +kernel, rfl, by decide +kernel, by decide +kernel⟩
theorem ok_check {f g : Addr} {fd gd : FuncData} (F : Fun K "check_row" "check_row" s_check_row f fd) (B : Bln mg) (hen : mg "enumerate" = none) (G : FnOk P w K mg base CX0 2 g gd ["value"] (spNumber K)) (bG : Binds K gd ["value"] []) (kG : PySem.W.keepIn K (.ref g) = true) (hg : mg "is_number" = some (.ref g)) :
    FnOk P w K mg base CX0 3 f fd ["row", "longest"] (spCheck K) := by
  refine F.ok sc_check (fun vs H Q E h => ?_) (fun cdv A outer s H vs Q E hr h => ?_)
  · obtain ⟨a, ns, L, rfl, _⟩ := h
    rfl
  · obtain ⟨a, ns, L, rfl, hS, hl, hz, q⟩ := h
    refine ⟨_, pss_cons (ps_if (pt_not (pt_val (pe_callB call_isi (by rfl) B.isinstance boot_isinstance' (pa_cons (pv 0) (pa_cons (pe_bltn (v := .ty "list") (by rfl) B.list boot_list' rfl) pa_nil))))) pss_never pss_nil)
      (pss_one (ps_for PassesOwn.never rfl (pi_enum (by rfl) hen (pa_cons (pv 0) pa_nil)) (pg_tup rfl (pgs_cons (pg_name (i := 2) sc_check.nd rfl (.inl rfl)) (pgs_cons (pg_name (i := 3) sc_check.nd rfl (.inl rfl)) pgs_nil)))
        (pss_one (ps_if (PW.pt (pw_or (pt_cmpR op_eq (pv 2) (pv 1) (nomark _)) (pw_or1 (pt_not (pt_val (pe_call G hr (by rfl) hg kG bG .nil pass0 (pa_cons (pv 3) pa_nil))))))) pss_never pss_nil)))), ?_⟩
    refine ⟨_, rfl, _, _, _, _, true, rfl, .ty "list", .base (.lst hS), kit_ty (by decide +kernel), true, rfl, iteF ?_⟩
    have nd : ∀ {H' : Hp}, Same H H' → SqL K H' a (ns.map V.int) := fun s => SqL.of (s _ _ hS)
    refine ⟨_, rfl, a, ns.map V.int, rfl, SqL.of hS, for_enumL (K := K) (a := a) (xs := ns.map V.int) (fun i σ H2 => ∃ (u v : Option V), σ = [some (.ref a), some (.int L), u, v] ∧ Same H H2) ⟨none, none, rfl, fun _ _ z => z⟩ (fun i σ H2 ⟨_, _, _, s⟩ => nd s) ?_ ?_⟩
    · rintro i y T σ H2 hi ⟨u, v, rfl, s2⟩ hT
      obtain ⟨z, hzi, rfl⟩ := map_int_at hi
      have s3 : Same H (upd H2 T (.tup [.int (i : Nat), .int z])) := s2.trans (same_new hT)
      refine ⟨T, _, rfl, SqT.of upd_same, rfl, _, _, rfl, _, _, rfl, rfl, ?_⟩
      refine ⟨_, rfl, _, rfl, rfl, _, rfl, ?_⟩
      have hlt : i < ns.length := by
        rcases Nat.lt_or_ge i ns.length with q | q
        · exact q
        · rw [List.getElem?_eq_none q] at hzi
          cases hzi
      refine iteD0 (fun e => by have e2 := V.int.inj e; omega) ?_
      have zo : numOk z := hz z (List.mem_of_getElem? hzi)
      have en : (decide (-1000000000 ≤ z) && decide (z ≤ 1000000000)) = true := by
        rw [decide_eq_true zo.1, decide_eq_true zo.2]
        rfl
      refine ⟨_, rfl, _, rfl, .inl ⟨z, rfl, _, rfl, ?_⟩⟩
      rw [en]
      exact iteF ⟨_, _, rfl, s3⟩
    · rintro σ H2 ⟨u, v, rfl, s2⟩
      exact q _ s2
end
end SC
set_option maxRecDepth 100000
set_option maxHeartbeats 2000000
namespace SC
open PySem PySem.Spec PyProof.Rows L2 TL
section
variable {P : Program} {w : World} {K : PySem.W.Frag} {mg : Str → Option Value} {base : Heap}
theorem map_ref_at {as : List Addr} {i : Nat} {y : V} (h : (as.map V.ref)[i]? = some y) : ∃ a, as[i]? = some a ∧ y = V.ref a := by
  rw [List.getElem?_map] at h
  cases e : as[i]? with
  | none =>
    rw [e] at h
    cases h
  | some a =>
    rw [e] at h
    exact ⟨a, rfl, (Option.some.inj h).symm⟩
theorem Cs.at {H : Hp} {as : List Addr} {rs : List Rule} {i : Nat} {a : Addr} (c : Cs K H as rs) (h : as[i]? = some a) : ∃ r, rs[i]? = some r ∧ CellAt K H a r := by
  have hi : i < as.length := by
    rcases Nat.lt_or_ge i as.length with q | q
    · exact q
    · rw [List.getElem?_eq_none q] at h
      cases h
  have hr : rs[i]? = some (rs[i]'(by rw [← c.1]; exact hi)) := List.getElem?_eq_getElem _
  exact ⟨_, hr, c.2 i a _ h hr⟩
def nmInit : List Str := ["self", "cells", "at", "cell"]
theorem sc_cinit : FnScope nmInit ((["self"] : List Str) ++ (["cells"] : List Str)) (defScope s_Chain_init) := ⟨rfl, rfl, rfl, by decide +kernel, rfl, by decide +kernel, by decide +kernel⟩
theorem ok_cinit {f : Addr} {fd : FuncData} (F : Fun K "__init__" "Chain.__init__" s_Chain_init f fd) (B : Bln mg) (hen : mg "enumerate" = none) (T : Cells K mg) (C : Chains K mg) : FnR P w K mg base CX0 1 f (spInit K) := by
  obtain ⟨oc, od, kV, doc, pm, an, cdv, ct, osl, rfl, lk, hcd⟩ := F.ex
  refine FnR.imp (StX.fn_star (sp := spInitB K) (k := 0) (ps := ["self"]) (pv := "cells") lk hcd sc_cinit StX.cxUp_none (StX.bind_star1 (B := fun us => bindArgs _ ⟨us, []⟩) (fun a => rfl) (fun a r rs => rfl)) fun A outer s H vs Q E hr h => ?_) fun vs H Q E h => ?_
  · obtain ⟨x, dx, t, as, rs, rfl, hx, ht, cs, nx, h1, h8, q⟩ := h
    refine ⟨_, PSs.nox (pss_cons (ps_if (pt_not (pt_truth (pv 1) (by intro _; rfl))) pss_never pss_nil)
      (pss_cons (ps_for PassesOwn.never rfl (pi_enumT (by rfl) hen (pa_cons (pv 1) pa_nil)) (pg_tup rfl (pgs_cons (pg_name (i := 2) sc_cinit.nd rfl (.inl rfl)) (pgs_cons (pg_name (i := 3) sc_cinit.nd rfl (.inl rfl)) pgs_nil)))
        (pss_one (ps_if (PW.pt (pw_or (pt_cmpR op_eq (pv 2) (pe_con (pv 0) rfl) (nomark _)) (pw_or1 (pt_not (pt_val (pe_callB call_isi (by rfl) B.isinstance boot_isinstance' (pa_cons (pv 3) (pa_cons (pe_glob (v := .ref (He.ga K "Cell")) (by rfl) (T.glo .first) rfl) pa_nil)))))))) pss_never pss_nil)))
      (pss_one (ps_fld (pv 0) (pv 1) rfl)))), ?_⟩
    have hne : as ≠ [] := fun z => by
      rw [z] at cs
      have := cs.1
      simp at this
      omega
    refine ⟨_, rfl, true, .inr (.inl ⟨_, SqT.of ht, ?_⟩), iteF ?_⟩
    · cases as with
      | nil => exact absurd rfl hne
      | cons a r => rfl
    obtain ⟨um, cm⟩ := C.maxI
    refine ⟨_, rfl, t, as.map V.ref, rfl, SqT.of ht, for_enumT (K := K) (a := t) (xs := as.map V.ref) (fun i σ H2 => ∃ (u v : Option V), σ = [some (.ref x), some (.ref t), u, v] ∧ Same H H2) ⟨none, none, rfl, fun _ _ z => z⟩ (fun i σ H2 ⟨_, _, _, s⟩ => SqT.of (s _ _ ht)) ?_ ?_⟩
    · rintro i y T2 σ H2 hi ⟨u, v, rfl, s2⟩ hT
      obtain ⟨a, hai, rfl⟩ := map_ref_at hi
      obtain ⟨r, hri, ca⟩ := cs.at hai
      have s3 : Same H (upd H2 T2 (.tup [.int (i : Nat), .ref a])) := s2.trans (same_new hT)
      have hlt : i < rs.length := by
        rcases Nat.lt_or_ge i rs.length with q | q
        · exact q
        · rw [List.getElem?_eq_none q] at hri
          cases hri
      refine ⟨T2, _, rfl, SqT.of upd_same, rfl, _, _, rfl, _, _, rfl, rfl, ?_⟩
      refine ⟨_, rfl, _, rfl, x, _, dx, _, _, _, rfl, s3 _ _ hx, C.cls, cm, rfl, rfl, _, rfl, iteD0 (fun e => by have e2 := V.int.inj e; omega) ?_⟩
      refine ⟨_, rfl, _, _, _, _, true, rfl, .own _, (ca.same s3).ty T, T.kit r.kd, _, rfl, iteF ⟨_, _, rfl, s3⟩⟩
    · rintro σ H2 ⟨u, v, rfl, s2⟩
      refine ⟨_, rfl, _, rfl, x, _, dx, [], rfl, s2 _ _ hx, C.cls, C.noC, (by show 0 < 1000; decide), ?_⟩
      have ntx : t ≠ x := ne_of ht hx fun z => by cases z
      refine q _ (fun b o hb hbx => by rw [upd_ne hbx]; exact s2 _ _ hb) ⟨dx, t, as, upd_same, by rw [upd_ne ntx]; exact s2 _ _ ht, ⟨cs.1, fun i a r ha hr => ?_⟩, h1, h8⟩
      have ca := cs.2 i a r ha hr
      obtain ⟨ro, dy, hay⟩ := ca
      refine ⟨ro, dy, ?_⟩
      have nax : a ≠ x := fun z => nx (z ▸ List.mem_of_getElem? ha)
      rw [upd_ne nax]
      exact s2 _ _ hay
  · obtain ⟨x, dx, as, rs, rfl, hx, cs, nx, h1, h8, q⟩ := h
    refine ⟨[.ref x], as.map V.ref, rfl, rfl, ?_, fun p hp => ?_⟩
    · rw [List.length_map, cs.1]
      exact Nat.le_trans h8 (by decide)
    · have nxp : x ≠ p := ne_of_none hx hp
      refine ⟨x, dx, p, as, rs, rfl, by rw [upd_ne nxp]; exact hx, upd_same, cs.same (same_new hp), nx, h1, h8, fun H' f => q H' fun b o hb hbx => f b o ?_ hbx⟩
      rw [upd_ne (ne_of_none hb hp)]
      exact hb
theorem Cs.mem {H : Hp} {as : List Addr} {rs : List Rule} (c : Cs K H as rs) {a : Addr} (h : a ∈ as) : ∃ o, H a = some o := by
  obtain ⟨i, hi, e⟩ := List.getElem_of_mem h
  obtain ⟨r, _, _, dx, q⟩ := c.at (List.getElem?_eq_getElem hi)
  rw [e] at q
  exact ⟨_, q⟩
theorem made_chain {H1 : Hp} {x dx : Addr} {as : List Addr} {rs : List Rule} {Q : VK} {E : XK} (h1 : H1 x = none) (h2 : H1 dx = none) (cs : Cs K H1 as rs) (l1 : 1 ≤ rs.length) (l8 : rs.length ≤ 8) (q : NewCh K H1 rs Q) :
    spInit K (V.ref x :: as.map V.ref) (upd (upd H1 dx (.own x)) x (.ins (ChC K) dx [])) (fun v H2 => v = .non ∧ Q (.ref x) H2) E := by
  have s := made_same' (C := ChC K) (fs := []) h1 h2
  refine ⟨x, dx, as, rs, rfl, upd_same, cs.same s, fun z => ?_, l1, l8, fun H' f ch => ⟨rfl, q x H' h1 (fun b o hb => f b o (s b o hb) (ne_of_none hb h1)) ch⟩⟩
  obtain ⟨o, ho⟩ := cs.mem z
  rw [h1] at ho
  cases ho
theorem labels_sum : ∀ {rs : List Rule}, (∀ r ∈ rs, r.ok) → ((rs.map Rule.label).map (·.length)).sum ≤ 16 * rs.length
  | [], _ => Nat.le_refl _
  | r :: rs, h => by
    have l1 := label_len (h r List.mem_cons_self)
    have l2 := labels_sum fun z hz => h z (List.mem_cons_of_mem r hz)
    simp only [List.map_cons, List.sum_cons, List.length_cons] at l2 ⊢
    omega
theorem txt_len {rs : List Rule} (h : ∀ r ∈ rs, r.ok) (h8 : rs.length ≤ 8) : (txtOf rs).length ≤ 1000 := by
  have l := labels_sum h
  have ho : (" " : Str).length = 1 := by decide +kernel
  have z := PyProof.Rows.len_join_le (sep := (" " : Str)) (ys := rs.map Rule.label) (n := 17 * rs.length) (by
    show ((rs.map Rule.label).map (·.length)).sum + (rs.map Rule.label).length ≤ 17 * rs.length + 1
    rw [List.length_map]
    omega) (by omega)
  exact Nat.le_trans z (by omega)
end
end SC
set_option maxRecDepth 100000
set_option maxHeartbeats 2000000
namespace SC
open PySem PySem.Spec PyProof.Rows L2 TL
section
variable {P : Program} {w : World} {K : PySem.W.Frag} {mg : Str → Option Value} {base : Heap}
def nmParse : List Str := ["cls", "text", "cells", "at", "word", "cell"]
theorem sc_parse : FnScope nmParse ["cls", "text"] (defScope s_Chain_parse) := ⟨rfl, rfl, rfl, by decide +kernel, rfl, by decide +kernel, by decide +kernel⟩
theorem ok_parse {f g : Addr} {fd gd : FuncData} (F : Fun K "parse" "Chain.parse" s_Chain_parse f fd) (B : Bln mg) (hen : mg "enumerate" = none) (T : Cells K mg) (C : Chains K mg) (I0 : FnR P w K mg base CX0 1 (He.ma K (ChC K) "__init__") (spInit K))
    (G : FnOk P w K mg base CX0 7 g gd ["word"] (spCellOf K)) (bG : Binds K gd ["word"] []) (kG : PySem.W.keepIn K (.ref g) = true) (hg : mg "cell_of" = some (.ref g)) : FnOk P w K mg base CX0 8 f fd ["cls", "text"] (spParse K) := by
  refine F.ok sc_parse (fun vs H Q E h => ?_) (fun cdv A outer s H vs Q E hr h => ?_)
  · obtain ⟨rs, rfl, _⟩ := h
    rfl
  · obtain ⟨rs, rfl, hok, h1, h8, q⟩ := h
    obtain ⟨um, cm⟩ := C.maxC
    refine ⟨_, pss_cons (ps_if (pt_not (pt_val (pe_callB call_isi (by rfl) B.isinstance boot_isinstance' (pa_cons (pv 1) (pa_cons (pe_bltn (v := .ty "str") (by rfl) B.str boot_str' rfl) pa_nil))))) pss_never pss_nil)
      (pss_cons (ps_set (i := 2) sc_parse.nd rfl (.inl rfl) (pe_lst pa_nil))
      (pss_cons (ps_for PassesOwn.never rfl (pi_enum (by rfl) hen (pa_cons (pe_bm PySem.F.plainAttrs_str PySem.F.slot_str_split PySem.F.type_str_split mt_split (pv 1) (pa_cons pe_str pa_nil)) pa_nil)) (pg_tup rfl (pgs_cons (pg_name (i := 3) sc_parse.nd rfl (.inl rfl)) (pgs_cons (pg_name (i := 4) sc_parse.nd rfl (.inl rfl)) pgs_nil)))
        (pss_cons (ps_set (i := 5) sc_parse.nd rfl (.inl rfl) (pe_call G hr (by rfl) hg kG bG .nil pass0 (pa_cons (pv 4) pa_nil)))
        (pss_cons (ps_if (PW.pt (pw_or (pt_cmpR op_eq (pv 3) (ClX.pe_cval (pv 0)) (nomark _)) (pw_or1 (pt_cmpR op_isN (pv 5) pe_non (nomark _))))) pss_never pss_nil)
          (pss_one (ps_expr (pe_bm PySem.F.plainAttrs_list PySem.F.slot_list_append PySem.F.type_list_append mt_append (pv 2) (pa_cons (pv 5) pa_nil)))))))
        (pss_one (ps_ret (pe_makeSv C.make (I0.mono (by decide : 1 ≤ 6)) hr (pv 0) pass0 (pv 2)))))), ?_⟩
    refine ⟨_, rfl, _, _, _, _, true, rfl, .ty "str", .base (.str _), kit_ty (by decide +kernel), true, rfl, iteF ?_⟩
    refine ⟨(by show 0 ≤ sizeLine; exact Nat.zero_le _), fun L hL => ?_⟩
    refine ⟨_, rfl, rfl, _, _, rfl, rfl, rfl, Nat.le_trans (Nat.add_le_add_right (txt_len hok h8) 2) (by decide), ?_⟩
    rw [split_txt h1 hok]
    intro W hW
    have nLW : L ≠ W := fun z => by
      rw [z, upd_same] at hW
      cases hW
    have hW0 : H W = none := by
      rw [upd_ne nLW.symm] at hW
      exact hW
    have sL : Same H (upd (upd H L (.lst [])) W (.lst ((rs.map Rule.label).map V.str))) := Same.upd (same_new hL) hW0
    refine ⟨W, _, rfl, SqL.of upd_same, for_enumL (K := K) (a := W) (xs := (rs.map Rule.label).map V.str) (fun i σ H2 => ∃ (u v z : Option V) (as : List Addr), σ = [some (.ref (ChC K)), some (.str (txtOf rs)), some (.ref L), u, v, z] ∧ Same H H2 ∧ H2 L = some (.lst (as.map V.ref)) ∧ H2 W = some (.lst ((rs.map Rule.label).map V.str)) ∧ Cs K H2 as (rs.take i)) ?_ (fun i σ H2 ⟨_, _, _, _, _, _, _, hw, _⟩ => SqL.of hw) ?_ ?_⟩
    · exact ⟨none, none, none, [], rfl, sL, by rw [upd_ne nLW, upd_same]; rfl, upd_same, Cs.nil⟩
    · rintro i y T2 σ H2 hi ⟨u, v, z, as, rfl, s2, hL2, hW2, cs⟩ hT
      rw [List.map_map, List.getElem?_map] at hi
      cases hr0 : rs[i]? with
      | none =>
        rw [hr0] at hi
        cases hi
      | some r =>
        rw [hr0] at hi
        obtain rfl := Option.some.inj hi
        have hlt : i < rs.length := by
          rcases Nat.lt_or_ge i rs.length with q | q
          · exact q
          · rw [List.getElem?_eq_none q] at hr0
            cases hr0
        have nT : T2 ≠ L := fun e => by
          rw [e, hL2] at hT
          cases hT
        refine ⟨T2, _, rfl, SqT.of upd_same, rfl, _, _, rfl, _, _, rfl, rfl, ?_⟩
        refine ⟨_, rfl, r, rfl, hok r (List.mem_of_getElem? hr0), fun a H3 ha s3 ca => ?_⟩
        have s4 : Same H2 H3 := (same_new hT).trans s3
        refine ⟨_, rfl, _, rfl, _, _, _, _, rfl, C.rd, cm, rfl, _, rfl, iteD0 (fun e => by have e2 := V.int.inj e; omega) ?_⟩
        refine ⟨_, rfl, rfl, _, rfl, iteF ?_⟩
        have hL3 : H3 L = some (.lst (as.map V.ref)) := s4 _ _ hL2
        refine ⟨_, rfl, .inl ⟨rfl, _, SqL.of hL3⟩, _, rfl, _, _, _, rfl, rfl, hL3, ?_, ?_⟩
        · rw [List.length_map, cs.1, List.length_take]
          exact Nat.lt_of_le_of_lt (show min i rs.length ≤ 8 by omega) (by decide)
        · refine ⟨_, _, _, as ++ [a], rfl, ?_, ?_, ?_, ?_⟩
          · exact fun b o hb => by
              rw [upd_ne (ne_of_none hb hL)]
              exact s4 _ _ (s2 _ _ hb)
          · rw [upd_same, List.map_append]
            rfl
          · rw [upd_ne nLW.symm]
            exact s4 _ _ hW2
          · rw [take_more hr0]
            exact ((cs.same s4).fr hL3 Fr1.at).snoc (ca.fr hL3 Fr1.at)
    · rintro σ H2 ⟨u, v, z, as, rfl, s2, hL2, hW2, cs⟩
      rw [List.length_map, List.length_map, List.take_length] at cs
      refine ⟨_, rfl, rfl, _, rfl, L, _, rfl, .inr (SqL.of hL2), fun x dx a1 a2 a3 => ?_⟩
      exact made_chain a1 a2 cs h1 h8 fun x' H3 hx s3 ch => q x' H3 (s2.free hx) (s2.trans s3) ch
end
end SC
set_option maxRecDepth 100000
set_option maxHeartbeats 2000000
namespace SC
open PySem PySem.Spec PyProof.Rows L2 TL
section
variable {P : Program} {w : World} {K : PySem.W.Frag} {mg : Str → Option Value} {base : Heap}
theorem cells_look {t : Addr} : List.lookup ("cells" : Str) [(("cells" : Str), V.ref t)] = some (V.ref t) := by simp [List.lookup]
def nmText : List Str := ["self", "cell"]
theorem sc_text : FnScope nmText ["self"] (defScope s_Chain_text) := ⟨rfl, rfl, rfl, by decide +kernel, rfl, by decide +kernel, by decide +kernel⟩
theorem ok_text {f : Addr} {fd : FuncData} (F : Fun K "text" "Chain.text" s_Chain_text f fd) (T : Cells K mg) (C : Chains K mg) (L : LabelsOk P w K mg base 1) : FnOk P w K mg base CX0 3 f fd ["self"] (spText K) := by
  refine F.ok sc_text (fun vs H Q E h => ?_) (fun cdv A outer s H vs Q E hr h => ?_)
  · obtain ⟨c, rs, rfl, _⟩ := h
    rfl
  · obtain ⟨c, rs, rfl, ⟨dx, t, as, hc, ht, cs, h1, h8⟩, q⟩ := h
    refine ⟨_, pss_one (ps_ret (pe_bm PySem.F.plainAttrs_str PySem.F.slot_str_join PySem.F.type_str_join mt_join pe_str (pa_cons
      (pe_lc (own := [("cell", 1)]) (g := gName 1) (by rfl) sc_text.nd (pi_tup (pe_fld (pv 0) rfl)) (blkOk_by (own := [("cell", 1)]) (N := nmText) (sc := defScope s_Chain_text) (by decide +kernel))
        (fun _ _ _ _ _ => pg_name (i := 1) sc_text.nd rfl (.inl rfl)) (fun _ _ _ _ _ => pts_nil) (fun _ _ _ _ _ => peC (tLabel K (tVar 1)) (pe_label (n := 1) T L hr (pv 1)))) pa_nil))), ?_⟩
    refine ⟨rfl, _, rfl, c, _, dx, _, _, rfl, hc, C.cls, C.noC, cells_look, t, rfl, ⟨_, SqT.of ht⟩, fun D hD => ?_⟩
    refine lc_tup (K := K) (a := t) (xs := as.map V.ref) (fun i H3 => H3 = upd H D (.lst (((rs.take i).map Rule.label).map V.str))) rfl ?_ ?_ ?_
    · rintro i H3 _ rfl
      exact SqT.of (same_new hD _ _ ht)
    · rintro i y H3 hi rfl
      obtain ⟨a, hai, rfl⟩ := map_ref_at hi
      obtain ⟨r, hri, ca⟩ := cs.at hai
      refine ⟨rfl, ?_⟩
      refine ⟨_, rfl, a, r, rfl, ca.same (same_new hD), _, upd_same, ?_, ?_⟩
      · rw [List.length_map, List.length_map, List.length_take]
        exact Nat.lt_of_le_of_lt (show min i rs.length ≤ 8 by omega) (by decide)
      · rw [upd_upd, take_more hri, List.map_append, List.map_append]
        rfl
    · rintro H3 rfl
      rw [List.length_map, cs.1, List.take_length]
      refine ⟨_, D, rs.map Rule.label, rfl, rfl, .inl (SqL.of upd_same), ?_, q _ (same_new hD)⟩
      have l := labels_sum cs.ok
      have lo : (" " : Str).length = 1 := by decide +kernel
      rw [List.length_map, lo]
      omega
def nmSelf : List Str := ["self"]
theorem sc_empty : FnScope nmSelf ["self"] (defScope s_Chain_empty) := ⟨rfl, rfl, rfl, by decide +kernel, rfl, by decide +kernel, by decide +kernel⟩
theorem nones_ov (n : Nat) : (nones n).map ov = List.replicate n V.non := by
  unfold nones
  rw [List.map_replicate]
  rfl
theorem ok_empty {f : Addr} {fd : FuncData} (F : Fun K "empty" "Chain.empty" s_Chain_empty f fd) (B : Bln mg) (C : Chains K mg) : FnOk P w K mg base CX0 1 f fd ["self"] (spEmpty K) := by
  refine F.ok sc_empty (fun vs H Q E h => ?_) (fun cdv A outer s H vs Q E hr h => ?_)
  · obtain ⟨c, rs, rfl, _⟩ := h
    rfl
  · obtain ⟨c, rs, rfl, ⟨dx, t, as, hc, ht, cs, h1, h8⟩, q⟩ := h
    refine ⟨_, pss_one (ps_ret (pe_op op_repN (pe_tup (pa_cons pe_non pa_nil)) (pe_callB call_len_seq (by rfl) B.len boot_len' (pa_cons (pe_fld (pv 0) rfl) pa_nil)))), ?_⟩
    refine ⟨(by show 1 ≤ sizeLine; decide), fun l hl => ?_⟩
    have s1 : Same H (upd H l (.tup [.non])) := same_new hl
    refine ⟨_, rfl, c, _, dx, _, _, rfl, s1 _ _ hc, C.cls, C.noC, cells_look, t, _, rfl, .inr (SqT.of (s1 _ _ ht)), ?_⟩
    refine ⟨l, _, .non, rfl, rfl, upd_same, ?_, ?_, fun p H' s2 hp hpl => ?_⟩
    · rw [List.length_map, cs.1]
      omega
    · rw [List.length_map, cs.1]
      omega
    · have hp0 : H p = none := by
        rcases hpl with rfl | z
        · exact hl
        · exact s1.free z
      refine q p H' hp0 (s1.trans s2) ?_
      rw [hp, nones_ov, List.length_map, cs.1]
      rfl
end
end SC
set_option maxRecDepth 100000
set_option maxHeartbeats 2000000
namespace SC
open PySem PySem.Spec PyProof.Rows L2 TL
section
variable {P : Program} {w : World} {K : PySem.W.Frag} {mg : Str → Option Value} {base : Heap}
theorem map_ov_at {hs : List (Option Int)} {i : Nat} {y : V} (h : (hs.map ov)[i]? = some y) : ∃ z, hs[i]? = some z ∧ y = ov z := by
  rw [List.getElem?_map] at h
  cases e : hs[i]? with
  | none =>
    rw [e] at h
    cases h
  | some z =>
    rw [e] at h
    exact ⟨z, rfl, (Option.some.inj h).symm⟩
theorem step_take {rs : List Rule} {hs : List (Option Int)} {c : Option Int} {i : Nat} {r : Rule} {z : Option Int} (e : hs.length = rs.length) (hr : rs[i]? = some r) (hz : hs[i]? = some z) :
    stepR (rs.take (i + 1)) (hs.take (i + 1)) c = ((stepR (rs.take i) (hs.take i) c).1 ++ (stepR [r] [z] (stepR (rs.take i) (hs.take i) c).2).1, (stepR [r] [z] (stepR (rs.take i) (hs.take i) c).2).2) := by
  rw [take_more hr, take_more hz, step_app]
  rw [List.length_take, List.length_take, e]
/-- a cell that holds a number gets one -/
theorem step_gets {rs : List Rule} {hs : List (Option Int)} {n : Int} {i : Nat} {h : Int} (f : Fill hs) (e : hs.length = rs.length) (hz : hs[i]? = some (some h)) : ∃ d, (stepR (rs.take i) (hs.take i) (some n)).2 = some d := by
  obtain ⟨xs, m, rfl⟩ := f
  rw [List.length_append, List.length_map] at e
  have hi : i < xs.length := by
    rcases Nat.lt_or_ge i xs.length with q | q
    · exact q
    · rw [List.getElem?_append_right (by rw [List.length_map]; exact q)] at hz
      have := List.mem_of_getElem? hz
      unfold nones at this
      rw [List.mem_replicate] at this
      cases this.2
  rw [List.take_append_of_le_length (by rw [List.length_map]; omega), ← List.map_take]
  obtain ⟨ys, d, e1, _⟩ := step_full (rs.take i) (xs.take i) n (by rw [List.length_take, List.length_take]; omega)
  exact ⟨d, by rw [e1]⟩
def nmStep : List Str := ["self", "held", "came", "kept", "passed", "cell", "own", "keeps"]
theorem sc_step : FnScope nmStep ["self", "held", "came"] (defScope s_Chain_step) := ⟨rfl, rfl, rfl, by decide +kernel, rfl, by decide +kernel, by decide +kernel⟩
theorem ok_step {f : Addr} {fd : FuncData} {n : Nat} (F : Fun K "step" "Chain.step" s_Chain_step f fd) (B : Bln mg) (hzip : mg "zip" = none) (T : CellsOk P w K mg base n) (C : Chains K mg) : FnOk P w K mg base CX0 (n + 1) f fd ["self", "held", "came"] (spStep K) := by
  refine F.ok sc_step (fun vs H Q E h => ?_) (fun cdv A outer s H vs Q E hr h => ?_)
  · obtain ⟨c, h, n, rs, hs, rfl, _⟩ := h
    rfl
  · obtain ⟨c, h, m, rs, hs, rfl, ch, hh, hl, hf, q⟩ := h
    obtain ⟨dx, t, as, hc, ht, cs, h1, h8⟩ := id ch
    refine ⟨_, pss_cons (ps_set (i := 3) sc_step.nd rfl (.inl rfl) (pe_lst pa_nil))
      (pss_cons (ps_set (i := 4) sc_step.nd rfl (.inl rfl) (pv 2))
      (pss_cons (ps_for PassesOwn.never rfl (RZ.pi_zipA (by rfl) hzip (pa_cons (pe_fld (pv 0) rfl) (pa_cons (pv 1) pa_nil))) (pg_tup rfl (pgs_cons (pg_name (i := 5) sc_step.nd rfl (.inl rfl)) (pgs_cons (pg_name (i := 6) sc_step.nd rfl (.inl rfl)) pgs_nil)))
        (pss_cons (ps_if (pt_cmpR op_isN (pv 6) pe_non (nomark _))
          (pss_one (ps_par (i := 7) (j := 4) (by rfl) sc_step.nd rfl rfl (by decide) rfl rfl (pa_cons (pv 4) (pa_cons pe_non pa_nil)) (by rfl)))
          (pss_one (ps_asg (pe_cellCall (pv 5) T hr (pa_cons (pv 6) (pa_cons (pv 4) pa_nil))) (pg_tup rfl (pgs_cons (pg_name (i := 7) sc_step.nd rfl (.inl rfl)) (pgs_cons (pg_name (i := 4) sc_step.nd rfl (.inl rfl)) pgs_nil))))))
        (pss_one (ps_expr (pe_bm PySem.F.plainAttrs_list PySem.F.slot_list_append PySem.F.type_list_append mt_append (pv 3) (pa_cons (pv 7) pa_nil))))))
      (pss_one (ps_ret (pe_tup (pa_cons (pe_callTy call_tuple_of (by rfl) B.tuple boot_tuple' (pa_cons (pv 3) pa_nil)) (pa_cons (pv 4) pa_nil))))))), ?_⟩
    refine ⟨(by show 0 ≤ sizeLine; exact Nat.zero_le _), fun L hL => ?_⟩
    refine ⟨_, rfl, ?_⟩
    have s1 : Same H (upd H L (.lst [])) := same_new hL
    refine ⟨_, rfl, c, _, dx, _, _, rfl, s1 _ _ hc, C.cls, C.noC, cells_look, _, rfl, t, h, _, _, rfl, .inr ⟨SqT.of (s1 _ _ ht), SqT.of (s1 _ _ hh), ?_⟩⟩
    refine RZ.for_zipT (K := K) (a := t) (b := h) (xs := as.map V.ref) (ys := hs.map ov) (by rw [List.length_map, List.length_map, cs.1, hl]) (fun i σ H2 => ∃ (u v z : Option V), σ = [some (.ref c), some (.ref h), some (.int m), some (.ref L), some (ov (stepR (rs.take i) (hs.take i) (some m)).2), u, v, z] ∧ Same H H2 ∧
      H2 L = some (.lst ((stepR (rs.take i) (hs.take i) (some m)).1.map ov))) ?_ (fun i σ H2 ⟨_, _, _, _, s2, _⟩ => ⟨SqT.of (s2 _ _ ht), SqT.of (s2 _ _ hh)⟩) ?_ ?_
    · refine ⟨none, none, none, rfl, s1, ?_⟩
      rw [upd_same]
      rfl
    · rintro i y1 y2 T2 σ H2 hi1 hi2 ⟨u, v, z, rfl, s2, hL2⟩ hT
      obtain ⟨a, hai, rfl⟩ := map_ref_at hi1
      obtain ⟨r, hri, ca⟩ := cs.at hai
      obtain ⟨o, hoi, rfl⟩ := map_ov_at hi2
      have st := step_take (c := some m) hl hri hoi
      have kl : (stepR (rs.take i) (hs.take i) (some m)).1.length < sizeLine := by
        rw [step_len, List.length_take]
        exact Nat.lt_of_le_of_lt (show min i hs.length ≤ 8 by omega) (by decide)
      have s3 : Same H2 (upd H2 T2 (.tup [.ref a, ov o])) := same_new hT
      have nT : T2 ≠ L := fun e => by
        rw [e, hL2] at hT
        cases hT
      refine ⟨T2, _, rfl, SqT.of upd_same, rfl, _, _, rfl, _, _, rfl, rfl, ?_⟩
      cases o with
      | none =>
        refine ⟨_, rfl, rfl, _, rfl, iteT ?_⟩
        refine ⟨_, rfl, _, _, rfl, ?_⟩
        refine ⟨_, rfl, .inl ⟨rfl, _, SqL.of (s3 _ _ hL2)⟩, _, rfl, _, _, _, rfl, rfl, s3 _ _ hL2, by rw [List.length_map]; exact kl, ?_⟩
        rw [step_cn] at st
        rw [st]
        refine ⟨_, _, _, rfl, fun b o hb => ?_, ?_⟩
        · rw [upd_ne (ne_of_none hb hL)]
          exact s3 _ _ (s2 _ _ hb)
        · rw [upd_same, List.map_append]
          rfl
      | some g =>
        obtain ⟨d, ed⟩ := step_gets (n := m) hf hl hoi
        rw [ed] at st ⊢
        refine ⟨_, rfl, rfl, _, rfl, iteF ?_⟩
        refine ⟨_, rfl, a, rfl, _, rfl, _, rfl, r, g, d, rfl, (ca.same s2).same s3, fun p hp => ?_⟩
        have hL4 : upd (upd H2 T2 (.tup [.ref a, ov (some g)])) p (.tup [.int (r.keep g d).1, .int (r.keep g d).2]) L = some (.lst ((stepR (rs.take i) (hs.take i) (some m)).1.map ov)) := same_new hp _ _ (s3 _ _ hL2)
        refine ⟨p, _, rfl, SqT.of upd_same, rfl, _, _, rfl, _, _, rfl, rfl, ?_⟩
        refine ⟨_, rfl, .inl ⟨rfl, _, SqL.of hL4⟩, _, rfl, _, _, _, rfl, rfl, hL4, by rw [List.length_map]; exact kl, ?_⟩
        rw [step_cs, step_nil] at st
        rw [st]
        refine ⟨_, _, _, rfl, fun b o hb => ?_, ?_⟩
        · rw [upd_ne (ne_of_none hb hL)]
          exact same_new hp _ _ (s3 _ _ (s2 _ _ hb))
        · rw [upd_same, List.map_append]
          rfl
    · rintro σ H2 ⟨u, v, z, rfl, s2, hL2⟩
      have e1 : rs.take (as.map V.ref).length = rs := by
        rw [List.length_map, cs.1, List.take_length]
      have e2 : hs.take (as.map V.ref).length = hs := by
        rw [List.length_map, cs.1, ← hl, List.take_length]
      rw [e1, e2] at hL2 ⊢
      refine ⟨_, rfl, L, _, rfl, .inl ⟨SqL.of hL2, fun k hk => ?_⟩⟩
      refine ⟨_, rfl, (by show 2 ≤ sizeLine; decide), fun p hp => ?_⟩
      have sk : Same H2 (upd H2 k (.tup ((stepR rs hs (some m)).1.map ov))) := same_new hk
      have npk : p ≠ k := fun e => by
        rw [e, upd_same] at hp
        cases hp
      refine q p k _ ((s2.trans sk).free hp) (s2.free hk) npk ((s2.trans sk).trans (same_new hp)) upd_same ?_
      rw [upd_ne npk.symm, upd_same]
theorem step_look {t : Addr} : List.lookup ("step" : Str) [(("cells" : Str), V.ref t)] = none := by
  have hk : (("step" : Str) == "cells") = false := by decide +kernel
  simp [List.lookup, hk]
def nmCall : List Str := ["self", "row", "held", "outs", "number", "out"]
theorem sc_ccall : FnScope nmCall ["self", "row"] (defScope s_Chain_call) := ⟨rfl, rfl, rfl, by decide +kernel, rfl, by decide +kernel, by decide +kernel⟩
theorem run_take {rs : List Rule} {hs : List (Option Int)} {ns : List Int} {i : Nat} {z : Int} (h : ns[i]? = some z) :
    runR rs hs (ns.take (i + 1)) = ((runR rs hs (ns.take i)).1 ++ [(stepR rs (runR rs hs (ns.take i)).2 (some z)).2], (stepR rs (runR rs hs (ns.take i)).2 (some z)).1) := by
  rw [take_more h, run_app]
  rfl
theorem run_fill {rs : List Rule} : ∀ {ns : List Int} {hs : List (Option Int)}, Fill hs → hs.length = rs.length → Fill (runR rs hs ns).2
  | [], _, f, _ => f
  | n :: ns, hs, f, e => run_fill (ns := ns) (step_fill (c := n) f e) (by rw [step_len]; exact e)
theorem ok_ccall {f g : Addr} {fd gd sd ed : FuncData} {n : Nat} (F : Fun K "__call__" "Chain.__call__" s_Chain_call f fd) (C : Chains K mg) (h6 : 3 ≤ n) (G : FnOk P w K mg base CX0 3 g gd ["row", "longest"] (spCheck K)) (bG : Binds K gd ["row", "longest"] []) (kG : PySem.W.keepIn K (.ref g) = true) (hg : mg "check_row" = some (.ref g))
    {t1 : Tok} (hL : mg "LONGEST_ROW" = some (.int 1000 t1)) (S : FnOk P w K mg base CX0 n (He.ma K (ChC K) "step") sd ["self", "held", "came"] (spStep K)) (bS : Binds K sd ["self", "held", "came"] []) (Em : FnOk P w K mg base CX0 1 (pgA K "Chain" "empty") ed ["self"] (spEmpty K)) (bE : Binds K ed ["self"] []) :
    FnOk P w K mg base CX0 (n + 1) f fd ["self", "row"] (spChCall K) := by
  refine F.ok sc_ccall (fun vs H Q E h => ?_) (fun cdv A outer s H vs Q E hr h => ?_)
  · obtain ⟨c, a, rs, ns, rfl, _⟩ := h
    rfl
  · obtain ⟨c, a, rs, ns, rfl, ch, ha, hl, hz, q⟩ := h
    obtain ⟨dx, t, as, hc, ht, cs, h1, h8⟩ := id ch
    refine ⟨_, pss_cons (ps_expr (pe_call (G.mono h6) hr (by rfl) hg kG bG .nil pass0 (pa_cons (pv 1) (pa_cons (pe_glob (v := .int 1000) (by rfl) hL ⟨_, rfl⟩) pa_nil))))
      (pss_cons (ps_set (i := 2) sc_ccall.nd rfl (.inl rfl) (pe_prop (pv 0) C.cls C.empty (Em.mono (show 1 ≤ n - 1 by omega)) (hr.mono (by omega)) bE .nil pass0 rfl))
      (pss_cons (ps_set (i := 3) sc_ccall.nd rfl (.inl rfl) (pe_lst pa_nil))
      (pss_cons (ps_for PassesOwn.never rfl (pi_list (pv 1)) (pg_name (i := 4) sc_ccall.nd rfl (.inl rfl))
        (pss_cons (ps_asg (pe_meth (pv 0) C.cls C.step S hr bS .nil pass0 (pa_cons (pv 2) (pa_cons (pv 4) pa_nil))) (pg_tup rfl (pgs_cons (pg_name (i := 2) sc_ccall.nd rfl (.inl rfl)) (pgs_cons (pg_name (i := 5) sc_ccall.nd rfl (.inl rfl)) pgs_nil))))
        (pss_one (ps_expr (pe_bm PySem.F.plainAttrs_list PySem.F.slot_list_append PySem.F.type_list_append mt_append (pv 3) (pa_cons (pv 5) pa_nil))))))
      (pss_one (ps_ret (pe_tup (pa_cons (pv 3) (pa_cons (pv 2) pa_nil)))))))), ?_⟩
    refine ⟨_, rfl, a, ns, 1000, rfl, ha, by omega, hz, fun H1 s1 => ?_⟩
    refine ⟨_, rfl, c, dx, _, rfl, s1 _ _ hc, c, rs, rfl, ch.same s1, fun p0 H2 hp0 s2 h2 => ?_⟩
    have s12 : Same H H2 := s1.trans s2
    refine ⟨(by show 0 ≤ sizeLine; exact Nat.zero_le _), fun L hL2 => ?_⟩
    have hL0 : H L = none := s12.free hL2
    have s3 : Same H (upd H2 L (.lst [])) := s12.trans (same_new hL2)
    have n0 : p0 ≠ L := fun e => by
      rw [← e, h2] at hL2
      cases hL2
    refine ⟨_, rfl, a, rfl, ⟨_, SqL.of (s3 _ _ ha)⟩, for_list (K := K) (a := a) (xs := ns.map V.int) (fun i σ H3 => ∃ (u v : Option V) (hd : Addr), σ = [some (.ref c), some (.ref a), some (.ref hd), some (.ref L), u, v] ∧ Same H H3 ∧ H hd = none ∧ hd ≠ L ∧
      H3 hd = some (.tup ((runR rs (nones rs.length) (ns.take i)).2.map ov)) ∧ H3 L = some (.lst ((runR rs (nones rs.length) (ns.take i)).1.map ov))) ?_ (fun i σ H3 _ ⟨_, _, _, _, s, _⟩ => SqL.of (s _ _ ha)) ?_ ?_⟩
    · exact ⟨none, none, p0, rfl, s3, s1.free hp0, n0, by rw [upd_ne n0]; exact h2, by rw [upd_same]; rfl⟩
    · rintro i y σ H3 hi ⟨u, v, hd, rfl, s4, hd0, nd, hh, hL3⟩
      obtain ⟨z, hzi, rfl⟩ := map_int_at hi
      have rl := run_len rs (ns.take i) (nones rs.length)
      have ff := run_fill (rs := rs) (ns := ns.take i) (fill_nones rs.length) (nones_len _)
      have rt := run_take (rs := rs) (hs := nones rs.length) hzi
      refine ⟨_, rfl, c, dx, _, rfl, s4 _ _ hc, step_look, _, rfl, _, rfl, c, hd, z, rs, _, rfl, ch.same s4, hh, by rw [rl.2, nones_len], ff, fun p k H5 hp hk npk s5 e1 e2 => ?_⟩
      have hL5 := s5 _ _ hL3
      refine ⟨p, _, rfl, SqT.of e1, rfl, _, _, rfl, _, _, rfl, rfl, ?_⟩
      refine ⟨_, rfl, .inl ⟨rfl, _, SqL.of hL5⟩, _, rfl, _, _, _, rfl, rfl, hL5, ?_, ?_⟩
      · rw [List.length_map, rl.1, List.length_take]
        exact Nat.lt_of_le_of_lt (show min i ns.length ≤ 1000 by omega) (by decide)
      · have nkL : k ≠ L := fun e => by
          rw [e, hL3] at hk
          cases hk
        rw [rt]
        refine ⟨_, _, k, rfl, fun b o hb => ?_, s4.free hk, nkL, by rw [upd_ne nkL]; exact e2, ?_⟩
        · rw [upd_ne (ne_of_none hb hL0)]
          exact s5 _ _ (s4 _ _ hb)
        · rw [upd_same, List.map_append]
          rfl
    · rintro σ H3 ⟨u, v, hd, rfl, s4, hd0, nd, hh, hL3⟩
      rw [List.length_map, List.take_length] at hh hL3
      refine ⟨_, rfl, _, rfl, (by show 2 ≤ sizeLine; decide), fun p hp => ?_⟩
      have npL : L ≠ p := ne_of_none hL3 hp
      have nph : hd ≠ p := ne_of_none hh hp
      exact q p L hd _ (s4.free hp) hL0 hd0 (s4.trans (same_new hp)) upd_same (by rw [upd_ne npL]; exact hL3) (by rw [upd_ne nph]; exact hh)
end
end SC
set_option maxRecDepth 100000
set_option maxHeartbeats 2000000
namespace SC
open PySem PySem.Spec PyProof.Rows L2 TL
section
variable {P : Program} {w : World} {K : PySem.W.Frag} {mg : Str → Option Value} {base : Heap}
theorem sc_clen : FnScope nmSelf ["self"] (defScope s_Chain_len) := ⟨rfl, rfl, rfl, by decide +kernel, rfl, by decide +kernel, by decide +kernel⟩
theorem ok_clen {f : Addr} {fd : FuncData} (F : Fun K "__len__" "Chain.__len__" s_Chain_len f fd) (B : Bln mg) (C : Chains K mg) : FnOk P w K mg base CX0 1 f fd ["self"] (spLen K) := by
  refine F.ok sc_clen (fun vs H Q E h => ?_) (fun cdv A outer s H vs Q E hr h => ?_)
  · obtain ⟨c, rs, rfl, _⟩ := h
    rfl
  · obtain ⟨c, rs, rfl, ⟨dx, t, as, hc, ht, cs, h1, h8⟩, q⟩ := h
    refine ⟨_, pss_one (ps_ret (pe_callB call_len_seq (by rfl) B.len boot_len' (pa_cons (pe_fld (pv 0) rfl) pa_nil))), ?_⟩
    refine ⟨_, rfl, c, _, dx, _, _, rfl, hc, C.cls, C.noC, cells_look, t, _, rfl, .inr (SqT.of ht), ?_⟩
    rw [List.length_map, cs.1]
    exact q
theorem sc_checkidx : FnScope ["index", "many"] ["index", "many"] (defScope s_check_index) := ⟨rfl, rfl, rfl, by decide +kernel, rfl, by decide +kernel, by decide +kernel⟩
theorem ok_checkidx {f g : Addr} {fd gd : FuncData} (F : Fun K "check_index" "check_index" s_check_index f fd) (G : FnOk P w K mg base CX0 1 g gd ["value", "least", "most"] (spWithin K)) (bG : Binds K gd ["value", "least", "most"] []) (kG : PySem.W.keepIn K (.ref g) = true) (hg : mg "is_within" = some (.ref g)) (X : Err0 K mg "UnknownCell") :
    FnOk P w K mg base (L2.CX P w) 2 f fd ["index", "many"] (spCheckIdx K) := by
  refine F.okX sc_checkidx (fun vs H Q E h => ?_) (fun cdv A outer s H vs Q E hr h => ?_)
  · obtain ⟨v, n, rfl, _⟩ := h
    rfl
  · obtain ⟨v, n, rfl, h⟩ := h
    refine ⟨_, pss_one (ps_if (pt_not (pt_val (pe_call G hr (by rfl) hg kG bG .nil pass0 (pa_cons (pv 0) (pa_cons pe_int (pa_cons (pe_op op_sub (pv 1) pe_int) pa_nil)))))) (pss_one (ps_raise rfl (takes_of rfl rfl rfl rfl) (pmk_own PySem.F.excBase_ValueError X.ex X.gl X.kp (raises_own X.sb X.ty) (by exact rfl)))) pss_nil), ?_⟩
    refine ⟨_, rfl, _, rfl, _, _, rfl, rfl, ?_⟩
    rcases h with ⟨i, rfl, q1, q2⟩ | ⟨T0, hT, ty, q⟩
    · refine ⟨_, _, _, rfl, .inl ⟨i, rfl, _, rfl, ?_⟩⟩
      by_cases hn : 0 ≤ i ∧ i < n
      · have e : (decide ((0 : Int) ≤ i) && decide (i ≤ n - 1)) = true := by
          simp
          omega
        rw [e]
        exact iteF (q1 hn)
      · have e : (decide ((0 : Int) ≤ i) && decide (i ≤ n - 1)) = false := by
          simp
          omega
        rw [e]
        exact iteT (q2 hn)
    · exact ⟨_, _, _, rfl, .inr ⟨T0, hT, ty, _, rfl, iteT q⟩⟩
def nmItem : List Str := ["self", "index"]
theorem sc_citem : FnScope nmItem ["self", "index"] (defScope s_Chain_getitem) := ⟨rfl, rfl, rfl, by decide +kernel, rfl, by decide +kernel, by decide +kernel⟩
theorem ok_citem {f g : Addr} {fd gd : FuncData} (F : Fun K "__getitem__" "Chain.__getitem__" s_Chain_getitem f fd) (B : Bln mg) (C : Chains K mg) (G : FnOk P w K mg base (L2.CX P w) 2 g gd ["index", "many"] (spCheckIdx K)) (bG : Binds K gd ["index", "many"] []) (kG : PySem.W.keepIn K (.ref g) = true) (hg : mg "check_index" = some (.ref g)) :
    FnOk P w K mg base CX0 3 f fd ["self", "index"] (spItem K) := by
  refine F.ok sc_citem (fun vs H Q E h => ?_) (fun cdv A outer s H vs Q E hr h => ?_)
  · obtain ⟨c, rs, i, r, rfl, _⟩ := h
    rfl
  · obtain ⟨c, rs, i, r, rfl, ⟨dx, t, as, hc, ht, cs, h1, h8⟩, hi, q⟩ := h
    refine ⟨_, pss_cons (ps_expr (pe_call G hr (by rfl) hg kG bG .nil passL (pa_cons (pv 1) (pa_cons (pe_callB call_len_seq (by rfl) B.len boot_len' (pa_cons (pe_fld (pv 0) rfl) pa_nil)) pa_nil))))
      (pss_one (ps_ret (pe_ix ix_tup (pe_fld (pv 0) rfl) (pv 1) (fun _ _ => rfl)))), ?_⟩
    have hlt : i < rs.length := by
      rcases Nat.lt_or_ge i rs.length with z | z
      · exact z
      · rw [List.getElem?_eq_none z] at hi
        cases hi
    have hla : i < as.length := by
      rw [cs.1]
      exact hlt
    refine ⟨_, rfl, _, rfl, c, _, dx, _, _, rfl, hc, C.cls, C.noC, cells_look, t, _, rfl, .inr (SqT.of ht), ?_⟩
    refine ⟨_, _, rfl, .inl ⟨(i : Int), rfl, fun _ => ?_, fun z => absurd ?_ z⟩⟩
    · have ha : as[i]? = some as[i] := List.getElem?_eq_getElem hla
      refine ⟨_, rfl, c, _, dx, _, _, rfl, hc, C.cls, C.noC, cells_look, _, rfl, t, _, (i : Int), .ref as[i], rfl, rfl, SqT.of ht, ?_, q _ (cs.2 i _ _ ha hi)⟩
      exact atI_nat (j := i) (by rw [List.getElem?_map, ha]; rfl)
    · rw [List.length_map]
      constructor <;> omega
def nmShift : List Str := ["self", "other", "cells"]
theorem sc_shift : FnScope nmShift ["self", "other"] (defScope s_Chain_rshift) := ⟨rfl, rfl, rfl, by decide +kernel, rfl, by decide +kernel, by decide +kernel⟩
theorem ok_shift {f : Addr} {fd : FuncData} (F : Fun K "__rshift__" "Chain.__rshift__" s_Chain_rshift f fd) (B : Bln mg) (C : Chains K mg) (I0 : FnR P w K mg base CX0 1 (He.ma K (ChC K) "__init__") (spInit K)) : FnOk P w K mg base CX0 3 f fd ["self", "other"] (spShift K) := by
  refine F.ok sc_shift (fun vs H Q E h => ?_) (fun cdv A outer s H vs Q E hr h => ?_)
  · obtain ⟨c, d, rs, qs, rfl, _⟩ := h
    rfl
  · obtain ⟨c, d, rs, qs, rfl, cc, cd, hl, q⟩ := h
    obtain ⟨dx, t, as, hc, ht, cs, h1, h8⟩ := id cc
    obtain ⟨dy, u, bs, hd, hu, ds, k1, k8⟩ := id cd
    refine ⟨_, pss_cons (ps_if (pt_not (pt_val (pe_callB call_isi (by rfl) B.isinstance boot_isinstance' (pa_cons (pv 1) (pa_cons (pe_glob (v := .ref (ChC K)) (by rfl) C.glo rfl) pa_nil))))) pss_never pss_nil)
      (pss_cons (ps_set (i := 2) sc_shift.nd rfl (.inl rfl) (pe_op op_catA (pe_fld (pv 0) rfl) (pe_fld (pv 1) rfl)))
      (pss_one (ps_ret (pe_makeS C.make I0 hr (by rfl) C.glo pass0 (pv 2))))), ?_⟩
    refine ⟨_, rfl, _, _, _, _, true, rfl, .own _, cd.ty C, C.kit, _, rfl, iteF ?_⟩
    have n1 : as.map V.ref ≠ [] := fun z => by
      have := congrArg List.length z
      rw [List.length_map, cs.1] at this
      simp at this
      rw [this] at h1
      simp at h1
    have n2 : bs.map V.ref ≠ [] := fun z => by
      have := congrArg List.length z
      rw [List.length_map, ds.1] at this
      simp at this
      rw [this] at k1
      simp at k1
    refine ⟨_, rfl, c, _, dx, _, _, rfl, hc, C.cls, C.noC, cells_look, _, rfl, d, _, dy, _, _, rfl, hd, C.cls, C.noC, cells_look, t, u, _, _, rfl, rfl, SqT.of ht, SqT.of hu, ?_, fun z => absurd z n1, fun _ z => absurd z n2, fun _ _ p hp => ?_⟩
    · rw [List.length_map, List.length_map, cs.1, ds.1]
      exact Nat.le_trans hl (by decide)
    · have s1 : Same H (upd H p (.tup (as.map V.ref ++ bs.map V.ref))) := same_new hp
      refine ⟨_, rfl, p, as.map V.ref ++ bs.map V.ref, rfl, .inl (SqT.of upd_same), fun x dz a1 a2 a3 => ?_⟩
      rw [← List.map_append]
      rw [← List.map_append] at s1 a1 a2
      exact made_chain a1 a2 ((cs.app ds).same s1) (by rw [List.length_append]; omega) (by rw [List.length_append]; exact hl) fun x' H3 hx s3 ch => q x' H3 (s1.free hx) (s1.trans s3) ch
def nmCneg : List Str := ["self", "cells", "cell"]
theorem sc_cneg : FnScope nmCneg ["self"] (defScope s_Chain_neg) := ⟨rfl, rfl, rfl, by decide +kernel, rfl, by decide +kernel, by decide +kernel⟩
theorem ok_cneg {f : Addr} {fd : FuncData} {n : Nat} (hn : 2 ≤ n) (F : Fun K "__neg__" "Chain.__neg__" s_Chain_neg f fd) (T : CellsOk P w K mg base n) (C : Chains K mg) (I0 : FnR P w K mg base CX0 1 (He.ma K (ChC K) "__init__") (spInit K)) : FnOk P w K mg base CX0 (n + 1) f fd ["self"] (spChNeg K) := by
  refine F.ok sc_cneg (fun vs H Q E h => ?_) (fun cdv A outer s H vs Q E hr h => ?_)
  · obtain ⟨c, rs, rfl, _⟩ := h
    rfl
  · obtain ⟨c, rs, rfl, ⟨dx, t, as, hc, ht, cs, h1, h8⟩, q⟩ := h
    refine ⟨_, pss_cons (ps_setLc (i := 1) (own := [("cell", 2)]) (g := gName 2) (by rfl) sc_cneg.nd rfl rfl (by rfl) (pi_tup (pe_fld (pv 0) rfl)) (blkOk_by (own := [("cell", 2)]) (N := nmCneg) (sc := defScope s_Chain_neg) (by decide +kernel))
        (fun _ _ _ _ _ => pg_name (i := 2) sc_cneg.nd rfl (.inl rfl)) (fun _ _ _ _ _ => pts_nil) (fun _ _ _ _ _ => peC (tUn (rNegCell K) (tVar 2)) (pe_un (un_negCell T hr) (pv 2))))
      (pss_one (ps_ret (pe_makeS C.make (I0.mono (show 1 ≤ n - 1 by omega)) (hr.mono (by omega)) (by rfl) C.glo pass0 (pv 1)))), ?_⟩
    refine ⟨_, rfl, c, _, dx, _, _, rfl, hc, C.cls, C.noC, cells_look, t, rfl, ⟨_, SqT.of ht⟩, fun D hD => ?_⟩
    refine lc_tup (K := K) (a := t) (xs := as.map V.ref) (fun i H3 => ∃ bs : List Addr, Same H H3 ∧ H3 D = some (.lst (bs.map V.ref)) ∧ Cs K H3 bs ((rs.take i).map Rule.neg)) ?_ ?_ ?_ ?_
    · exact ⟨[], same_new hD, by rw [upd_same]; rfl, Cs.nil⟩
    · rintro i H3 _ ⟨bs, s3, _⟩
      exact SqT.of (s3 _ _ ht)
    · rintro i y H3 hi ⟨bs, s3, hD3, ds⟩
      obtain ⟨a, hai, rfl⟩ := map_ref_at hi
      obtain ⟨r, hri, ca⟩ := cs.at hai
      refine ⟨rfl, ?_⟩
      refine ⟨_, rfl, a, r, rfl, ca.same s3, fun p H4 hp s4 cp => ?_⟩
      have hD4 := s4 _ _ hD3
      refine ⟨_, hD4, ?_, bs ++ [p], fun b o hb => ?_, ?_, ?_⟩
      · rw [List.length_map, ds.1, List.length_map, List.length_take]
        exact Nat.lt_of_le_of_lt (show min i rs.length ≤ 8 by omega) (by decide)
      · rw [upd_ne (ne_of_none hb hD)]
        exact s4 _ _ (s3 _ _ hb)
      · rw [upd_same, List.map_append]
        rfl
      · rw [take_more hri, List.map_append]
        exact ((ds.same s4).fr hD4 Fr1.at).snoc (cp.fr hD4 Fr1.at)
    · rintro H3 ⟨bs, s3, hD3, ds⟩
      rw [List.length_map, cs.1, List.take_length] at ds
      refine ⟨_, rfl, D, _, rfl, .inr (SqL.of hD3), fun x dz a1 a2 a3 => ?_⟩
      exact made_chain a1 a2 ds (by rw [List.length_map]; exact h1) (by rw [List.length_map]; exact h8) fun x' H4 hx s4 ch => q x' H4 (s3.free hx) (s3.trans s4) ch
def nmCeq : List Str := ["self", "other"]
theorem sc_ceq : FnScope nmCeq ["self", "other"] (defScope s_Chain_eq) := ⟨rfl, rfl, rfl, by decide +kernel, rfl, by decide +kernel, by decide +kernel⟩
theorem ok_ceq {f : Addr} {fd : FuncData} {n : Nat} (F : Fun K "__eq__" "Chain.__eq__" s_Chain_eq f fd) (B : Bln mg) (T : CellsOk P w K mg base n) (C : Chains K mg) : FnOk P w K mg base CX0 (n + 2) f fd ["self", "other"] (spChEq K) := by
  refine F.ok sc_ceq (fun vs H Q E h => ?_) (fun cdv A outer s H vs Q E hr h => ?_)
  · obtain ⟨c, d, rs, qs, rfl, _⟩ := h
    rfl
  · obtain ⟨c, d, rs, qs, rfl, cc, cd, q⟩ := h
    obtain ⟨dx, t, as, hc, ht, cs, h1, h8⟩ := id cc
    obtain ⟨dy, u, bs, hd, hu, ds, k1, k8⟩ := id cd
    refine ⟨_, pss_one (ps_ret (pe_and (pe_callB call_isi (by rfl) B.isinstance boot_isinstance' (pa_cons (pv 1) (pa_cons (pe_glob (v := .ref (ChC K)) (by rfl) C.glo rfl) pa_nil)))
      (pe_one (pe_cmpR (op_eqTC T hr) (pe_fld (pv 0) rfl) (pe_fld (pv 1) rfl) (nomark _))))), ?_⟩
    refine ⟨_, rfl, _, _, _, _, true, rfl, .own _, cd.ty C, C.kit, _, rfl, iteT ?_⟩
    exact ⟨_, rfl, c, _, dx, _, _, rfl, hc, C.cls, C.noC, cells_look, _, rfl, d, _, dy, _, _, rfl, hd, C.cls, C.noC, cells_look, t, u, as, bs, rs, qs, rfl, rfl, ht, hu, cs, ds, q⟩
end
end SC
set_option maxRecDepth 100000
set_option maxHeartbeats 2000000
namespace SC
open PySem PySem.Spec PyProof.Rows L2 TL
section
variable {P : Program} {w : World} {K : PySem.W.Frag} {mg : Str → Option Value} {base : Heap}
theorem sc_chainof : FnScope ["_law_labels_here"] ["_law_labels_here"] (defScope s__law_chain) := ⟨rfl, rfl, rfl, by decide +kernel, rfl, by decide +kernel, by decide +kernel⟩
theorem ok_chainof {f : Addr} {fd : FuncData} {n : Nat} (F : Fun K "_law_chain" "_law_chain" s__law_chain f fd) (C : ChainOk P w K mg base n) (CP : FnR P w K mg base CX0 n (cgA K "Chain" "parse") (spParse K)) : FnOk P w K mg base CX0 (n + 1) f fd ["_law_labels_here"] (spChainOf K) := by
  refine F.ok sc_chainof (fun vs H Q E h => ?_) (fun cdv A outer s H vs Q E hr h => ?_)
  · obtain ⟨p, rs, rfl, _⟩ := h
    rfl
  · obtain ⟨p, rs, rfl, hp, hok, h1, h8, q⟩ := h
    refine ⟨_, pss_one (ps_ret (ClX.pe_cmeth (pe_glob (v := .ref (ChC K)) (by rfl) C.t.glo rfl) C.t.rd C.t.par CP hr pass0 (pa_cons (pe_bm PySem.F.plainAttrs_str PySem.F.slot_str_join PySem.F.type_str_join mt_join pe_str (pa_cons (pv 0) pa_nil)) pa_nil))), ?_⟩
    refine ⟨rfl, rfl, _, rfl, _, p, rs.map Rule.label, rfl, rfl, .inl (SqL.of hp), ?_, rs, rfl, hok, h1, h8, q⟩
    have l := labels_sum hok
    have lo : (" " : Str).length = 1 := by decide +kernel
    rw [List.length_map, lo]
    omega
end
end SC
set_option maxRecDepth 100000
set_option maxHeartbeats 2000000
namespace SC
open PySem PySem.Spec PyProof.Rows L2 TL
section
variable {P : Program} {w : World} {K : PySem.W.Frag} {mg : Str → Option Value} {base : Heap}
/-- the five labels to choose from -/
def kindVs (m : Int) : List V := [.str "first", .str "last", .str "less", .str "greater", .str (("near:" : Str) ++ numS m)]
theorem kind_at {m k : Int} (hm : numOk m) (k0 : 0 ≤ k) (k5 : k < 5) : ∃ r : Rule, atI (kindVs m) k = some (.str r.label) ∧ r.ok := by
  have : k = 0 ∨ k = 1 ∨ k = 2 ∨ k = 3 ∨ k = 4 := by omega
  rcases this with rfl | rfl | rfl | rfl | rfl
  · exact ⟨.first, rfl, trivial⟩
  · exact ⟨.last, rfl, trivial⟩
  · exact ⟨.less, rfl, trivial⟩
  · exact ⟨.greater, rfl, trivial⟩
  · exact ⟨.near m, rfl, hm⟩
def nmLab : List Str := ["_law_d", "_law_most", "_law_found", "_law_k", "_law_mark", "_law_kind"]
theorem sc_lab : FnScope nmLab ["_law_d", "_law_most"] (defScope s__law_labels) := ⟨rfl, rfl, rfl, by decide +kernel, rfl, by decide +kernel, by decide +kernel⟩
theorem ok_labels {f g : Addr} {fd gd : FuncData} (F : Fun K "_law_labels" "_law_labels" s__law_labels f fd) (B : Bln mg) (G : FnOk P w K mg base CX0 1 g gd ["_law_d", "_law_limit"] spBelow) (bG : Binds K gd ["_law_d", "_law_limit"] []) (kG : PySem.W.keepIn K (.ref g) = true) (hg : mg "_law_below" = some (.ref g)) :
    FnOk P w K mg base CX0 2 f fd ["_law_d", "_law_most"] spLabels := by
  refine F.ok sc_lab (fun vs H Q E h => ?_) (fun cdv A outer s H vs Q E hr h => ?_)
  · obtain ⟨d, M, ds, rfl, _⟩ := h
    rfl
  · obtain ⟨d, M, ds, rfl, hM0, hM, hd, hD, q⟩ := h
    refine ⟨_, pss_cons (ps_set (i := 2) sc_lab.nd rfl (.inl rfl) (pe_lst pa_nil))
      (pss_cons (ps_for PassesOwn.never rfl (pi_range1 (by rfl) B.range (pa_cons (pe_op op_add pe_int (pe_call G hr (by rfl) hg kG bG .nil pass0 (pa_cons (pv 0) (pa_cons (pv 1) pa_nil)))) pa_nil)) (pg_name (i := 3) sc_lab.nd rfl (.inl rfl))
        (pss_cons (ps_set (i := 4) sc_lab.nd rfl (.inl rfl) (pe_call G hr (by rfl) hg kG bG .nil pass0 (pa_cons (pv 0) (pa_cons (pe_ix ix_list (pe_lst (pa_cons pe_int (pa_cons pe_int (pa_cons (pe_op op_add (pe_op op_mul pe_int (pe_op op_pow pe_int pe_int)) pe_int) pa_nil)))) (pe_call G hr (by rfl) hg kG bG .nil pass0 (pa_cons (pv 0) (pa_cons pe_int pa_nil))) (fun _ _ => rfl)) pa_nil))))
        (pss_cons (ps_set (i := 4) sc_lab.nd rfl (.inl rfl) (pe_callTy call_str_int (by rfl) B.str boot_str' (pa_cons (pe_ifExp (pt_cmpR op_le (pv 4) (pe_op op_pow pe_int pe_int) (nomark _))
            (pe_ix ix_list (pe_lst (pa_cons (pv 4) (pa_cons (pe_op op_sub pe_int (pv 4)) pa_nil))) (pe_call G hr (by rfl) hg kG bG .nil pass0 (pa_cons (pv 0) (pa_cons pe_int pa_nil))) (fun _ _ => rfl)) (pe_op op_sub (pv 4) (pe_op op_pow pe_int pe_int))) pa_nil)))
        (pss_cons (ps_set (i := 5) sc_lab.nd rfl (.inl rfl) (pe_ix ix_list (pe_lst (pa_cons pe_str (pa_cons pe_str (pa_cons pe_str (pa_cons pe_str (pa_cons (pe_op op_add_str pe_str (pv 4)) pa_nil)))))) (pe_call G hr (by rfl) hg kG bG .nil pass0 (pa_cons (pv 0) (pa_cons pe_int pa_nil))) (fun _ _ => rfl)))
          (pss_one (ps_expr (pe_bm PySem.F.plainAttrs_list PySem.F.slot_list_append PySem.F.type_list_append mt_append (pv 2) (pa_cons (pv 5) pa_nil))))))))
      (pss_one (ps_ret (pv 2)))), ?_⟩
    refine ⟨(by show 0 ≤ sizeLine; exact Nat.zero_le _), fun L hL => ?_⟩
    have ndL : d ≠ L := ne_of_none hd hL
    refine ⟨_, rfl, _, rfl, d, M, ds, rfl, hM0, by omega, by rw [upd_ne ndL]; exact hd, hD, fun n ds1 n0 nM hD1 => ?_⟩
    refine ⟨_, _, rfl, rfl, 1 + n, rfl, by omega, by omega, ?_⟩
    refine for_range (lo := 0) (n := (1 + n).toNat) (fun i σ H2 => ∃ (u v z : Option V) (rs : List Rule) (ds2 : List Int), σ = [some (.ref d), some (.int M), some (.ref L), u, v, z] ∧ Fr1 d H H2 ∧ DOk ds2 ∧ H2 d = some (.lst (ds2.map V.int)) ∧ H2 L = some (.lst (lbV rs)) ∧ rs.length = i ∧ ∀ r ∈ rs, r.ok) ?_ ?_ ?_
    · refine ⟨none, none, none, [], ds1, rfl, (Fr1.refl.new hL).trans Fr1.at, hD1, upd_same, by rw [upd_ne ndL.symm, upd_same]; rfl, rfl, fun r hr => by cases hr⟩
    · rintro i σ H2 hi ⟨u, v, z, rs, ds2, rfl, f2, hD2, hd2, hL2, hl, hok⟩
      have e9 : ((10 : Int) ^ (9 : Int).toNat) = 1000000000 := by decide +kernel
      refine ⟨_, rfl, _, _, rfl, rfl, ⟨by decide, by decide, by decide⟩, _, _, rfl, rfl, .inl ⟨by decide, by decide⟩, _, _, rfl, rfl, (by show 3 ≤ sizeLine; decide), fun p0 hp0 => ?_⟩
      rw [e9]
      have np0 : d ≠ p0 := ne_of_none hd2 hp0
      refine ⟨_, rfl, d, 3, ds2, rfl, by decide, by decide, by rw [upd_ne np0]; exact hd2, hD2, fun k ds3 k0 k3 hD3 => ?_⟩
      obtain ⟨lim, ht, hlim⟩ : ∃ lim : Int, atI [V.int 7, V.int 41, V.int (2 * 1000000000 + 1)] k = some (.int lim) ∧ (0 < lim ∧ lim ≤ 2000000001) := by
        have : k = 0 ∨ k = 1 ∨ k = 2 := by omega
        rcases this with rfl | rfl | rfl
        · exact ⟨7, rfl, by decide, by decide⟩
        · exact ⟨41, rfl, by decide, by decide⟩
        · exact ⟨2000000001, rfl, by decide, by decide⟩
      refine ⟨p0, _, k, _, rfl, rfl, SqL.of (by rw [upd_ne np0.symm, upd_same]), ht, ?_⟩
      refine ⟨d, lim, ds3, rfl, by omega, by omega, upd_same, hD3, fun mk ds4 mk0 mkl hD4 => ?_⟩
      have f4 : Fr1 d H2 (upd (upd (upd H2 p0 (.lst [V.int 7, V.int 41, V.int (2 * 1000000000 + 1)])) d (.lst (ds3.map V.int))) d (.lst (ds4.map V.int))) := ((Fr1.refl.new hp0).trans Fr1.at).trans Fr1.at
      have hd4 : upd (upd (upd H2 p0 (.lst [V.int 7, V.int 41, V.int (2 * 1000000000 + 1)])) d (.lst (ds3.map V.int))) d (.lst (ds4.map V.int)) d = some (.lst (ds4.map V.int)) := upd_same
      generalize upd (upd (upd H2 p0 (.lst [V.int 7, V.int 41, V.int (2 * 1000000000 + 1)])) d (.lst (ds3.map V.int))) d (.lst (ds4.map V.int)) = H4 at f4 hd4 ⊢
      refine ⟨_, rfl, _, _, rfl, rfl, ⟨by decide, by decide, by decide⟩, _, _, rfl, rfl, _, rfl, ?_⟩
      rw [e9]
      by_cases hmk : mk ≤ 1000000000
      · refine iteD1 hmk ?_
        refine ⟨_, rfl, _, rfl, _, _, rfl, rfl, (by show 2 ≤ sizeLine; decide), fun p2 hp2 => ?_⟩
        have np2 : d ≠ p2 := ne_of_none hd4 hp2
        refine ⟨_, rfl, d, 2, ds4, rfl, by decide, by decide, by rw [upd_ne np2]; exact hd4, hD4, fun j ds5 j0 j2 hD5 => ?_⟩
        obtain ⟨m, hm, hmo⟩ : ∃ m : Int, atI [V.int mk, V.int (0 - mk)] j = some (.int m) ∧ numOk m := by
          have : j = 0 ∨ j = 1 := by omega
          rcases this with rfl | rfl
          · exact ⟨mk, rfl, by constructor <;> omega⟩
          · exact ⟨0 - mk, rfl, by constructor <;> omega⟩
        refine ⟨p2, _, j, _, rfl, rfl, SqL.of (by rw [upd_ne np2.symm, upd_same]), hm, ?_⟩
        have f5 := (f4.new (o := .lst [V.int mk, V.int (0 - mk)]) hp2).trans (Fr1.at (o := .lst (ds5.map V.int)))
        have hd5 : upd (upd H4 p2 (.lst [V.int mk, V.int (0 - mk)])) d (.lst (ds5.map V.int)) d = some (.lst (ds5.map V.int)) := upd_same
        generalize upd (upd H4 p2 (.lst [V.int mk, V.int (0 - mk)])) d (.lst (ds5.map V.int)) = H5 at f5 hd5 ⊢
        refine ⟨m, rfl, numS_log hmo, ?_⟩
        refine ⟨_, rfl, _, _, rfl, rfl, ?_, (by show 5 ≤ sizeLine; decide), fun p1 hp1 => ?_⟩
        · exact Nat.le_trans (Nat.add_le_add_left (numS_len hmo) 5) (by decide)
        have np1 : d ≠ p1 := ne_of_none hd5 hp1
        refine ⟨_, rfl, d, 5, ds5, rfl, by decide, by decide, by rw [upd_ne np1]; exact hd5, hD5, fun kk ds6 kk0 kk5 hD6 => ?_⟩
        obtain ⟨r, hat, rok⟩ := kind_at hmo kk0 kk5
        refine ⟨p1, _, kk, _, rfl, rfl, SqL.of (by rw [upd_ne np1.symm, upd_same]; rfl), hat, ?_⟩
        have f6 := ((f5.new (o := .lst (kindVs m)) hp1).trans (Fr1.at (o := .lst (ds6.map V.int))))
        have hL6 := f6 _ _ hL2 ndL.symm
        refine ⟨_, rfl, .inl ⟨rfl, _, SqL.of hL6⟩, _, rfl, _, _, _, rfl, rfl, hL6, ?_, ?_⟩
        · show (lbV rs).length < sizeLine
          unfold lbV
          rw [List.length_map, List.length_map, hl]
          exact Nat.lt_of_lt_of_le (show i < 9 by omega) (by decide)
        refine ⟨_, _, _, rs ++ [r], ds6, rfl, (f2.trans f6).upd hL, hD6, by rw [upd_ne ndL, upd_same], ?_, by rw [List.length_append, hl]; rfl, fun x hx => ?_⟩
        · rw [upd_same]
          unfold lbV
          rw [List.map_append, List.map_append]
          rfl
        rcases List.mem_append.mp hx with hx | hx
        · exact hok x hx
        · rw [List.mem_singleton.mp hx]
          exact rok
      · refine iteD0 hmk ?_
        refine ⟨_, rfl, _, _, rfl, rfl, ⟨by decide, by decide, by decide⟩, _, _, rfl, rfl, ?_⟩
        rw [e9]
        have hmo : numOk (mk - 1000000000) := by constructor <;> omega
        refine ⟨(mk - 1000000000), rfl, numS_log hmo, ?_⟩
        refine ⟨_, rfl, _, _, rfl, rfl, ?_, (by show 5 ≤ sizeLine; decide), fun p1 hp1 => ?_⟩
        · exact Nat.le_trans (Nat.add_le_add_left (numS_len hmo) 5) (by decide)
        have np1 : d ≠ p1 := ne_of_none hd4 hp1
        refine ⟨_, rfl, d, 5, ds4, rfl, by decide, by decide, by rw [upd_ne np1]; exact hd4, hD4, fun kk ds6 kk0 kk5 hD6 => ?_⟩
        obtain ⟨r, hat, rok⟩ := kind_at hmo kk0 kk5
        refine ⟨p1, _, kk, _, rfl, rfl, SqL.of (by rw [upd_ne np1.symm, upd_same]; rfl), hat, ?_⟩
        have f6 := ((f4.new (o := .lst (kindVs (mk - 1000000000))) hp1).trans (Fr1.at (o := .lst (ds6.map V.int))))
        have hL6 := f6 _ _ hL2 ndL.symm
        refine ⟨_, rfl, .inl ⟨rfl, _, SqL.of hL6⟩, _, rfl, _, _, _, rfl, rfl, hL6, ?_, ?_⟩
        · show (lbV rs).length < sizeLine
          unfold lbV
          rw [List.length_map, List.length_map, hl]
          exact Nat.lt_of_lt_of_le (show i < 9 by omega) (by decide)
        refine ⟨_, _, _, rs ++ [r], ds6, rfl, (f2.trans f6).upd hL, hD6, by rw [upd_ne ndL, upd_same], ?_, by rw [List.length_append, hl]; rfl, fun x hx => ?_⟩
        · rw [upd_same]
          unfold lbV
          rw [List.map_append, List.map_append]
          rfl
        rcases List.mem_append.mp hx with hx | hx
        · exact hok x hx
        · rw [List.mem_singleton.mp hx]
          exact rok
    · rintro σ H2 ⟨u, v, z, rs, ds2, rfl, f2, hD2, hd2, hL2, hl, hok⟩
      exact ⟨_, rfl, q L H2 rs ds2 hL f2 hD2 hd2 hL2 (by omega) (by omega) hok⟩
end
end SC
set_option maxRecDepth 100000
set_option maxHeartbeats 2000000
/-! # chains: empty, step, call, with tuples whose object is known (behind ChainD) -/
namespace SC
open PySem PySem.Spec PyProof.Rows L2 TL
section
variable {P : Program} {w : World} {K : PySem.W.Frag} {mg : Str → Option Value} {base : Heap}
theorem ok_emptyK {f : Addr} {fd : FuncData} (F : Fun K "empty" "Chain.empty" s_Chain_empty f fd) (B : Bln mg) (C : Chains K mg) : FnOk P w K mg base CX0 1 f fd ["self"] (spEmptyK K) := by
  refine F.ok sc_empty (fun vs H Q E h => ?_) (fun cdv A outer s H vs Q E hr h => ?_)
  · obtain ⟨c, rs, rfl, _⟩ := h
    rfl
  · obtain ⟨c, rs, rfl, ⟨dx, t, as, hc, ht, cs, h1, h8⟩, q⟩ := h
    refine ⟨_, pss_one (ps_ret (pe_op op_repK (pe_tupK (pa_cons pe_non pa_nil)) (pe_callB call_len_seq (by rfl) B.len boot_len' (pa_cons (pe_fld (pv 0) rfl) pa_nil)))), ?_⟩
    refine ⟨(by show 1 ≤ sizeLine; decide), fun l ob hl hdn => ?_⟩
    have s1 : Same H (upd H l (.frz ob (.tup [.non]))) := same_new hl
    refine ⟨_, rfl, c, _, dx, _, _, rfl, s1 _ _ hc, C.cls, C.noC, cells_look, t, _, rfl, .inr (SqT.of (s1 _ _ ht)), ?_⟩
    refine ⟨l, _, .non, ob, rfl, rfl, upd_same, hdn, ?_, ?_, fun p o' H' s2 hd' hp hpl => ?_⟩
    · rw [List.length_map, cs.1]
      omega
    · rw [List.length_map, cs.1]
      omega
    · have hp0 : H p = none := by
        rcases hpl with rfl | z
        · exact hl
        · exact s1.free z
      refine q p o' H' hp0 hd' (s1.trans s2) ?_
      rw [hp, nones_ov, List.length_map, cs.1]
      rfl
theorem ok_stepK {f : Addr} {fd : FuncData} {n : Nat} (F : Fun K "step" "Chain.step" s_Chain_step f fd) (B : Bln mg) (hzip : mg "zip" = none) (T : CellsOk P w K mg base n) (C : Chains K mg) : FnOk P w K mg base CX0 (n + 1) f fd ["self", "held", "came"] (spStepK K) := by
  refine F.ok sc_step (fun vs H Q E h => ?_) (fun cdv A outer s H vs Q E hr h => ?_)
  · obtain ⟨c, h, n, rs, hs, rfl, _⟩ := h
    rfl
  · obtain ⟨c, h, m, rs, hs, rfl, ch, hh, hl, hf, q⟩ := h
    obtain ⟨dx, t, as, hc, ht, cs, h1, h8⟩ := id ch
    refine ⟨_, pss_cons (ps_set (i := 3) sc_step.nd rfl (.inl rfl) (pe_lst pa_nil))
      (pss_cons (ps_set (i := 4) sc_step.nd rfl (.inl rfl) (pv 2))
      (pss_cons (ps_for PassesOwn.never rfl (RZ.pi_zipA (by rfl) hzip (pa_cons (pe_fld (pv 0) rfl) (pa_cons (pv 1) pa_nil))) (pg_tup rfl (pgs_cons (pg_name (i := 5) sc_step.nd rfl (.inl rfl)) (pgs_cons (pg_name (i := 6) sc_step.nd rfl (.inl rfl)) pgs_nil)))
        (pss_cons (ps_if (pt_cmpR op_isN (pv 6) pe_non (nomark _))
          (pss_one (ps_par (i := 7) (j := 4) (by rfl) sc_step.nd rfl rfl (by decide) rfl rfl (pa_cons (pv 4) (pa_cons pe_non pa_nil)) (by rfl)))
          (pss_one (ps_asg (pe_cellCall (pv 5) T hr (pa_cons (pv 6) (pa_cons (pv 4) pa_nil))) (pg_tup rfl (pgs_cons (pg_name (i := 7) sc_step.nd rfl (.inl rfl)) (pgs_cons (pg_name (i := 4) sc_step.nd rfl (.inl rfl)) pgs_nil))))))
        (pss_one (ps_expr (pe_bm PySem.F.plainAttrs_list PySem.F.slot_list_append PySem.F.type_list_append mt_append (pv 3) (pa_cons (pv 7) pa_nil))))))
      (pss_one (ps_ret (pe_tup (pa_cons (pe_callTy (r := rTupK K) cr_tupleK (by rfl) B.tuple boot_tuple' (pa_cons (pv 3) pa_nil)) (pa_cons (pv 4) pa_nil))))))), ?_⟩
    refine ⟨(by show 0 ≤ sizeLine; exact Nat.zero_le _), fun L hL => ?_⟩
    refine ⟨_, rfl, ?_⟩
    have s1 : Same H (upd H L (.lst [])) := same_new hL
    refine ⟨_, rfl, c, _, dx, _, _, rfl, s1 _ _ hc, C.cls, C.noC, cells_look, _, rfl, t, h, _, _, rfl, .inr ⟨SqT.of (s1 _ _ ht), SqT.up hh s1, ?_⟩⟩
    refine RZ.for_zipT (K := K) (a := t) (b := h) (xs := as.map V.ref) (ys := hs.map ov) (by rw [List.length_map, List.length_map, cs.1, hl]) (fun i σ H2 => ∃ (u v z : Option V), σ = [some (.ref c), some (.ref h), some (.int m), some (.ref L), some (ov (stepR (rs.take i) (hs.take i) (some m)).2), u, v, z] ∧ Same H H2 ∧
      H2 L = some (.lst ((stepR (rs.take i) (hs.take i) (some m)).1.map ov))) ?_ (fun i σ H2 ⟨_, _, _, _, s2, _⟩ => ⟨SqT.of (s2 _ _ ht), SqT.up hh s2⟩) ?_ ?_
    · refine ⟨none, none, none, rfl, s1, ?_⟩
      rw [upd_same]
      rfl
    · rintro i y1 y2 T2 σ H2 hi1 hi2 ⟨u, v, z, rfl, s2, hL2⟩ hT
      obtain ⟨a, hai, rfl⟩ := map_ref_at hi1
      obtain ⟨r, hri, ca⟩ := cs.at hai
      obtain ⟨o, hoi, rfl⟩ := map_ov_at hi2
      have st := step_take (c := some m) hl hri hoi
      have kl : (stepR (rs.take i) (hs.take i) (some m)).1.length < sizeLine := by
        rw [step_len, List.length_take]
        exact Nat.lt_of_le_of_lt (show min i hs.length ≤ 8 by omega) (by decide)
      have s3 : Same H2 (upd H2 T2 (.tup [.ref a, ov o])) := same_new hT
      have nT : T2 ≠ L := fun e => by
        rw [e, hL2] at hT
        cases hT
      refine ⟨T2, _, rfl, SqT.of upd_same, rfl, _, _, rfl, _, _, rfl, rfl, ?_⟩
      cases o with
      | none =>
        refine ⟨_, rfl, rfl, _, rfl, iteT ?_⟩
        refine ⟨_, rfl, _, _, rfl, ?_⟩
        refine ⟨_, rfl, .inl ⟨rfl, _, SqL.of (s3 _ _ hL2)⟩, _, rfl, _, _, _, rfl, rfl, s3 _ _ hL2, by rw [List.length_map]; exact kl, ?_⟩
        rw [step_cn] at st
        rw [st]
        refine ⟨_, _, _, rfl, fun b o hb => ?_, ?_⟩
        · rw [upd_ne (ne_of_none hb hL)]
          exact s3 _ _ (s2 _ _ hb)
        · rw [upd_same, List.map_append]
          rfl
      | some g =>
        obtain ⟨d, ed⟩ := step_gets (n := m) hf hl hoi
        rw [ed] at st ⊢
        refine ⟨_, rfl, rfl, _, rfl, iteF ?_⟩
        refine ⟨_, rfl, a, rfl, _, rfl, _, rfl, r, g, d, rfl, (ca.same s2).same s3, fun p hp => ?_⟩
        have hL4 : upd (upd H2 T2 (.tup [.ref a, ov (some g)])) p (.tup [.int (r.keep g d).1, .int (r.keep g d).2]) L = some (.lst ((stepR (rs.take i) (hs.take i) (some m)).1.map ov)) := same_new hp _ _ (s3 _ _ hL2)
        refine ⟨p, _, rfl, SqT.of upd_same, rfl, _, _, rfl, _, _, rfl, rfl, ?_⟩
        refine ⟨_, rfl, .inl ⟨rfl, _, SqL.of hL4⟩, _, rfl, _, _, _, rfl, rfl, hL4, by rw [List.length_map]; exact kl, ?_⟩
        rw [step_cs, step_nil] at st
        rw [st]
        refine ⟨_, _, _, rfl, fun b o hb => ?_, ?_⟩
        · rw [upd_ne (ne_of_none hb hL)]
          exact same_new hp _ _ (s3 _ _ (s2 _ _ hb))
        · rw [upd_same, List.map_append]
          rfl
    · rintro σ H2 ⟨u, v, z, rfl, s2, hL2⟩
      have e1 : rs.take (as.map V.ref).length = rs := by
        rw [List.length_map, cs.1, List.take_length]
      have e2 : hs.take (as.map V.ref).length = hs := by
        rw [List.length_map, cs.1, ← hl, List.take_length]
      rw [e1, e2] at hL2 ⊢
      refine ⟨_, rfl, L, _, rfl, SqL.of hL2, fun k ob hk hdn => ?_⟩
      refine ⟨_, rfl, (by show 2 ≤ sizeLine; decide), fun p hp => ?_⟩
      have sk : Same H2 (upd H2 k (.frz ob (.tup ((stepR rs hs (some m)).1.map ov)))) := same_new hk
      have npk : p ≠ k := fun e => by
        rw [e, upd_same] at hp
        cases hp
      refine q p k ob _ ((s2.trans sk).free hp) (s2.free hk) npk hdn ((s2.trans sk).trans (same_new hp)) upd_same ?_
      rw [upd_ne npk.symm, upd_same]
theorem ok_ccallK {f g : Addr} {fd gd sd ed : FuncData} {n : Nat} (F : Fun K "__call__" "Chain.__call__" s_Chain_call f fd) (C : Chains K mg) (h6 : 3 ≤ n) (G : FnOk P w K mg base CX0 3 g gd ["row", "longest"] (spCheck K)) (bG : Binds K gd ["row", "longest"] []) (kG : PySem.W.keepIn K (.ref g) = true) (hg : mg "check_row" = some (.ref g))
    {t1 : Tok} (hL : mg "LONGEST_ROW" = some (.int 1000 t1)) (S : FnOk P w K mg base CX0 n (He.ma K (ChC K) "step") sd ["self", "held", "came"] (spStepK K)) (bS : Binds K sd ["self", "held", "came"] []) (Em : FnOk P w K mg base CX0 1 (pgA K "Chain" "empty") ed ["self"] (spEmptyK K)) (bE : Binds K ed ["self"] []) :
    FnOk P w K mg base CX0 (n + 1) f fd ["self", "row"] (spChCallK K) := by
  refine F.ok sc_ccall (fun vs H Q E h => ?_) (fun cdv A outer s H vs Q E hr h => ?_)
  · obtain ⟨c, a, rs, ns, rfl, _⟩ := h
    rfl
  · obtain ⟨c, a, rs, ns, rfl, ch, ha, hl, hz, q⟩ := h
    obtain ⟨dx, t, as, hc, ht, cs, h1, h8⟩ := id ch
    refine ⟨_, pss_cons (ps_expr (pe_call (G.mono h6) hr (by rfl) hg kG bG .nil pass0 (pa_cons (pv 1) (pa_cons (pe_glob (v := .int 1000) (by rfl) hL ⟨_, rfl⟩) pa_nil))))
      (pss_cons (ps_set (i := 2) sc_ccall.nd rfl (.inl rfl) (pe_prop (pv 0) C.cls C.empty (Em.mono (show 1 ≤ n - 1 by omega)) (hr.mono (by omega)) bE .nil pass0 rfl))
      (pss_cons (ps_set (i := 3) sc_ccall.nd rfl (.inl rfl) (pe_lst pa_nil))
      (pss_cons (ps_for PassesOwn.never rfl (pi_list (pv 1)) (pg_name (i := 4) sc_ccall.nd rfl (.inl rfl))
        (pss_cons (ps_asg (pe_meth (pv 0) C.cls C.step S hr bS .nil pass0 (pa_cons (pv 2) (pa_cons (pv 4) pa_nil))) (pg_tup rfl (pgs_cons (pg_name (i := 2) sc_ccall.nd rfl (.inl rfl)) (pgs_cons (pg_name (i := 5) sc_ccall.nd rfl (.inl rfl)) pgs_nil))))
        (pss_one (ps_expr (pe_bm PySem.F.plainAttrs_list PySem.F.slot_list_append PySem.F.type_list_append mt_append (pv 3) (pa_cons (pv 5) pa_nil))))))
      (pss_one (ps_ret (pe_tup (pa_cons (pv 3) (pa_cons (pv 2) pa_nil)))))))), ?_⟩
    refine ⟨_, rfl, a, ns, 1000, rfl, ha, by omega, hz, fun H1 s1 => ?_⟩
    refine ⟨_, rfl, c, dx, _, rfl, s1 _ _ hc, c, rs, rfl, ch.same s1, fun p0 o0 H2 hp0 hd0 s2 h2 => ?_⟩
    have s12 : Same H H2 := s1.trans s2
    refine ⟨(by show 0 ≤ sizeLine; exact Nat.zero_le _), fun L hL2 => ?_⟩
    have hL0 : H L = none := s12.free hL2
    have s3 : Same H (upd H2 L (.lst [])) := s12.trans (same_new hL2)
    have n0 : p0 ≠ L := fun e => by
      rw [← e, h2] at hL2
      cases hL2
    refine ⟨_, rfl, a, rfl, ⟨_, SqL.of (s3 _ _ ha)⟩, for_list (K := K) (a := a) (xs := ns.map V.int) (fun i σ H3 => ∃ (u v : Option V) (hd : Addr), σ = [some (.ref c), some (.ref a), some (.ref hd), some (.ref L), u, v] ∧ Same H H3 ∧ H hd = none ∧ hd ≠ L ∧
      (∃ oh : Obj, oh.dict = none ∧ H3 hd = some (.frz oh (.tup ((runR rs (nones rs.length) (ns.take i)).2.map ov)))) ∧ H3 L = some (.lst ((runR rs (nones rs.length) (ns.take i)).1.map ov))) ?_ (fun i σ H3 _ ⟨_, _, _, _, s, _⟩ => SqL.of (s _ _ ha)) ?_ ?_⟩
    · exact ⟨none, none, p0, rfl, s3, s1.free hp0, n0, ⟨o0, hd0, by rw [upd_ne n0]; exact h2⟩, by rw [upd_same]; rfl⟩
    · rintro i y σ H3 hi ⟨u, v, hd, rfl, s4, hd0, nd, ⟨oh, hod, hh⟩, hL3⟩
      obtain ⟨z, hzi, rfl⟩ := map_int_at hi
      have rl := run_len rs (ns.take i) (nones rs.length)
      have ff := run_fill (rs := rs) (ns := ns.take i) (fill_nones rs.length) (nones_len _)
      have rt := run_take (rs := rs) (hs := nones rs.length) hzi
      refine ⟨_, rfl, c, dx, _, rfl, s4 _ _ hc, step_look, _, rfl, _, rfl, c, hd, z, rs, _, rfl, ch.same s4, .inl (.inr ⟨oh, hh⟩), by rw [rl.2, nones_len], ff, fun p k ok H5 hp hk npk hdk s5 e1 e2 => ?_⟩
      have hL5 := s5 _ _ hL3
      refine ⟨p, _, rfl, SqT.of e1, rfl, _, _, rfl, _, _, rfl, rfl, ?_⟩
      refine ⟨_, rfl, .inl ⟨rfl, _, SqL.of hL5⟩, _, rfl, _, _, _, rfl, rfl, hL5, ?_, ?_⟩
      · rw [List.length_map, rl.1, List.length_take]
        exact Nat.lt_of_le_of_lt (show min i ns.length ≤ 1000 by omega) (by decide)
      · have nkL : k ≠ L := fun e => by
          rw [e, hL3] at hk
          cases hk
        rw [rt]
        refine ⟨_, _, k, rfl, fun b o hb => ?_, s4.free hk, nkL, ⟨ok, hdk, by rw [upd_ne nkL]; exact e2⟩, ?_⟩
        · rw [upd_ne (ne_of_none hb hL0)]
          exact s5 _ _ (s4 _ _ hb)
        · rw [upd_same, List.map_append]
          rfl
    · rintro σ H3 ⟨u, v, hd, rfl, s4, hd0, nd, ⟨oh, hod, hh⟩, hL3⟩
      rw [List.length_map, List.take_length] at hh hL3
      refine ⟨_, rfl, _, rfl, (by show 2 ≤ sizeLine; decide), fun p hp => ?_⟩
      have npL : L ≠ p := ne_of_none hL3 hp
      have nph : hd ≠ p := ne_of_none hh hp
      exact q p L hd oh _ (s4.free hp) hL0 hd0 hod (s4.trans (same_new hp)) upd_same (by rw [upd_ne npL]; exact hL3) (by rw [upd_ne nph]; exact hh)
end
end SC
set_option maxRecDepth 100000
set_option maxHeartbeats 2000000
namespace SC
open PySem PySem.Spec PyProof.Rows L2 TL
section
variable {P : Program} {w : World} {K : PySem.W.Frag} {mg : Str → Option Value} {base : Heap}
def nmRow : List Str := ["_law_d", "_law_most", "_law_top", "_law_k"]
theorem sc_row : FnScope nmRow ["_law_d", "_law_most"] (defScope s__law_row) := ⟨rfl, rfl, rfl, by decide +kernel, rfl, by decide +kernel, by decide +kernel⟩
theorem ok_row {f g : Addr} {fd gd : FuncData} (F : Fun K "_law_row" "_law_row" s__law_row f fd) (B : Bln mg) (G : FnOk P w K mg base CX0 1 g gd ["_law_d", "_law_limit"] spBelow) (bG : Binds K gd ["_law_d", "_law_limit"] []) (kG : PySem.W.keepIn K (.ref g) = true) (hg : mg "_law_below" = some (.ref g)) :
    FnOk P w K mg base CX0 2 f fd ["_law_d", "_law_most"] spRow := by
  refine F.ok sc_row (fun vs H Q E h => ?_) (fun cdv A outer s H vs Q E hr h => ?_)
  · obtain ⟨a, M, ds, rfl, _⟩ := h
    rfl
  · obtain ⟨a, M, ds, rfl, hM0, hM, ha, hd, q⟩ := h
    refine ⟨_, pss_cons (ps_set (i := 2) sc_row.nd rfl (.inr rfl) (pe_ix ix_list (pe_lst (pa_cons pe_int (pa_cons pe_int (pa_cons (pe_op op_pow pe_int pe_int) pa_nil)))) (pe_call G hr (by rfl) hg kG bG .nil pass0 (pa_cons (pv 0) (pa_cons pe_int pa_nil))) (fun _ _ => rfl)))
      (pss_one (ps_ret (pe_lc (own := [("_law_k", 3)]) (g := gName 3) (by rfl) sc_row.nd (pi_range1 (by rfl) B.range (pa_cons (pe_call G hr (by rfl) hg kG bG .nil pass0 (pa_cons (pv 0) (pa_cons (pe_op op_add (pv 1) pe_int) pa_nil))) pa_nil))
          (blkOk_by (own := [("_law_k", 3)]) (N := nmRow) (sc := defScope s__law_row) (by decide +kernel))
          (fun _ _ _ _ _ => pg_name (i := 3) sc_row.nd rfl (.inl rfl)) (fun _ _ _ _ _ => pts_nil) (fun _ _ _ _ _ => pe_op op_sub (pe_call G hr (by rfl) hg kG bG .nil pass0 (pa_cons (pv 0) (pa_cons (pe_op op_add (pe_op op_mul pe_int (pv 2)) pe_int) pa_nil))) (pv 2))))), ?_⟩
    refine ⟨_, _, rfl, rfl, ⟨by decide, by decide, by decide⟩, (by show 3 ≤ sizeLine; decide), fun p0 hp0 => ?_⟩
    have np : a ≠ p0 := ne_of_none ha hp0
    refine ⟨_, rfl, a, 3, ds, rfl, by decide, by decide, by rw [upd_ne np]; exact ha, hd, fun k ds1 k0 k3 hd1 => ?_⟩
    obtain ⟨top, ht, htop⟩ : ∃ top : Int, atI [V.int 3, V.int 9, V.int ((10 : Int) ^ (9 : Int).toNat)] k = some (.int top) ∧ (0 ≤ top ∧ top ≤ 1000000000) := by
      have ep : ((10 : Int) ^ (9 : Int).toNat) = 1000000000 := by decide +kernel
      rw [ep]
      have : k = 0 ∨ k = 1 ∨ k = 2 := by omega
      rcases this with rfl | rfl | rfl
      · exact ⟨3, rfl, by decide, by decide⟩
      · exact ⟨9, rfl, by decide, by decide⟩
      · exact ⟨1000000000, rfl, by decide, by decide⟩
    refine ⟨p0, _, k, _, rfl, rfl, SqL.of (by rw [upd_ne np.symm, upd_same]), ht, ?_⟩
    refine ⟨_, rfl, _, rfl, _, _, rfl, rfl, a, M + 1, ds1, rfl, by omega, by omega, upd_same, hd1, fun n ds2 n0 nM hd2 => ?_⟩
    refine ⟨n, rfl, by omega, by omega, fun D hD => ?_⟩
    have f1 : Fr1 a H (upd (upd (upd H p0 (.lst [V.int 3, V.int 9, V.int ((10 : Int) ^ (9 : Int).toNat)])) a (.lst (ds1.map V.int))) a (.lst (ds2.map V.int))) := ((Fr1.refl.new hp0).trans Fr1.at).trans Fr1.at
    have hD0 : H D = none := f1.free upd_same hD
    have nD : a ≠ D := ne_of_none ha hD0
    refine lc_range (lo := 0) (n := n.toNat) (fun i H3 => ∃ (ns ds3 : List Int), Fr1 a H H3 ∧ DOk ds3 ∧ H3 a = some (.lst (ds3.map V.int)) ∧ H3 D = some (.lst (ns.map V.int)) ∧ ns.length = i ∧ ∀ z ∈ ns, numOk z) ?_ ?_ ?_
    · exact ⟨[], ds2, f1.upd hD0, hd2, by rw [upd_ne nD, upd_same], upd_same, rfl, fun z hz => by cases hz⟩
    · rintro i H3 hi ⟨ns, ds3, f3, hd3, ha3, hD3, hl, hz⟩
      refine ⟨rfl, ?_⟩
      refine ⟨_, rfl, _, rfl, _, _, rfl, rfl, .inl ⟨by decide, by decide⟩, _, _, rfl, rfl, a, 2 * top + 1, ds3, rfl, by omega, by omega, ha3, hd3, fun x ds4 x0 x1 hd4 => ?_⟩
      refine ⟨_, rfl, _, _, rfl, rfl, ns.map V.int, by rw [upd_ne nD.symm]; exact hD3, ?_, ?_⟩
      · rw [List.length_map, hl]
        exact Nat.lt_of_lt_of_le (show i < 10001 by omega) (by decide)
      · refine ⟨ns ++ [x - top], ds4, ?_, hd4, by rw [upd_ne nD, upd_same], by rw [upd_same, List.map_append]; rfl, by rw [List.length_append, hl]; rfl, fun z hm => ?_⟩
        · exact (f3.trans Fr1.at).upd hD0
        · rcases List.mem_append.mp hm with hm | hm
          · exact hz z hm
          · rw [List.mem_singleton.mp hm]
            constructor <;> omega
    · rintro H3 ⟨ns, ds3, f3, hd3, ha3, hD3, hl, hz⟩
      exact q D H3 ns ds3 hD0 f3 hd3 ha3 hD3 (by rw [hl]; omega) hz
end
end SC
set_option maxRecDepth 100000
set_option maxHeartbeats 2000000
/-! # check_some -/
namespace SC
open PySem PySem.Spec PyProof.Rows L2 TL
def spSome (K : PySem.W.Frag) : Sp := fun vs H Q _ => ∃ (a : Addr) (ns : List Int) (L : Int), vs = [.ref a, .int L] ∧ H a = some (.lst (ns.map V.int)) ∧ (ns.length : Int) ≤ L ∧ (∀ z ∈ ns, numOk z) ∧ ns ≠ [] ∧ ∀ H', Same H H' → Q .non H'
section
variable {P : Program} {w : World} {K : PySem.W.Frag} {mg : Str → Option Value} {base : Heap} {M : List Addr} {σ : L2.St} {H : Hp}
def nmSome : List Str := ["row", "longest"]
theorem sc_some : FnScope nmSome ["row", "longest"] (defScope s_check_some) := ⟨rfl, rfl, rfl, by decide +kernel, rfl, by decide +kernel, by decide +kernel⟩
theorem ok_some {f g : Addr} {fd gd : FuncData} (F : Fun K "check_some" "check_some" s_check_some f fd) (G : FnOk P w K mg base CX0 3 g gd ["row", "longest"] (spCheck K)) (bG : Binds K gd ["row", "longest"] []) (kG : PySem.W.keepIn K (.ref g) = true) (hg : mg "check_row" = some (.ref g)) : FnOk P w K mg base CX0 4 f fd ["row", "longest"] (spSome K) := by
  refine F.ok sc_some (fun vs H Q E h => ?_) (fun cdv A outer s0 H vs Q E hr h => ?_)
  · obtain ⟨a, ns, L, rfl, _⟩ := h
    rfl
  · obtain ⟨a, ns, L, rfl, h1, h2, h3, h4, q⟩ := h
    refine ⟨_, pss_cons (ps_expr (pe_call G hr (by rfl) hg kG bG .nil pass0 (pa_cons (pv 0) (pa_cons (pv 1) pa_nil)))) (pss_one (ps_if (pt_not (pt_truth (pv 0) (by intro _; rfl))) pss_never pss_nil)), ?_⟩
    refine ⟨_, rfl, _, rfl, a, ns, L, rfl, h1, h2, h3, fun H' s' => ?_⟩
    refine ⟨_, rfl, true, .inl ⟨_, SqL.of (s' _ _ h1), ?_⟩, iteF (q H' s')⟩
    cases ns with
    | nil => exact absurd rfl h4
    | cons a r => rfl
end
end SC
set_option maxRecDepth 100000
set_option maxHeartbeats 2000000
/-! # run_until_repeat -/
namespace SC
open PySem PySem.Spec PyProof.Rows L2 TL
def optK : Option Int → NestedKey
  | none => .none
  | some z => .num z
theorem optK_inj {a b : Option Int} (h : optK a = optK b) : a = b := by
  cases a with
  | none => cases b with
    | none => rfl
    | some y => cases h
  | some x => cases b with
    | none => cases h
    | some y => injection h with h; rw [h]
theorem map_one {α β : Type} {f : α → β} (hf : ∀ a b, f a = f b → a = b) : ∀ {l m : List α}, l.map f = m.map f → l = m
  | [], [], _ => rfl
  | [], _ :: _, h => by cases h
  | _ :: _, [], h => by cases h
  | a :: l, b :: m, h => by
    rw [List.map_cons, List.map_cons] at h
    injection h with h1 h2
    rw [hf _ _ h1, map_one hf h2]
def hdK (hs : List (Option Int)) : NestedKey := .tup (hs.map optK)
theorem hdK_inj {a b : List (Option Int)} (h : hdK a = hdK b) : a = b := by
  unfold hdK at h
  injection h with h
  exact map_one (fun _ _ => optK_inj) h
theorem hdK_depth (hs : List (Option Int)) : (hdK hs).depth ≤ 1 := by
  have z : ∀ hs : List (Option Int), NestedKey.depthAll (hs.map optK) = 0 := fun hs => by
    induction hs with
    | nil => rfl
    | cons h hs ih =>
      rw [List.map_cons, NestedKey.depthAll, ih]
      cases h <;> rfl
  unfold hdK
  rw [NestedKey.depth, z]
  exact Nat.le_refl _
def nkF (rs : List Rule) (row : List Int) (t : Nat) : NestedKey := .tup [hdK (heldF rs row t), .num ((t % row.length : Nat) : Int)]
theorem nkF_inj {rs : List Rule} {row : List Int} {t u : Nat} (h : nkF rs row t = nkF rs row u) : keyF rs row t = keyF rs row u := by
  unfold nkF at h
  injection h with h
  injection h with h1 h2
  injection h2 with h2 _
  injection h2 with h2
  unfold keyF
  rw [hdK_inj h1, Int.ofNat.inj h2]
theorem nkF_eq {rs : List Rule} {row : List Int} {t u : Nat} (h : keyF rs row t = keyF rs row u) : nkF rs row t = nkF rs row u := by
  unfold nkF
  have h1 : heldF rs row t = heldF rs row u := congrArg Prod.fst h
  have h2 : t % row.length = u % row.length := congrArg Prod.snd h
  rw [h1, h2]
theorem nkF_depth (rs : List Rule) (row : List Int) (t : Nat) : (nkF rs row t).depth ≤ 8 := by
  have z := hdK_depth (heldF rs row t)
  unfold nkF
  rw [NestedKey.depth, NestedKey.depthAll, NestedKey.depthAll, NestedKey.depthAll, NestedKey.depth]
  omega
def hdD (hs : List (Option Int)) : D := .ktup (hs.map dO)
/-- what run_until_repeat tells -/
def repD (rs : List Rule) (row : List Int) (s e : Nat) : D := .tup [.lst ((List.range e).map fun i => hdD (heldF rs row i)), .lst ((List.range e).map fun i => dO (outF rs row i)), .int (s : Nat)]
def RRep (ds : List D) (d : D) : Prop := ∃ (rs : List Rule) (row : List Int) (s e : Nat), ds = [.chain rs, .lst (row.map D.int)] ∧ row ≠ [] ∧ row.length ≤ 1000 ∧ rs.length ≤ 8 ∧ Cyc rs row s e ∧ d = repD rs row s e
section
variable {P : Program} {w : World} {K : PySem.W.Frag} {mg : Str → Option Value} {base : Heap} {M : List Addr} {σ : L2.St} {H : Hp}
theorem nk_opts {hs : List (Option Int)} : NKs H (hs.map optK) (hs.map ov) := by
  induction hs with
  | nil => exact .nil
  | cons h hs ih =>
    refine .cons ?_ ih
    cases h
    · exact .non
    · exact .int
theorem nk_held {hs : List (Option Int)} {v : V} (r : Rp K H (hdD hs) v) : NK H (hdK hs) v := by
  obtain ⟨a, o, vs, rfl, e, _, r⟩ := r
  rw [rp_opts.mp r] at e
  exact .frz e nk_opts
def nmRep : List Str := ["chain", "row", "seen", "helds", "outs", "held", "place", "out"]
theorem sc_rep : FnScope nmRep ["chain", "row"] (defScope s_run_until_repeat) := ⟨rfl, rfl, rfl, by decide +kernel, rfl, by decide +kernel, by decide +kernel⟩
/-- the dict after j ticks -/
structure SeenAt (P : Program) (w : World) (H : Hp) (p : Addr) (rs : List Rule) (row : List Int) (j : Nat) : Prop where
  ex : ∃ kvs : NKV, H p = some (NkO P w p kvs) ∧ NkK H kvs ∧ kvs.map (·.1) = (List.range j).map (nkF rs row) ∧ ∀ i, i < j → ∃ b, (nkF rs row i, b, V.int (i : Nat)) ∈ kvs
theorem SeenAt.same {rs : List Rule} {row : List Int} {p : Addr} {j : Nat} {H' : Hp} (h : SeenAt P w H p rs row j) (ht : ∀ (b : Addr) (ys : TupO), H b = some ys.1 → H' b = some ys.1) (hp : ∀ o, H p = some o → H' p = some o) : SeenAt P w H' p rs row j := by
  obtain ⟨kvs, h1, h2, h3, h4⟩ := h.ex
  exact ⟨kvs, hp _ h1, h2.keep ht, h3, h4⟩
theorem ok_rep {f : Addr} {fd sd ed : FuncData} {n : Nat} (h1n : 2 ≤ n) (F : Fun K "run_until_repeat" "run_until_repeat" s_run_until_repeat f fd) (B : Bln mg) (C : Chains K mg)
    (STP : FnOk P w K mg base CX0 n (He.ma K (ChC K) "step") sd ["self", "held", "came"] (spStepK K)) (bS : Binds K sd ["self", "held", "came"] []) (Em : FnOk P w K mg base CX0 1 (pgA K "Chain" "empty") ed ["self"] (spEmptyK K)) (bE : Binds K ed ["self"] []) : FnOk P w K mg base CX0 (n + 1) f fd ["chain", "row"] (spP K RRep) := by
  refine F.ok sc_rep (fun vs H Q E h => ?_) (fun cdv A outer s0 H vs Q E hr h => ?_)
  · obtain ⟨M, ds, d, ⟨rs, row, s, e, rfl, _⟩, _, r, _⟩ := h
    exact r.len
  · obtain ⟨M, ds, d, ⟨rs, row, s, e, rfl, hne, h1000, h8, cy, rfl⟩, g, r, q⟩ := h
    have zz := line_big
    have hp0 : 0 < row.length := List.length_pos_iff.mpr hne
    obtain ⟨sb, eb, cyb, bound⟩ := cyc_there (rs := rs) hne
    obtain ⟨es, ee⟩ := cyb.one cy
    subst es ee
    have heB : eb ≤ 10000 := by
      have : rs.length * (row.length + 1) ≤ 8 * (row.length + 1) := Nat.mul_le_mul_right _ h8
      omega
    have big : 10000 < sizeLine := by decide
    have E0' : Env K M (L2.start nmRep vs) H [.dat (.chain rs), .dat (.lst (row.map D.int)), .any, .any, .any, .any, .any, .any] := env_startD r
    refine ⟨_, wpS_ok, ?_⟩
    generalize L2.start nmRep vs = σ0 at E0' ⊢
    clear r
    /- seen -/
    refine wp_cons (ps_set (i := 2) sc_rep.nd rfl (.inl rfl) pe_nkNew) (go_asg fun p hp => ?_)
    have sp : Same H (upd H p (NkO P w p [])) := same_new hp
    have S1 : En K (p :: M) (σ0.set 2 (some (.ref p))) (upd H p (NkO P w p [])) _ := ⟨(E0'.le (wo_cons hp sp)).setv (i := 2) (v := .ref p), (g.same sp).cons upd_same trivial⟩
    have hp1 : SeenAt P w (upd H p (NkO P w p [])) p rs row 0 := ⟨[], upd_same, (fun kv hk => by cases hk), rfl, fun i hi => absurd hi (Nat.not_lt_zero _)⟩
    dsimp only [List.set] at S1
    show wpS _ _ _ (σ0.set 2 (some (.ref p))) (upd H p (NkO P w p []))
    generalize σ0.set 2 (some (V.ref p)) = σ1 at S1 ⊢
    generalize upd H p (NkO P w p []) = H1 at S1 sp hp1 ⊢
    /- helds -/
    refine wp_cons (ps_set (i := 3) sc_rep.nd rfl (.inl rfl) (pe_lst pa_nil)) ?_
    refine ⟨Nat.zero_le _, fun hl hhl => ?_⟩
    have s2 : Same H1 (upd H1 hl (.lst [])) := same_new hhl
    have S2 : En K (hl :: p :: M) (σ1.set 3 (some (.ref hl))) (upd H1 hl (.lst [])) _ := ⟨(S1.e.le (wo_cons hhl s2)).setv (i := 3) (v := .ref hl), (S1.g.same s2).lst upd_same⟩
    have e2 : upd H1 hl (.lst []) hl = some (.lst []) := upd_same
    have hp2 := hp1.same (fun b ys z => s2 _ _ z) (fun o z => s2 _ _ z)
    have nhp : hl ≠ p := fun z => by
      obtain ⟨kvs, z1, _⟩ := hp1.ex
      rw [← z, hhl] at z1
      cases z1
    dsimp only [List.set] at S2
    show wpS _ _ _ (σ1.set 3 (some (.ref hl))) (upd H1 hl (.lst []))
    generalize σ1.set 3 (some (V.ref hl)) = σ2 at S2 ⊢
    generalize upd H1 hl (.lst []) = H2 at S2 s2 e2 hp2 ⊢
    /- outs -/
    refine wp_cons (ps_set (i := 4) sc_rep.nd rfl (.inl rfl) (pe_lst pa_nil)) ?_
    refine ⟨Nat.zero_le _, fun ol hol => ?_⟩
    have s3 : Same H2 (upd H2 ol (.lst [])) := same_new hol
    have S3 : En K (ol :: hl :: p :: M) (σ2.set 4 (some (.ref ol))) (upd H2 ol (.lst [])) _ := ⟨(S2.e.le (wo_cons hol s3)).setv (i := 4) (v := .ref ol), (S2.g.same s3).lst upd_same⟩
    have e3 : upd H2 ol (.lst []) ol = some (.lst []) := upd_same
    have e3' : upd H2 ol (.lst []) hl = some (.lst []) := s3 _ _ e2
    have hp3 := hp2.same (fun b ys z => s3 _ _ z) (fun o z => s3 _ _ z)
    have nop : ol ≠ p := fun z => by
      obtain ⟨kvs, z1, _⟩ := hp2.ex
      rw [← z, hol] at z1
      cases z1
    have noh : ol ≠ hl := fun z => by
      rw [← z, hol] at e2
      cases e2
    have sH : Same H (upd H2 ol (.lst [])) := (sp.trans s2).trans s3
    dsimp only [List.set] at S3
    show wpS _ _ _ (σ2.set 4 (some (.ref ol))) (upd H2 ol (.lst []))
    generalize σ2.set 4 (some (V.ref ol)) = σ3 at S3 ⊢
    have fO : H ol = none := (sp.trans s2).free hol
    generalize upd H2 ol (.lst []) = H3 at S3 e3 e3' hp3 sH s3 ⊢
    have fH : H hl = none := sp.free hhl
    clear S1 S2 hp1 hp2 s2 s3 sp e2
    obtain ⟨MM, eMM⟩ : ∃ MM, MM = ol :: hl :: p :: M := ⟨_, rfl⟩
    have pMM : p ∈ MM := by rw [eMM]; exact List.mem_cons_of_mem _ (List.mem_cons_of_mem _ List.mem_cons_self)
    have hMM : hl ∈ MM := by rw [eMM]; exact List.mem_cons_of_mem _ List.mem_cons_self
    have oMM : ol ∈ MM := by rw [eMM]; exact List.mem_cons_self
    rw [← eMM] at S3
    /- held, place -/
    refine en_set (ps_set (i := 5) sc_rep.nd rfl (.inl rfl) (pe_prop (pv 0) C.cls C.empty Em (hr.mono h1n) bE .nil pass0 rfl)) S3 (rd_chemptyK (S3.rd (i := 0) rfl)) fun σ4 H4 s4 S4 => ?_
    dsimp only [List.set] at S4
    refine en_set (ps_set (i := 6) sc_rep.nd rfl (.inl rfl) pe_int) S4 rd_int fun σ5 H5 s5 S5 => ?_
    dsimp only [List.set] at S5
    have s45 := s4.trans s5
    obtain ⟨RI, eRI⟩ : ∃ RI : Nat → L2.St → Hp → Prop, RI = fun j σ H' => En K MM σ H' [.dat (.chain rs), .dat (.lst (row.map D.int)), .val (.ref p), .val (.ref hl), .val (.ref ol), .dat (hdD (heldF rs row j)), .dat (.int ((j % row.length : Nat) : Int)), .any] ∧ Same H H' ∧ SeenAt P w H' p rs row j ∧ (∃ vs, H' hl = some (.lst vs) ∧ RpL K (wo MM H') ((List.range j).map fun i => hdD (heldF rs row i)) vs) ∧ ∃ us, H' ol = some (.lst us) ∧ RpL K (wo MM H') ((List.range j).map fun i => dO (outF rs row i)) us := ⟨_, rfl⟩
    have R0 : RI 0 σ5 H5 := by
      rw [eRI]
      refine ⟨?_, sH.trans s45, hp3.same (fun b ys z => s45 _ _ z) (fun o z => s45 _ _ z), ⟨[], s45 _ _ e3', rfl⟩, [], s45 _ _ e3, rfl⟩
      rw [held_zero, Nat.zero_mod]
      exact S5
    clear S3 S4 S5 hp3 e3 e3'
    have wlen : ∀ {H' : Hp} {x : Addr} {o : HO}, x ∈ MM → wo MM (upd H' x o) = wo MM H' := fun h => wo_upd h
    refine wp_cons (ps_while PassesOwn.never (pt_cmp (pc_nkNotIn hr.units (pe_tup (pa_cons (pv 5) (pa_cons (pv 6) pa_nil))) (pv 2))) wpS_ok) ?_
    refine ⟨fun m σ H' => ∃ j, j ≤ eb ∧ m = eb - j ∧ RI j σ H', ⟨eb, 0, Nat.zero_le _, rfl, R0⟩, ?_⟩
    rintro m σ H' ⟨j, hj, rfl, R⟩
    rw [eRI] at R
    obtain ⟨S, sHH, sn, ⟨hv, ev, rv⟩, us, eu, ru⟩ := R
    obtain ⟨v5, e5, r5⟩ := S.e.dat (i := 5) rfl
    obtain ⟨v6, e6, r6⟩ := S.e.dat (i := 6) rfl
    cases r6
    have lv : hv.length = j := by rw [rv.len, List.length_map, List.length_range]
    have lu : us.length = j := by rw [ru.len, List.length_map, List.length_range]
    obtain ⟨kvs, k1, k2, k3, k4⟩ := sn.ex
    have lk : kvs.length = j := by
      have z := congrArg List.length k3
      rw [List.length_map, List.length_map, List.length_range] at z
      exact z
    have two : 2 ≤ sizeLine := by decide
    refine ⟨_, e5, _, e6, two, fun T hT => ?_⟩
    have sT : Same H' (upd H' T (.tup [v5, .int ((j % row.length : Nat) : Int)])) := same_new hT
    have nkT : NK (upd H' T (.tup [v5, .int ((j % row.length : Nat) : Int)])) (nkF rs row j) (.ref T) := .tup upd_same (.cons ((nk_held r5).keep fun b ys z => sT _ _ (wo_le _ _ z)) (.cons .int .nil))
    refine ⟨_, S.e.val (i := 2) rfl, p, T, kvs, nkF rs row j, rfl, rfl, sT _ _ k1, k2.keep (fun b ys z => sT _ _ z), nkT, nkF_depth _ _ _, _, rfl, ?_⟩
    have S := S.same sT
    have sHH := sHH.trans sT
    have ev := sT _ _ ev
    have eu := sT _ _ eu
    have rv := RpL.same (swo (M := MM) sT) _ rv
    have ru := RpL.same (swo (M := MM) sT) _ ru
    have r5 := Rp.same (swo (M := MM) sT) _ r5
    have k1 := sT _ _ k1
    have k2 := k2.keep (fun b ys z => sT _ _ z)
    generalize upd H' T (.tup [v5, .int ((j % row.length : Nat) : Int)]) = H6 at S sHH ev eu rv ru r5 k1 k2 ⊢
    clear nkT sT hT sn
    rcases Nat.lt_or_ge j eb with hlt | hge
    · have nin : nkF rs row j ∉ kvs.map (·.1) := fun z => by
        rw [k3] at z
        obtain ⟨i, hi, e⟩ := List.mem_map.mp z
        exact cy.fresh i j (List.mem_range.mp hi) hlt (nkF_inj e)
      rw [decide_eq_false nin]
      refine iteT ⟨RI (j + 1), fun σ' H' h => ⟨eb - (j + 1), by omega, j + 1, hlt, rfl, h⟩, ?_⟩
      /- seen[held, place] = len(helds) -/
      refine wp_cons (ps_nkput hr.units (pv 2) (pe_tup (pa_cons (pv 5) (pa_cons (pv 6) pa_nil))) (pe_callB (r := rLenS K) call_len_seq (by rfl) B.len boot_len' (pa_cons (pv 3) pa_nil)) (by rfl)) ?_
      refine ⟨_, S.e.val (i := 3) rfl, hl, hv, rfl, .inl (SqL.of ev), _, S.e.val (i := 2) rfl, _, e5, _, e6, two, fun T hT => ?_⟩
      have sT : Same H6 (upd H6 T (.tup [v5, .int ((j % row.length : Nat) : Int)])) := same_new hT
      have nkT : NK (upd H6 T (.tup [v5, .int ((j % row.length : Nat) : Int)])) (nkF rs row j) (.ref T) := .tup upd_same (.cons ((nk_held r5).keep fun b ys z => sT _ _ (wo_le _ _ z)) (.cons .int .nil))
      refine ⟨p, T, kvs, nkF rs row j, rfl, rfl, sT _ _ k1, k2.keep (fun b ys z => sT _ _ z), nkT, nkF_depth _ _ _, nin, by omega, ?_⟩
      rw [lv]
      have k1 := sT _ _ k1
      have k2 := k2.keep (fun b ys z => sT _ _ z)
      have ev := sT _ _ ev
      have eu := sT _ _ eu
      have rv := RpL.same (swo (M := MM) sT) _ rv
      have ru := RpL.same (swo (M := MM) sT) _ ru
      have r5 := Rp.same (swo (M := MM) sT) _ r5
      have S := S.same sT
      have sHH := sHH.trans sT
      generalize upd H6 T (.tup [v5, .int ((j % row.length : Nat) : Int)]) = H7 at S sHH ev eu rv ru r5 k1 k2 nkT ⊢
      have eW := wlen (H' := H7) (x := p) (o := NkO P w p (kvs ++ [(nkF rs row j, T, V.int (j : Nat))])) pMM
      have tk : ∀ (b : Addr) (ys : TupO), H7 b = some ys.1 → upd H7 p (NkO P w p (kvs ++ [(nkF rs row j, T, V.int (j : Nat))])) b = some ys.1 := fun b ys z => by
        rw [upd_ne (fun y => by rw [y, k1] at z; exact ys.noext z)]
        exact z
      have sn : SeenAt P w (upd H7 p (NkO P w p (kvs ++ [(nkF rs row j, T, V.int (j : Nat))]))) p rs row (j + 1) := by
        refine ⟨_, upd_same, fun kv hk => ?_, ?_, fun i hi => ?_⟩
        · rcases List.mem_append.mp hk with hk | hk
          · exact ⟨(k2 kv hk).1.keep tk, (k2 kv hk).2⟩
          · rw [List.mem_singleton.mp hk]
            exact ⟨nkT.keep tk, nkF_depth _ _ _⟩
        · rw [List.map_append, k3, List.range_succ, List.map_append]
          rfl
        · rcases Nat.lt_or_ge i j with h | h
          · obtain ⟨b, hb⟩ := k4 i h
            exact ⟨b, List.mem_append_left _ hb⟩
          · have e : i = j := by omega
            subst e
            exact ⟨T, List.mem_append_right _ (List.mem_singleton.mpr rfl)⟩
      have S : En K MM σ (upd H7 p (NkO P w p (kvs ++ [(nkF rs row j, T, V.int (j : Nat))]))) _ := ⟨S.e.le (by rw [eW]; exact Same.refl _), S.g.at trivial⟩
      have sHH : Same H (upd H7 p (NkO P w p (kvs ++ [(nkF rs row j, T, V.int (j : Nat))]))) := fun b o z => by
        rw [upd_ne (ne_of_none z hp)]
        exact sHH _ _ z
      have ev : upd H7 p (NkO P w p (kvs ++ [(nkF rs row j, T, V.int (j : Nat))])) hl = some (.lst hv) := by rw [upd_ne nhp]; exact ev
      have eu : upd H7 p (NkO P w p (kvs ++ [(nkF rs row j, T, V.int (j : Nat))])) ol = some (.lst us) := by rw [upd_ne nop]; exact eu
      rw [← eW] at rv ru r5
      show wpS _ _ _ σ (upd H7 p (NkO P w p (kvs ++ [(nkF rs row j, T, V.int (j : Nat))])))
      generalize upd H7 p (NkO P w p (kvs ++ [(nkF rs row j, T, V.int (j : Nat))])) = H8 at S sHH ev eu rv ru r5 sn ⊢
      clear k1 k2 k3 k4 eW tk nkT sT hT
      /- helds.append(held) -/
      refine wp_cons (ps_expr (pe_bm PySem.F.plainAttrs_list PySem.F.slot_list_append PySem.F.type_list_append mt_append (pv 3) (pa_cons (pv 5) pa_nil))) ?_
      refine ⟨_, S.e.val (i := 3) rfl, .inl ⟨rfl, _, SqL.of ev⟩, _, e5, hl, hv, v5, rfl, rfl, ev, by omega, ?_⟩
      have eW := wlen (H' := H8) (x := hl) (o := .lst (hv ++ [v5])) hMM
      have sn := sn.same (H' := upd H8 hl (.lst (hv ++ [v5]))) (fun b ys z => by rw [upd_ne (fun y => by rw [y, ev] at z; exact ys.nolst z)]; exact z) (fun o z => by rw [upd_ne (Ne.symm nhp)]; exact z)
      have S : En K MM σ (upd H8 hl (.lst (hv ++ [v5]))) _ := ⟨S.e.le (by rw [eW]; exact Same.refl _), S.g.at trivial⟩
      have sHH : Same H (upd H8 hl (.lst (hv ++ [v5]))) := fun b o z => by
        rw [upd_ne (ne_of_none z fH)]
        exact sHH _ _ z
      have eu : upd H8 hl (.lst (hv ++ [v5])) ol = some (.lst us) := by rw [upd_ne noh]; exact eu
      have ev : upd H8 hl (.lst (hv ++ [v5])) hl = some (.lst (hv ++ [v5])) := upd_same
      rw [← eW] at rv ru r5
      have rv : RpL K (wo MM (upd H8 hl (.lst (hv ++ [v5])))) ((List.range (j + 1)).map fun i => hdD (heldF rs row i)) (hv ++ [v5]) := by
        rw [List.range_succ, List.map_append]
        exact rv.snoc r5
      show wpS _ _ _ σ (upd H8 hl (.lst (hv ++ [v5])))
      generalize upd H8 hl (.lst (hv ++ [v5])) = H9 at S sHH ev eu rv ru sn ⊢
      clear eW r5
      /- held, out = chain.step(held, row[place]) -/
      obtain ⟨nn, hnn⟩ : ∃ nn, row[j % row.length]? = some nn := ⟨_, List.getElem?_eq_getElem (Nat.mod_lt _ hp0)⟩
      have rst : Rd K MM _ σ H9 (.tup [hdD (heldF rs row (j + 1)), dO (outF rs row j)]) := (rd_stepK (held_len rs row j) (held_fill hne j) (S.rd (i := 0) rfl) (rda_cons (S.rd (i := 5) rfl) (rda_one (rd_atM hnn (S.rd (i := 1) rfl) (S.rd (i := 6) rfl))))).cast (by rw [held_step hnn]; rfl)
      refine en_tup2 (ps_asg (pe_meth (pv 0) C.cls C.step STP hr bS .nil pass0 (pa_cons (pv 5) (pa_cons (pe_ix (r := rIxL K) ix_list (pv 1) (pv 6) (fun _ _ => rfl)) pa_nil))) (pg_tup rfl (pgs_cons (pg_name (i := 5) sc_rep.nd rfl (.inl rfl)) (pgs_cons (pg_name (i := 7) sc_rep.nd rfl (.inl rfl)) pgs_nil)))) S rst fun σ9 H10 s10 S => ?_
      dsimp only [List.set] at S
      have sn := sn.same (fun b ys z => s10 _ _ z) (fun o z => s10 _ _ z)
      have sHH := sHH.trans s10
      have ev := s10 _ _ ev
      have eu := s10 _ _ eu
      have rv := RpL.same (swo (M := MM) s10) _ rv
      have ru := RpL.same (swo (M := MM) s10) _ ru
      /- outs.append(out) -/
      obtain ⟨v7, e7, r7⟩ := S.e.dat (i := 7) rfl
      refine wp_cons (ps_expr (pe_bm PySem.F.plainAttrs_list PySem.F.slot_list_append PySem.F.type_list_append mt_append (pv 4) (pa_cons (pv 7) pa_nil))) ?_
      refine ⟨_, S.e.val (i := 4) rfl, .inl ⟨rfl, _, SqL.of eu⟩, _, e7, ol, us, v7, rfl, rfl, eu, by omega, ?_⟩
      have eW := wlen (H' := H10) (x := ol) (o := .lst (us ++ [v7])) oMM
      have sn := sn.same (H' := upd H10 ol (.lst (us ++ [v7]))) (fun b ys z => by rw [upd_ne (fun y => by rw [y, eu] at z; exact ys.nolst z)]; exact z) (fun o z => by rw [upd_ne (Ne.symm nop)]; exact z)
      have S : En K MM σ9 (upd H10 ol (.lst (us ++ [v7]))) _ := ⟨S.e.le (by rw [eW]; exact Same.refl _), S.g.at trivial⟩
      have sHH : Same H (upd H10 ol (.lst (us ++ [v7]))) := fun b o z => by
        rw [upd_ne (ne_of_none z fO)]
        exact sHH _ _ z
      have ev : upd H10 ol (.lst (us ++ [v7])) hl = some (.lst (hv ++ [v5])) := by rw [upd_ne (Ne.symm noh)]; exact ev
      have eu : upd H10 ol (.lst (us ++ [v7])) ol = some (.lst (us ++ [v7])) := upd_same
      rw [← eW] at rv ru r7
      have ru : RpL K (wo MM (upd H10 ol (.lst (us ++ [v7])))) ((List.range (j + 1)).map fun i => dO (outF rs row i)) (us ++ [v7]) := by
        rw [List.range_succ, List.map_append]
        exact ru.snoc r7
      show wpS _ _ _ σ9 (upd H10 ol (.lst (us ++ [v7])))
      generalize upd H10 ol (.lst (us ++ [v7])) = H11 at S sHH ev eu rv ru sn ⊢
      /- place -/
      have em : (((j % row.length : Nat) : Int) + 1) % ((row.length : Nat) : Int) = (((j + 1) % row.length : Nat) : Int) := by
        have z : (((j % row.length + 1) % row.length : Nat) : Int) = (((j + 1) % row.length : Nat) : Int) := by rw [Nat.mod_add_mod]
        rw [← z]
        rfl
      refine en_set (ps_set (i := 6) sc_rep.nd rfl (.inl rfl) (pe_op op_mod (pe_op op_add (pv 6) pe_int) (pe_callB (r := rLenS K) call_len_seq (by rfl) B.len boot_len' (pa_cons (pv 1) pa_nil)))) S ((rd_mod (by omega) (rd_add (S.rd (i := 6) rfl) rd_int) (rd_lenM (rda_one (S.rd (i := 1) rfl)))).cast (congrArg D.int em)) fun σ10 H12 s12 S => ?_
      dsimp only [List.set] at S
      refine wp_nil ?_
      show RI (j + 1) σ10 H12
      rw [eRI]
      exact ⟨⟨S.e.fgt (by repeat (first | exact Fgt.nil | apply Fgt.keep | apply Fgt.any)), S.g⟩, sHH.trans s12, sn.same (fun b ys z => s12 _ _ z) (fun o z => s12 _ _ z), ⟨_, s12 _ _ ev, RpL.same (swo (M := MM) s12) _ rv⟩, _, s12 _ _ eu, RpL.same (swo (M := MM) s12) _ ru⟩
    · have ej : j = eb := by omega
      subst ej
      have inn : nkF rs row j ∈ kvs.map (·.1) := by
        rw [k3, nkF_eq cy.again]
        exact List.mem_map.mpr ⟨sb, List.mem_range.mpr cy.lt, rfl⟩
      rw [decide_eq_true inn]
      refine iteF ?_
      show wpS _ _ _ σ H6
      refine wp_one (ps_ret (pe_tup (pa_cons (pv 3) (pa_cons (pv 4) (pa_cons (pe_nkGet hr.units (pv 2) (pe_tup (pa_cons (pv 5) (pa_cons (pv 6) pa_nil))) (fun _ _ => rfl)) pa_nil))))) ?_
      refine ⟨_, S.e.val (i := 3) rfl, _, S.e.val (i := 4) rfl, _, S.e.val (i := 2) rfl, _, e5, _, e6, two, fun T hT => ?_⟩
      have sT : Same H6 (upd H6 T (.tup [v5, .int ((j % row.length : Nat) : Int)])) := same_new hT
      have nkT : NK (upd H6 T (.tup [v5, .int ((j % row.length : Nat) : Int)])) (nkF rs row j) (.ref T) := .tup upd_same (.cons ((nk_held r5).keep fun b ys z => sT _ _ (wo_le _ _ z)) (.cons .int .nil))
      obtain ⟨b, hb⟩ := k4 sb cy.lt
      refine ⟨p, T, kvs, nkF rs row j, b, _, rfl, rfl, sT _ _ k1, k2.keep (fun b ys z => sT _ _ z), nkT, nkF_depth _ _ _, by rw [nkF_eq cy.again]; exact hb, by show 3 ≤ sizeLine; decide, fun pt hpt => ?_⟩
      have sp2 := same_new (o := .tup [.ref hl, .ref ol, .int (sb : Nat)]) hpt
      have sE := sT.trans sp2
      have S := S.same sE
      have inM : ∀ x, x ∈ M → x ∈ MM := fun x hx => by rw [eMM]; exact List.mem_cons_of_mem _ (List.mem_cons_of_mem _ (List.mem_cons_of_mem _ hx))
      have nM : ∀ {x : Addr}, H x = none → x ∉ M := fun hx => g.out hx
      have gM : Gd K M (upd (upd H6 T (.tup [v5, .int ((j % row.length : Nat) : Int)])) pt (.tup [.ref hl, .ref ol, .int (sb : Nat)])) := fun x hx => S.g x (inM x hx)
      have wsub : Same (wo MM (upd (upd H6 T (.tup [v5, .int ((j % row.length : Nat) : Int)])) pt (.tup [.ref hl, .ref ol, .int (sb : Nat)]))) (wo M (upd (upd H6 T (.tup [v5, .int ((j % row.length : Nat) : Int)])) pt (.tup [.ref hl, .ref ol, .int (sb : Nat)]))) := wo_sub inM
      have rv' := RpL.same ((swo (M := MM) sE).trans wsub) _ rv
      have ru' := RpL.same ((swo (M := MM) sE).trans wsub) _ ru
      have ptM : pt ∉ M := fun z => by
        obtain ⟨o, y, _⟩ := g pt z
        have y2 := (sHH.trans sT) _ _ y
        rw [hpt] at y2
        cases y2
      refine q _ _ (sHH.trans sE) gM ⟨pt, _, rfl, by rw [wo_at ptM]; exact upd_same, _, _, rfl, ⟨hl, hv, rfl, by rw [wo_at (nM fH)]; exact sE _ _ ev, rv'⟩, _, _, rfl, ⟨ol, us, rfl, by rw [wo_at (nM fO)]; exact sE _ _ eu, ru'⟩, _, _, rfl, rfl, rfl⟩
end
end SC
set_option maxRecDepth 100000
set_option maxHeartbeats 2000000
/-! # nth_out, held_after, find_cycle -/
namespace SC
open PySem PySem.Spec PyProof.Rows L2 TL
def RSame (ds : List D) (d : D) : Prop := ∃ (t s e : Nat), ds = [.int (t : Nat), .int (s : Nat), .int (e : Nat)] ∧ s < e ∧ d = .int (sameT t s e : Nat)
def spCount : Sp := fun vs H Q _ => ∃ (n lo : Int), vs = [.int n, .int lo] ∧ lo ≤ n ∧ n ≤ 1000000000000000000 ∧ Q .non H
/-- a row that may come again and again -/
def FlowOk (rs : List Rule) (row : List Int) : Prop := row ≠ [] ∧ row.length ≤ 12 ∧ (∀ z ∈ row, numOk z) ∧ 1 ≤ rs.length ∧ rs.length ≤ 8
def RNth (ds : List D) (d : D) : Prop := ∃ (rs : List Rule) (row : List Int) (n : Nat), ds = [.chain rs, .lst (row.map D.int), .int (n : Nat)] ∧ FlowOk rs row ∧ 1 ≤ n ∧ n ≤ 1000000000000000000 ∧ d = dO (outF rs row (rs.length + n - 1))
def RHeld (ds : List D) (d : D) : Prop := ∃ (rs : List Rule) (row : List Int) (n : Nat), ds = [.chain rs, .lst (row.map D.int), .int (n : Nat)] ∧ FlowOk rs row ∧ n ≤ 1000000000000000000 ∧ d = hdD (heldF rs row n)
def RCyc (ds : List D) (d : D) : Prop := ∃ (rs : List Rule) (row : List Int) (s e : Nat), ds = [.chain rs, .lst (row.map D.int)] ∧ FlowOk rs row ∧ Cyc rs row s e ∧ d = .tup [.int (s : Nat), .int ((e - s : Nat) : Int)]
section
variable {P : Program} {w : World} {K : PySem.W.Frag} {mg : Str → Option Value} {base : Heap} {M : List Addr} {σ : L2.St} {H : Hp}
def nmSame : List Str := ["tick", "start", "end"]
theorem sc_same : FnScope nmSame ["tick", "start", "end"] (defScope s_same_tick) := ⟨rfl, rfl, rfl, by decide +kernel, rfl, by decide +kernel, by decide +kernel⟩
theorem ok_same {f : Addr} {fd : FuncData} (F : Fun K "same_tick" "same_tick" s_same_tick f fd) : FnOk P w K mg base CX0 1 f fd ["tick", "start", "end"] (spP K RSame) := by
  refine F.ok sc_same (fun vs H Q E h => ?_) (fun cdv A outer s0 H vs Q E hr h => ?_)
  · obtain ⟨M, ds, d, ⟨t, s, e, rfl, _⟩, _, r, _⟩ := h
    exact r.len
  · obtain ⟨M, ds, d, ⟨t, s, e, rfl, lt, rfl⟩, g, r, q⟩ := h
    have E1 : Env K M (L2.start nmSame vs) H [.dat (.int (t : Nat)), .dat (.int (s : Nat)), .dat (.int (e : Nat))] := env_startD r
    refine ⟨_, wpS_ok, ?_⟩
    generalize L2.start nmSame vs = σ0 at E1 ⊢
    have S : En K M σ0 H _ := ⟨E1, g⟩
    refine wp_cons (ps_if (pt_cmpR op_lt (pv 0) (pv 2) (nomark _)) (pss_one (ps_ret (pv 0))) pss_nil) ?_
    refine use_if (rdt_test (rd_lt (S.rd (i := 0) rfl) (S.rd (i := 2) rfl))) g fun H2 s2 g2 => ?_
    unfold sameT at q
    by_cases c : t < e
    · rw [if_pos c] at q
      rw [decide_eq_true (by omega : ((t : Nat) : Int) < ((e : Nat) : Int))]
      refine iteT ?_
      exact use_ret ((S.same s2).rd (i := 0) rfl) g2 fun v H3 s3 g3 r3 => q v H3 (s2.trans s3) g3 r3
    · rw [if_neg c] at q
      rw [decide_eq_false (by omega : ¬ ((t : Nat) : Int) < ((e : Nat) : Int))]
      refine iteF ?_
      have S := S.same s2
      have ev : ((s : Nat) : Int) + (((t : Nat) : Int) - ((s : Nat) : Int)) % (((e : Nat) : Int) - ((s : Nat) : Int)) = ((s + (t - s) % (e - s) : Nat) : Int) := by
        have h1 : ((t : Nat) : Int) - ((s : Nat) : Int) = ((t - s : Nat) : Int) := by omega
        have h2 : ((e : Nat) : Int) - ((s : Nat) : Int) = ((e - s : Nat) : Int) := by omega
        rw [h1, h2]
        rfl
      refine wp_one (ps_ret (pe_op op_add (pv 1) (pe_op op_mod (pe_op op_sub (pv 0) (pv 1)) (pe_op op_sub (pv 2) (pv 1))))) ?_
      exact use_ret ((rd_add (S.rd (i := 1) rfl) (rd_mod (by omega) (rd_sub (S.rd (i := 0) rfl) (S.rd (i := 1) rfl)) (rd_sub (S.rd (i := 2) rfl) (S.rd (i := 1) rfl)))).cast (congrArg D.int ev)) g2 fun v H3 s3 g3 r3 => q v H3 (s2.trans s3) g3 r3
def nmCount : List Str := ["value", "least"]
theorem sc_count : FnScope nmCount ["value", "least"] (defScope s_check_count) := ⟨rfl, rfl, rfl, by decide +kernel, rfl, by decide +kernel, by decide +kernel⟩
theorem ok_count {f g : Addr} {fd gd : FuncData} {t1 : Tok} (F : Fun K "check_count" "check_count" s_check_count f fd) (hM : mg "MOST_TICKS" = some (.int 1000000000000000000 t1)) (G : FnOk P w K mg base CX0 1 g gd ["value", "least", "most"] (spWithin K)) (bG : Binds K gd ["value", "least", "most"] []) (kG : PySem.W.keepIn K (.ref g) = true) (hg : mg "is_within" = some (.ref g)) :
    FnOk P w K mg base CX0 2 f fd ["value", "least"] spCount := by
  refine F.ok sc_count (fun vs H Q E h => ?_) (fun cdv A outer s H vs Q E hr h => ?_)
  · obtain ⟨v, n, rfl, _⟩ := h
    rfl
  · obtain ⟨n, lo, rfl, h1, h2, q⟩ := h
    refine ⟨_, pss_one (ps_if (pt_not (pt_val (pe_call G hr (by rfl) hg kG bG .nil pass0 (pa_cons (pv 0) (pa_cons (pv 1) (pa_cons (pe_glob (v := .int 1000000000000000000) (by rfl) hM ⟨_, rfl⟩) pa_nil)))))) pss_never pss_nil), ?_⟩
    refine ⟨_, rfl, _, rfl, _, _, _, rfl, .inl ⟨n, rfl, _, rfl, ?_⟩⟩
    have e : (decide (lo ≤ n) && decide (n ≤ 1000000000000000000)) = true := by
      simp
      omega
    rw [e]
    exact iteF q
theorem en_some {X : Cx} (hK : X.K = K) {b : List Stmt} {st : Stmt} {i : Nat} {De : Ends} {ρ : List Sl} {row : List Int} (hps : PS X st (tDrop (tCall (spSome K) [] E0 (tCons (tVar i) (tCons (tC (.int 12)) tNil))))) (S : En K M σ H ρ) (hi : ρ[i]? = some (.dat (.lst (row.map D.int)))) (h12 : row.length ≤ 12) (hn : ∀ z ∈ row, numOk z) (hne : row ≠ [])
    (k : ∀ H', Same H H' → En K M σ H' ρ → wpS X b De σ H') : wpS X (st :: b) De σ H := by
  refine wp_cons hps ?_
  obtain ⟨v, e, a, vs, rfl, ea, ra⟩ := S.e.dat hi
  rw [rp_ints.mp ra] at ea
  refine ⟨_, e, a, row, 12, rfl, wo_le _ _ ea, by omega, hn, hne, fun H' s' => k H' s' (S.same s')⟩

abbrev GRp (P : Program) (w : World) (K : PySem.W.Frag) (mg : Str → Option Value) (base : Heap) (n : Nat) : Prop := Fu P w K mg base CX0 n "run_until_repeat" ["chain", "row"] (spP K RRep)
theorem FlowOk.rep {rs : List Rule} {row : List Int} {s e : Nat} (h : FlowOk rs row) (c : Cyc rs row s e) : RRep [.chain rs, .lst (row.map D.int)] (repD rs row s e) := ⟨rs, row, s, e, rfl, h.1, by have := h.2.1; omega, h.2.2.2.2, c, rfl⟩
theorem rep_held {rs : List Rule} {row : List Int} {s e t : Nat} (hr : row ≠ []) (c : Cyc rs row s e) : ((List.range e).map (heldF rs row))[sameT t s e]? = some (heldF rs row t) := by
  obtain ⟨h1, h2, _⟩ := c.same hr t
  rw [List.getElem?_map, List.getElem?_range h1]
  exact congrArg some (congrArg Prod.fst h2).symm
theorem rep_out {rs : List Rule} {row : List Int} {s e t : Nat} (hr : row ≠ []) (c : Cyc rs row s e) : ((List.range e).map (outF rs row))[sameT t s e]? = some (outF rs row t) := by
  obtain ⟨h1, _, h3⟩ := c.same hr t
  rw [List.getElem?_map, List.getElem?_range h1]
  exact congrArg some h3.symm
theorem rep_as {rs : List Rule} {row : List Int} {s e : Nat} : repD rs row s e = .tup [.lst (((List.range e).map (heldF rs row)).map hdD), .lst (((List.range e).map (outF rs row)).map dO), .int (s : Nat)] := by
  unfold repD
  rw [List.map_map, List.map_map]
  rfl
def nmCyc : List Str := ["chain", "row", "helds", "outs", "start"]
theorem sc_cyc : FnScope nmCyc ["chain", "row"] (defScope s_find_cycle) := ⟨rfl, rfl, rfl, by decide +kernel, rfl, by decide +kernel, by decide +kernel⟩
theorem ok_cyc {f : Addr} {fd : FuncData} {n : Nat} {t1 : Tok} (h4 : 4 ≤ n) (F : Fun K "find_cycle" "find_cycle" s_find_cycle f fd) (B : Bln mg) (hL : mg "LONGEST_REPEATED" = some (.int 12 t1)) (GSm : Fu P w K mg base CX0 4 "check_some" ["row", "longest"] (spSome K)) (GR : GRp P w K mg base n) : FnOk P w K mg base CX0 (n + 1) f fd ["chain", "row"] (spP K RCyc) := by
  refine F.ok sc_cyc (fun vs H Q E h => ?_) (fun cdv A outer s0 H vs Q E hr h => ?_)
  · obtain ⟨M, ds, d, ⟨rs, row, s, e, rfl, _⟩, _, r, _⟩ := h
    exact r.len
  · obtain ⟨M, ds, d, ⟨rs, row, s, e, rfl, fo, cy, rfl⟩, g, r, q⟩ := h
    have E1 : Env K M (L2.start nmCyc vs) H [.dat (.chain rs), .dat (.lst (row.map D.int)), .any, .any, .any] := env_startD r
    refine ⟨_, wpS_ok, ?_⟩
    generalize L2.start nmCyc vs = σ0 at E1 ⊢
    have S : En K M σ0 H _ := ⟨E1, g⟩
    refine en_some rfl (ps_expr (pe_fu GSm hr h4 (by rfl) pass0 (pa_cons (pv 1) (pa_cons (pe_glob (v := .int 12) (by rfl) hL ⟨_, rfl⟩) pa_nil)))) S rfl fo.2.1 fo.2.2.1 fo.1 fun H2 s2 S => ?_
    refine en_tup3 (ps_asg (pe_fu GR hr (Nat.le_refl _) (by rfl) pass0 (pa_cons (pv 0) (pa_cons (pv 1) pa_nil))) (pg_tup rfl (pgs_cons (pg_name (i := 2) sc_cyc.nd rfl (.inl rfl)) (pgs_cons (pg_name (i := 3) sc_cyc.nd rfl (.inl rfl)) (pgs_cons (pg_name (i := 4) sc_cyc.nd rfl (.inl rfl)) pgs_nil))))) S ((rd_P (fo.rep cy) (rda_cons (S.rd (i := 0) rfl) (rda_one (S.rd (i := 1) rfl)))).cast rep_as) fun σ1 H3 s3 S => ?_
    dsimp only [List.set] at S
    have lt := cy.lt
    have ev : ((((List.range e).map (heldF rs row)).length : Nat) : Int) - ((s : Nat) : Int) = ((e - s : Nat) : Int) := by rw [List.length_map, List.length_range]; omega
    refine wp_one (ps_ret (pe_tup (pa_cons (pv 4) (pa_cons (pe_op op_sub (pe_callB (r := rLenS K) call_len_seq (by rfl) B.len boot_len' (pa_cons (pv 2) pa_nil)) (pv 4)) pa_nil)))) ?_
    exact use_ret (rd_tupA (rda_cons (S.rd (i := 4) rfl) (rda_one ((rd_sub (rd_lenM (rda_one (S.rd (i := 2) rfl))) (S.rd (i := 4) rfl)).cast (congrArg D.int ev))))) S.g fun v H4 s4 g4 r4 => q v H4 ((s2.trans s3).trans s4) g4 r4
theorem use_count {t : TE} {ta : TE} {n lo : Int} {De : Ends} (ha : Rd K M ta σ H (.int n)) (g : Gd K M H) (h1 : lo ≤ n) (h2 : n ≤ 1000000000000000000) (k : ∀ H', Same H H' → Gd K M H' → De.nx σ H') : tDrop (tCall spCount [] E0 (tCons ta (tCons (tC (.int lo)) tNil))) De σ H :=
  ha H (Same.refl _) g _ fun v H2 s2 g2 r2 => by
    cases r2
    exact ⟨n, lo, rfl, h1, h2, k H2 s2 g2⟩
def nmNth : List Str := ["chain", "row", "number", "helds", "outs", "start", "tick"]
theorem sc_nth : FnScope nmNth ["chain", "row", "number"] (defScope s_nth_out) := ⟨rfl, rfl, rfl, by decide +kernel, rfl, by decide +kernel, by decide +kernel⟩
theorem ok_nth {f : Addr} {fd : FuncData} {n : Nat} {t1 : Tok} (h4 : 11 ≤ n) (F : Fun K "nth_out" "nth_out" s_nth_out f fd) (B : Bln mg) (C : ChainOk P w K mg base 10) (hL : mg "LONGEST_REPEATED" = some (.int 12 t1)) (GSm : Fu P w K mg base CX0 4 "check_some" ["row", "longest"] (spSome K)) (GC : Fu P w K mg base CX0 2 "check_count" ["value", "least"] spCount) (GT : Fu P w K mg base CX0 1 "same_tick" ["tick", "start", "end"] (spP K RSame)) (GR : GRp P w K mg base n) : FnOk P w K mg base CX0 (n + 1) f fd ["chain", "row", "number"] (spP K RNth) := by
  refine F.ok sc_nth (fun vs H Q E h => ?_) (fun cdv A outer s0 H vs Q E hr h => ?_)
  · obtain ⟨M, ds, d, ⟨rs, row, m, rfl, _⟩, _, r, _⟩ := h
    exact r.len
  · obtain ⟨M, ds, d, ⟨rs, row, m, rfl, fo, hm1, hm, rfl⟩, g, r, q⟩ := h
    obtain ⟨s, e, cy, _⟩ := cyc_there (rs := rs) fo.1
    have r11 := hr.mono h4
    have E1 : Env K M (L2.start nmNth vs) H [.dat (.chain rs), .dat (.lst (row.map D.int)), .dat (.int (m : Nat)), .any, .any, .any, .any] := env_startD r
    refine ⟨_, wpS_ok, ?_⟩
    generalize L2.start nmNth vs = σ0 at E1 ⊢
    have S : En K M σ0 H _ := ⟨E1, g⟩
    refine en_some rfl (ps_expr (pe_fu GSm hr (by omega) (by rfl) pass0 (pa_cons (pv 1) (pa_cons (pe_glob (v := .int 12) (by rfl) hL ⟨_, rfl⟩) pa_nil)))) S rfl fo.2.1 fo.2.2.1 fo.1 fun H2 s2 S => ?_
    refine wp_cons (ps_expr (pe_fu GC hr (by omega) (by rfl) pass0 (pa_cons (pv 2) (pa_cons pe_int pa_nil)))) (use_count (t := tVar 0) (S.rd (i := 2) rfl) S.g (by omega) (by omega) fun H3 s3 g3 => ?_)
    have S := S.same s3
    show wpS _ _ _ σ0 H3
    refine en_tup3 (ps_asg (pe_fu GR hr (Nat.le_refl _) (by rfl) pass0 (pa_cons (pv 0) (pa_cons (pv 1) pa_nil))) (pg_tup rfl (pgs_cons (pg_name (i := 3) sc_nth.nd rfl (.inl rfl)) (pgs_cons (pg_name (i := 4) sc_nth.nd rfl (.inl rfl)) (pgs_cons (pg_name (i := 5) sc_nth.nd rfl (.inl rfl)) pgs_nil))))) S ((rd_P (fo.rep cy) (rda_cons (S.rd (i := 0) rfl) (rda_one (S.rd (i := 1) rfl)))).cast rep_as) fun σ1 H4 s4 S => ?_
    dsimp only [List.set] at S
    have ev : (((rs.length : Nat) : Int) + ((m : Nat) : Int)) - 1 = ((rs.length + m - 1 : Nat) : Int) := by omega
    refine en_set (ps_set (i := 6) sc_nth.nd rfl (.inl rfl) (pe_op op_sub (pe_op op_add (pe_callB (r := rLenC K) (call_lenC C r11) (by rfl) B.len boot_len' (pa_cons (pv 0) pa_nil)) (pv 2)) pe_int)) S ((rd_sub (rd_add (rd_chlen (rda_one (S.rd (i := 0) rfl))) (S.rd (i := 2) rfl)) rd_int).cast (congrArg D.int ev)) fun σ2 H5 s5 S => ?_
    dsimp only [List.set] at S
    have rs1 : Rd K M _ σ2 H5 (.int (sameT (rs.length + m - 1) s e : Nat)) := rd_P (R := RSame) ⟨rs.length + m - 1, s, e, rfl, cy.lt, rfl⟩ (rda_cons (S.rd (i := 6) rfl) (rda_cons (S.rd (i := 5) rfl) (rda_one ((rd_lenM (rda_one (S.rd (i := 4) rfl))).cast (by rw [List.length_map, List.length_range])))))
    refine wp_one (ps_ret (pe_ix (r := rIxL K) ix_list (pv 4) (pe_fu GT hr (by omega) (by rfl) pass0 (pa_cons (pv 6) (pa_cons (pv 5) (pa_cons (pe_callB (r := rLenS K) call_len_seq (by rfl) B.len boot_len' (pa_cons (pv 4) pa_nil)) pa_nil)))) (fun _ _ => rfl))) ?_
    exact use_ret (rd_atM (rep_out fo.1 cy) (S.rd (i := 4) rfl) rs1) S.g fun v H6 s6 g6 r6 => q v H6 ((((s2.trans s3).trans s4).trans s5).trans s6) g6 r6
end
end SC
set_option maxRecDepth 100000
set_option maxHeartbeats 2000000
/-! # held_after -/
namespace SC
open PySem PySem.Spec PyProof.Rows L2 TL
section
variable {P : Program} {w : World} {K : PySem.W.Frag} {mg : Str → Option Value} {base : Heap} {M : List Addr} {σ : L2.St} {H : Hp}
def nmHeldA : List Str := ["chain", "row", "ticks", "helds", "outs", "start"]
theorem sc_heldA : FnScope nmHeldA ["chain", "row", "ticks"] (defScope s_held_after) := ⟨rfl, rfl, rfl, by decide +kernel, rfl, by decide +kernel, by decide +kernel⟩
theorem ok_heldA {f : Addr} {fd : FuncData} {n : Nat} {t1 : Tok} (h4 : 4 ≤ n) (F : Fun K "held_after" "held_after" s_held_after f fd) (B : Bln mg) (hL : mg "LONGEST_REPEATED" = some (.int 12 t1)) (GSm : Fu P w K mg base CX0 4 "check_some" ["row", "longest"] (spSome K)) (GC : Fu P w K mg base CX0 2 "check_count" ["value", "least"] spCount) (GT : Fu P w K mg base CX0 1 "same_tick" ["tick", "start", "end"] (spP K RSame)) (GR : GRp P w K mg base n) : FnOk P w K mg base CX0 (n + 1) f fd ["chain", "row", "ticks"] (spP K RHeld) := by
  refine F.ok sc_heldA (fun vs H Q E h => ?_) (fun cdv A outer s0 H vs Q E hr h => ?_)
  · obtain ⟨M, ds, d, ⟨rs, row, m, rfl, _⟩, _, r, _⟩ := h
    exact r.len
  · obtain ⟨M, ds, d, ⟨rs, row, m, rfl, fo, hm, rfl⟩, g, r, q⟩ := h
    obtain ⟨s, e, cy, _⟩ := cyc_there (rs := rs) fo.1
    have E1 : Env K M (L2.start nmHeldA vs) H [.dat (.chain rs), .dat (.lst (row.map D.int)), .dat (.int (m : Nat)), .any, .any, .any] := env_startD r
    refine ⟨_, wpS_ok, ?_⟩
    generalize L2.start nmHeldA vs = σ0 at E1 ⊢
    have S : En K M σ0 H _ := ⟨E1, g⟩
    refine en_some rfl (ps_expr (pe_fu GSm hr h4 (by rfl) pass0 (pa_cons (pv 1) (pa_cons (pe_glob (v := .int 12) (by rfl) hL ⟨_, rfl⟩) pa_nil)))) S rfl fo.2.1 fo.2.2.1 fo.1 fun H2 s2 S => ?_
    refine wp_cons (ps_expr (pe_fu GC hr (by omega) (by rfl) pass0 (pa_cons (pv 2) (pa_cons pe_int pa_nil)))) (use_count (t := tVar 0) (S.rd (i := 2) rfl) S.g (by omega) (by omega) fun H3 s3 g3 => ?_)
    have S := S.same s3
    show wpS _ _ _ σ0 H3
    refine en_tup3 (ps_asg (pe_fu GR hr (Nat.le_refl _) (by rfl) pass0 (pa_cons (pv 0) (pa_cons (pv 1) pa_nil))) (pg_tup rfl (pgs_cons (pg_name (i := 3) sc_heldA.nd rfl (.inl rfl)) (pgs_cons (pg_name (i := 4) sc_heldA.nd rfl (.inl rfl)) (pgs_cons (pg_name (i := 5) sc_heldA.nd rfl (.inl rfl)) pgs_nil))))) S ((rd_P (fo.rep cy) (rda_cons (S.rd (i := 0) rfl) (rda_one (S.rd (i := 1) rfl)))).cast rep_as) fun σ1 H4 s4 S => ?_
    dsimp only [List.set] at S
    have rs1 : Rd K M _ σ1 H4 (.int (sameT m s e : Nat)) := rd_P (R := RSame) ⟨m, s, e, rfl, cy.lt, rfl⟩ (rda_cons (S.rd (i := 2) rfl) (rda_cons (S.rd (i := 5) rfl) (rda_one ((rd_lenM (rda_one (S.rd (i := 4) rfl))).cast (by rw [List.length_map, List.length_range])))))
    refine wp_one (ps_ret (pe_ix (r := rIxL K) ix_list (pv 3) (pe_fu GT hr (by omega) (by rfl) pass0 (pa_cons (pv 2) (pa_cons (pv 5) (pa_cons (pe_callB (r := rLenS K) call_len_seq (by rfl) B.len boot_len' (pa_cons (pv 4) pa_nil)) pa_nil)))) (fun _ _ => rfl))) ?_
    exact use_ret (rd_atM (rep_held fo.1 cy) (S.rd (i := 3) rfl) rs1) S.g fun v H5 s5 g5 r5 => q v H5 (((s2.trans s3).trans s4).trans s5) g5 r5
end
end SC
set_option maxRecDepth 100000
set_option maxHeartbeats 2000000
/-! # count_out -/
namespace SC
open PySem PySem.Spec PyProof.Rows L2 TL
def RTim (ds : List D) (d : D) : Prop := ∃ (t a s e : Nat), ds = [.int (t : Nat), .int (a : Nat), .int (s : Nat), .int (e : Nat)] ∧ s < e ∧ e ≤ 10000 ∧ d = .int (timesT t a s e : Nat)
def RCnt (ds : List D) (d : D) : Prop := ∃ (rs : List Rule) (row : List Int) (n : Nat), ds = [.chain rs, .lst (row.map D.int), .int (n : Nat)] ∧ FlowOk rs row ∧ n ≤ 1000000000000000000 ∧ d = .dic (tally (outsF rs row n))
theorem fst_old {kvs : List (L2.Key × V)} {k : L2.Key} {v : V} (h : k ∈ kvs.map (·.1)) : (putK kvs k v).map (·.1) = kvs.map (·.1) := by
  unfold putK
  obtain ⟨p, hp, e⟩ := List.mem_map.mp h
  rw [if_pos (List.any_eq_true.mpr ⟨p, hp, decide_eq_true e⟩), List.map_map]
  refine List.map_congr_left fun q _ => ?_
  show (if q.1 = k then (q.1, v) else q).1 = q.1
  split <;> rfl
theorem fst_new {kvs : List (L2.Key × V)} {k : L2.Key} {v : V} (h : k ∉ kvs.map (·.1)) : (putK kvs k v).map (·.1) = kvs.map (·.1) ++ [k] := by
  unfold putK
  rw [if_neg ?_, List.map_append]
  · rfl
  · intro z
    obtain ⟨p, hp, e⟩ := List.any_eq_true.mp z
    exact h (List.mem_map.mpr ⟨p, hp, of_decide_eq_true e⟩)
theorem val_mem {kvs : List (L2.Key × V)} {k : L2.Key} : k ∈ kvs.map (·.1) ↔ (valV kvs k).isSome = true := by
  unfold valV
  rw [Option.isSome_map, List.find?_isSome]
  constructor
  · intro h
    obtain ⟨p, hp, e⟩ := List.mem_map.mp h
    exact ⟨p, hp, decide_eq_true e⟩
  · rintro ⟨p, hp, e⟩
    exact List.mem_map.mpr ⟨p, hp, of_decide_eq_true e⟩
/-- kvs holds f of all numbers where f is not 0 -/
structure CI (f : Int → Nat) (n : Nat) (kvs : List (L2.Key × V)) : Prop where
  val : ∀ v : Int, valV kvs (.inl v) = if 0 < f v then some (.int (f v : Nat)) else none
  keys : ∃ ks : List Int, kvs.map (·.1) = ks.map Sum.inl ∧ ks.Nodup
  len : kvs.length ≤ n
theorem CI.nil {f : Int → Nat} (h : ∀ v, f v = 0) : CI f 0 [] := ⟨fun v => by rw [h]; rfl, ⟨[], rfl, List.nodup_nil⟩, Nat.le_refl _⟩
theorem CI.cong {f g : Int → Nat} {n m : Nat} {kvs : List (L2.Key × V)} (c : CI f n kvs) (h : ∀ v, g v = f v) (hm : n ≤ m) : CI g m kvs := ⟨fun v => by rw [h]; exact c.val v, c.keys, Nat.le_trans c.len hm⟩
theorem CI.get {f : Int → Nat} {n : Nat} {kvs : List (L2.Key × V)} (c : CI f n kvs) (v : Int) : (valV kvs (.inl v)).getD (.int 0) = .int (f v : Nat) := by
  rw [c.val]
  by_cases h : 0 < f v
  · rw [if_pos h]
    rfl
  · rw [if_neg h]
    have : f v = 0 := by omega
    rw [this]
    rfl
theorem CI.put {f g : Int → Nat} {n : Nat} {kvs : List (L2.Key × V)} (c : CI f n kvs) {v : Int} (hv : 0 < g v) (ho : ∀ u, u ≠ v → g u = f u) : CI g (n + 1) (putK kvs (.inl v) (.int (g v : Nat))) := by
  refine ⟨fun u => ?_, ?_, ?_⟩
  · rw [valV_put]
    by_cases h : u = v
    · subst h
      rw [if_pos rfl, if_pos hv]
    · rw [if_neg (fun z => h (Sum.inl.inj z)), c.val, ho u h]
  · obtain ⟨ks, e, nd⟩ := c.keys
    by_cases h : Sum.inl v ∈ kvs.map (·.1)
    · rw [fst_old h]
      exact ⟨ks, e, nd⟩
    · rw [fst_new h]
      refine ⟨ks ++ [v], by rw [e, List.map_append]; rfl, ?_⟩
      rw [e] at h
      refine List.nodup_append.mpr ⟨nd, by simp, fun a ha b hb => ?_⟩
      rw [List.mem_singleton.mp hb]
      intro z
      exact h (List.mem_map.mpr ⟨v, z ▸ ha, rfl⟩)
  · have z := length_putK kvs (.inl v) (.int (g v : Nat))
    have y := c.len
    omega
theorem CI.mem {f : Int → Nat} {n : Nat} {kvs : List (L2.Key × V)} (c : CI f n kvs) {ks : List Int} (e : kvs.map (·.1) = ks.map Sum.inl) (v : Int) : v ∈ ks ↔ 0 < f v := by
  have a : v ∈ ks ↔ (Sum.inl v : L2.Key) ∈ kvs.map (·.1) := by
    rw [e]
    constructor
    · exact fun h => List.mem_map.mpr ⟨v, h, rfl⟩
    · intro h
      obtain ⟨u, hu, z⟩ := List.mem_map.mp h
      rw [← Sum.inl.inj z]
      exact hu
  rw [a, val_mem, c.val]
  by_cases h : 0 < f v
  · simp [h]
  · simp [h]
theorem go_yes {σ : L2.St} {H : Hp} {A B : Hp → Prop} (h : A H) : tYes σ H (fun b H3 => if b = true then A H3 else B H3) := by
  show (if true = true then A H else B H)
  rw [if_pos rfl]
  exact h
/-- a dict comprehension over a list -/
theorem dc_lst {K : PySem.W.Frag} {a : Addr} {xs : List V} {g : TG} {tt : TT} {tk tv : TE} {vs : List Nat} {σ : L2.St} {H1 : Hp} {D : Addr} {Q : Hp → Prop} (J : Nat → Hp → Prop) (start : J 0 (upd H1 D (.dK []))) (there : ∀ i H, J i H → SqL K H a xs)
    (turn : ∀ i x H, xs[i]? = some x → J i H → g x (L2.wipe σ vs) H fun σ2 H2 => L2.wipe σ2 vs = L2.wipe σ vs ∧ tt σ2 H2 fun b H3 =>
      if b = true then tk σ2 H3 fun y H4 => tv σ2 H4 fun z H5 => ∃ kvs k, y = kV k ∧ H5 D = some (.dK kvs) ∧ kvs.length < sizeLine ∧ J (i + 1) (upd H5 D (.dK (putK kvs k z))) else J (i + 1) H3) (done : ∀ H, J xs.length H → Q H) :
    ∃ W : Nat → Nat → Hp → Prop, (∃ m, W 0 m (upd H1 D (.dK []))) ∧ ∀ i m H, W i m H →
      ((Itl K a).stop i H ∧ Q H) ∨ ((Itl K a).go i H ∧ ∃ Nx : Hp → Prop, (∀ H', Nx H' → ∃ m', m' < m ∧ W (i + 1) m' H') ∧ ∀ x H', (Itl K a).yld i H x H' → g x (L2.wipe σ vs) H' fun σ2 H2 => L2.wipe σ2 vs = L2.wipe σ vs ∧ tt σ2 H2 fun b H3 =>
        if b = true then tk σ2 H3 fun y H4 => tv σ2 H4 fun z H5 => ∃ kvs k, y = kV k ∧ H5 D = some (.dK kvs) ∧ kvs.length < sizeLine ∧ Nx (upd H5 D (.dK (putK kvs k z))) else Nx H3) := by
  have wl := walk_list (K := K) (a := a) (xs := xs)
  refine ⟨fun i m H => m + i = xs.length ∧ J i H, ⟨xs.length, rfl, start⟩, fun i m H hW => ?_⟩
  obtain ⟨em, j⟩ := hW
  have sq := there i H j
  rcases Nat.lt_or_ge i xs.length with c | c
  · refine .inr ⟨wl.goes i H c sq, J (i + 1), fun H' j' => ⟨m - 1, by omega, by omega, j'⟩, fun x H' y => ?_⟩
    obtain ⟨e1, e2⟩ := wl.yields i H x H' c sq y
    rw [e1]
    exact turn i x H e2 j
  · have ei : i = xs.length := by omega
    rw [ei] at j ⊢
    exact .inl ⟨wl.stops H sq, done H j⟩
section
variable {P : Program} {w : World} {K : PySem.W.Frag} {mg : Str → Option Value} {base : Heap} {M : List Addr} {σ : L2.St} {H : Hp}
def nmTim : List Str := ["ticks", "at", "start", "end"]
theorem sc_tim : FnScope nmTim ["ticks", "at", "start", "end"] (defScope s_times_until) := ⟨rfl, rfl, rfl, by decide +kernel, rfl, by decide +kernel, by decide +kernel⟩
theorem rd_fdivP {ta tb : TE} {i j : Int} (hc : CDiv i j) (ha : Rd K M ta σ H (.int i)) (hb : Rd K M tb σ H (.int j)) : Rd K M (tOp (rI CDiv fun i j => .int (i / j)) ta tb) σ H (.int (i / j)) := rd_rI hc (fun _ _ e => e) ha hb
theorem ok_tim {f : Addr} {fd : FuncData} (F : Fun K "times_until" "times_until" s_times_until f fd) : FnOk P w K mg base CX0 1 f fd ["ticks", "at", "start", "end"] (spP K RTim) := by
  refine F.ok sc_tim (fun vs H Q E h => ?_) (fun cdv A outer s0 H vs Q E hr h => ?_)
  · obtain ⟨M, ds, d, ⟨t, a, s, e, rfl, _⟩, _, r, _⟩ := h
    exact r.len
  · obtain ⟨M, ds, d, ⟨t, a, s, e, rfl, lt, le4, rfl⟩, g, r, q⟩ := h
    have E1 : Env K M (L2.start nmTim vs) H [.dat (.int (t : Nat)), .dat (.int (a : Nat)), .dat (.int (s : Nat)), .dat (.int (e : Nat))] := env_startD r
    refine ⟨_, wpS_ok, ?_⟩
    generalize L2.start nmTim vs = σ0 at E1 ⊢
    have S : En K M σ0 H _ := ⟨E1, g⟩
    refine en_if (ps_if (pt_cmpR op_ge (pv 1) (pv 0) (nomark _)) wpS_ok pss_nil) S (rdt_test (rd_ge (S.rd (i := 1) rfl) (S.rd (i := 0) rfl))) (fun hc H2 s2 S => ?_) (fun hc H2 s2 S => ?_)
    · have hc := of_decide_eq_true hc
      rw [times0 (by omega)] at q
      refine wp_one (ps_ret pe_int) ?_
      exact use_ret rd_int S.g fun v H3 s3 g3 r3 => q v H3 (s2.trans s3) g3 r3
    · have hc := of_decide_eq_false hc
      refine en_if (ps_if (pt_cmpR op_lt (pv 1) (pv 2) (nomark _)) wpS_ok pss_nil) S (rdt_test (rd_lt (S.rd (i := 1) rfl) (S.rd (i := 2) rfl))) (fun hd H3 s3 S => ?_) (fun hd H3 s3 S => ?_)
      · have hd := of_decide_eq_true hd
        rw [times1 (by omega) (by omega)] at q
        refine wp_one (ps_ret pe_int) ?_
        exact use_ret rd_int S.g fun v H4 s4 g4 r4 => q v H4 ((s2.trans s3).trans s4) g4 r4
      · have hd := of_decide_eq_false hd
        rw [times2 (by omega) (by omega)] at q
        have ev : (((t : Nat) : Int) - ((a : Nat) : Int) - 1) / (((e : Nat) : Int) - ((s : Nat) : Int)) + 1 = (((t - a - 1) / (e - s) + 1 : Nat) : Int) := by
          have h1 : ((t : Nat) : Int) - ((a : Nat) : Int) - 1 = ((t - a - 1 : Nat) : Int) := by omega
          have h2 : ((e : Nat) : Int) - ((s : Nat) : Int) = ((e - s : Nat) : Int) := by omega
          rw [h1, h2]
          rfl
        refine wp_one (ps_ret (pe_op op_add (pe_op op_fdiv (pe_op op_sub (pe_op op_sub (pv 0) (pv 1)) pe_int) (pe_op op_sub (pv 3) (pv 2))) pe_int)) ?_
        exact use_ret ((rd_add (rd_fdivP ⟨by omega, by omega⟩ (rd_sub (rd_sub (S.rd (i := 0) rfl) (S.rd (i := 1) rfl)) rd_int) (rd_sub (S.rd (i := 3) rfl) (S.rd (i := 2) rfl))) rd_int).cast (congrArg D.int ev)) S.g fun v H4 s4 g4 r4 => q v H4 ((s2.trans s3).trans s4) g4 r4
def nmCnt : List Str := ["chain", "row", "ticks", "helds", "outs", "start", "counts", "at", "out", "times", "number"]
theorem sc_cnt : FnScope nmCnt ["chain", "row", "ticks"] (defScope s_count_out) := ⟨rfl, rfl, rfl, by decide +kernel, rfl, by decide +kernel, by decide +kernel⟩
theorem ok_cnt {f : Addr} {fd : FuncData} {n : Nat} {t1 : Tok} (h4 : 4 ≤ n) (F : Fun K "count_out" "count_out" s_count_out f fd) (B : Bln mg) (hen : mg "enumerate" = none) (hso : mg "sorted" = none) (hL : mg "LONGEST_REPEATED" = some (.int 12 t1)) (GSm : Fu P w K mg base CX0 4 "check_some" ["row", "longest"] (spSome K)) (GC : Fu P w K mg base CX0 2 "check_count" ["value", "least"] spCount) (GT : Fu P w K mg base CX0 1 "times_until" ["ticks", "at", "start", "end"] (spP K RTim)) (GR : GRp P w K mg base n) : FnOk P w K mg base CX0 (n + 1) f fd ["chain", "row", "ticks"] (spP K RCnt) := by
  refine F.ok sc_cnt (fun vs H Q E h => ?_) (fun cdv A outer s0 H vs Q E hr h => ?_)
  · obtain ⟨M, ds, d, ⟨rs, row, m, rfl, _⟩, _, r, _⟩ := h
    exact r.len
  · obtain ⟨M, ds, d, ⟨rs, row, m, rfl, fo, hm, rfl⟩, g, r, q⟩ := h
    obtain ⟨s, e, cy, bound⟩ := cyc_there (rs := rs) fo.1
    have heB : e ≤ 10000 := by
      have z1 : rs.length * (row.length + 1) ≤ 8 * (row.length + 1) := Nat.mul_le_mul_right _ fo.2.2.2.2
      have z2 := fo.2.1
      omega
    have big : 10000 < sizeLine := by decide
    have E1 : Env K M (L2.start nmCnt vs) H [.dat (.chain rs), .dat (.lst (row.map D.int)), .dat (.int (m : Nat)), .any, .any, .any, .any, .any, .any, .any, .any] := env_startD r
    refine ⟨_, wpS_ok, ?_⟩
    generalize L2.start nmCnt vs = σ0 at E1 ⊢
    have S : En K M σ0 H _ := ⟨E1, g⟩
    refine en_some rfl (ps_expr (pe_fu GSm hr h4 (by rfl) pass0 (pa_cons (pv 1) (pa_cons (pe_glob (v := .int 12) (by rfl) hL ⟨_, rfl⟩) pa_nil)))) S rfl fo.2.1 fo.2.2.1 fo.1 fun H2 s2 S => ?_
    refine wp_cons (ps_expr (pe_fu GC hr (by omega) (by rfl) pass0 (pa_cons (pv 2) (pa_cons pe_int pa_nil)))) (use_count (t := tVar 0) (S.rd (i := 2) rfl) S.g (by omega) (by omega) fun H3 s3 g3 => ?_)
    have S := S.same s3
    show wpS _ _ _ σ0 H3
    refine en_tup3 (ps_asg (pe_fu GR hr (Nat.le_refl _) (by rfl) pass0 (pa_cons (pv 0) (pa_cons (pv 1) pa_nil))) (pg_tup rfl (pgs_cons (pg_name (i := 3) sc_cnt.nd rfl (.inl rfl)) (pgs_cons (pg_name (i := 4) sc_cnt.nd rfl (.inl rfl)) (pgs_cons (pg_name (i := 5) sc_cnt.nd rfl (.inl rfl)) pgs_nil))))) S ((rd_P (fo.rep cy) (rda_cons (S.rd (i := 0) rfl) (rda_one (S.rd (i := 1) rfl)))).cast rep_as) fun σ1 H4 s4 S => ?_
    dsimp only [List.set] at S
    have s24 : Same H H4 := (s2.trans s3).trans s4
    refine wp_cons (ps_set (i := 6) sc_cnt.nd rfl (.inr rfl) pe_dnewK) ?_
    intro L hL'
    have sL : Same H4 (upd H4 L (.dK [])) := same_new hL'
    have fL : H L = none := s24.free hL'
    have S1 : En K (L :: M) (σ1.set 6 (some (.ref L))) (upd H4 L (.dK [])) _ := ⟨(S.e.le (wo_cons hL' sL)).setv (i := 6) (v := .ref L), (S.g.same sL).cons upd_same trivial⟩
    have eL : upd H4 L (.dK []) L = some (.dK []) := upd_same
    dsimp only [List.set] at S1
    show wpS _ _ _ (σ1.set 6 (some (V.ref L))) (upd H4 L (.dK []))
    generalize σ1.set 6 (some (V.ref L)) = σ2 at S1 ⊢
    have sH5 : Same H (upd H4 L (.dK [])) := s24.trans sL
    generalize upd H4 L (.dK []) = H5 at S1 eL sH5 ⊢
    clear S sL s24
    obtain ⟨v4, e4, a, us, rfl, ea, ru⟩ := S1.e.dat (i := 4) rfl
    have ru := rp_opts.mp ru
    have lus : us.length = e := by rw [ru, List.length_map, List.length_map, List.length_range]
    have atu : ∀ {j : Nat} {x : V}, us[j]? = some x → j < e ∧ x = ov (outF rs row j) := fun {j x} hx => by
      have hj : j < us.length := by
        rcases Nat.lt_or_ge j us.length with z | z
        · exact z
        · rw [List.getElem?_eq_none z] at hx
          cases hx
      rw [lus] at hj
      rw [ru, List.getElem?_map, List.getElem?_map, List.getElem?_range hj] at hx
      exact ⟨hj, (Option.some.inj hx).symm⟩
    obtain ⟨RI, eRI⟩ : ∃ RI : Nat → L2.St → Hp → Prop, RI = fun j σ H' => En K (L :: M) σ H' [.dat (.chain rs), .dat (.lst (row.map D.int)), .dat (.int (m : Nat)), .any, .dat (.lst (((List.range e).map (outF rs row)).map dO)), .dat (.int (s : Nat)), .val (.ref L), .any, .any, .any, .any] ∧ Same H H' ∧ wo (L :: M) H' a = some (.lst us) ∧ ∃ kvs, H' L = some (.dK kvs) ∧ CI (fun v => sumF rs row s e m v j) j kvs := ⟨_, rfl⟩
    have R0 : RI 0 σ2 H5 := by
      rw [eRI]
      exact ⟨⟨S1.e.fgt (by repeat (first | exact Fgt.nil | apply Fgt.keep | apply Fgt.any)), S1.g⟩, sH5, ea, [], eL, CI.nil fun v => rfl⟩
    refine wp_cons (ps_for PassesOwn.never rfl (pi_enum (by rfl) hen (pa_cons (pv 4) pa_nil)) (pg_tup rfl (pgs_cons (pg_name (i := 7) sc_cnt.nd rfl (.inl rfl)) (pgs_cons (pg_name (i := 8) sc_cnt.nd rfl (.inl rfl)) pgs_nil))) wpS_ok) ?_
    refine ⟨_, e4, a, us, rfl, SqL.of (wo_le _ _ ea), for_enumL (K := K) (a := a) (xs := us) RI R0 (fun j σ H' hR => ?_) ?_ ?_⟩
    · rw [eRI] at hR
      exact SqL.of (wo_le _ _ hR.2.2.1)
    · rintro j x T σ H' hx hR hT
      rw [eRI] at hR
      obtain ⟨S, sH, ha, kvs, hk, ci⟩ := hR
      obtain ⟨hj, rfl⟩ := atu hx
      have sT : Same H' (upd H' T (.tup [.int (j : Nat), ov (outF rs row j)])) := same_new hT
      refine ⟨T, _, rfl, SqT.of upd_same, rfl, _, _, rfl, _, _, rfl, rfl, ?_⟩
      have S2 : En K (L :: M) ((σ.set 7 (some (.int (j : Nat)))).set 8 (some (ov (outF rs row j)))) (upd H' T (.tup [.int (j : Nat), ov (outF rs row j)])) _ := ⟨((S.e.same sT).set (i := 7) (d := .int (j : Nat)) rfl).set (i := 8) (d := dO (outF rs row j)) (rp_dO.mpr rfl), S.g.same sT⟩
      dsimp only [List.set] at S2
      have hk := sT _ _ hk
      have ha := swo (M := L :: M) sT _ _ ha
      have sH := sH.trans sT
      show wpS _ _ _ ((σ.set 7 (some (V.int (j : Nat)))).set 8 (some (ov (outF rs row j)))) (upd H' T (.tup [.int (j : Nat), ov (outF rs row j)]))
      generalize (σ.set 7 (some (V.int (j : Nat)))).set 8 (some (ov (outF rs row j))) = σ3 at S2 ⊢
      generalize upd H' T (.tup [.int (j : Nat), ov (outF rs row j)]) = H6 at S2 hk ha sH ⊢
      clear S sT hT
      have r9 : Rd K (L :: M) _ σ3 H6 (.int (timesT m j s e : Nat)) := rd_P (R := RTim) ⟨m, j, s, e, rfl, cy.lt, heB, rfl⟩ (rda_cons (S2.rd (i := 2) rfl) (rda_cons (S2.rd (i := 7) rfl) (rda_cons (S2.rd (i := 5) rfl) (rda_one ((rd_lenM (rda_one (S2.rd (i := 4) rfl))).cast (by rw [List.length_map, List.length_range]))))))
      refine en_set (ps_set (i := 9) sc_cnt.nd rfl (.inl rfl) (pe_fu GT hr (by omega) (by rfl) pass0 (pa_cons (pv 2) (pa_cons (pv 7) (pa_cons (pv 5) (pa_cons (pe_callB (r := rLenS K) call_len_seq (by rfl) B.len boot_len' (pa_cons (pv 4) pa_nil)) pa_nil)))))) S2 r9 fun σ4 H7 s7 S3 => ?_
      dsimp only [List.set] at S3
      have hk := s7 _ _ hk
      have ha := swo (M := L :: M) s7 _ _ ha
      have sH := sH.trans s7
      clear S2 s7 r9
      refine wp_one (ps_if (PW.pt (pw_and (pt_cmpR op_notN (pv 8) pe_non (nomark _)) (pw_and1 (pt_cmpR op_gt (pv 9) pe_int (nomark _))))) (pss_one (ps_dput (un1 hr.units) (pv 6) (pv 8) (pe_op op_add (pe_dget2 (un1 hr.units) (pv 6) (pv 8) pe_int ⟨rfl, rfl, rfl, rfl⟩) (pv 9)) (by rfl))) pss_nil) ?_
      have skip : (outF rs row j = none ∨ timesT m j s e = 0) → ∀ H8, Same H7 H8 → RI (j + 1) σ4 H8 := fun hz H8 s8 => by
        rw [eRI]
        have S4 := S3.same s8
        refine ⟨⟨S4.e.fgt (by repeat (first | exact Fgt.nil | apply Fgt.keep | apply Fgt.any)), S4.g⟩, sH.trans s8, swo (M := L :: M) s8 _ _ ha, kvs, s8 _ _ hk, ci.cong (fun v => ?_) (Nat.le_succ _)⟩
        show sumF rs row s e m v j + (if outF rs row j = some v then timesT m j s e else 0) = sumF rs row s e m v j
        rcases hz with z | z
        · rw [z, if_neg (by simp)]
          rfl
        · rw [z]
          simp
      cases ho : outF rs row j with
      | none =>
        rw [ho] at S3
        refine (rdt_test (rd_notN (S3.rd (i := 8) rfl) rd_non)) H7 (Same.refl _) S3.g _ fun H8 s8 g8 => ?_
        exact skip (.inl ho) H8 s8
      | some v =>
        rw [ho] at S3
        refine (rdt_test (rd_notN (S3.rd (i := 8) rfl) rd_non)) H7 (Same.refl _) S3.g _ fun H8 s8 g8 => ?_
        have S4 := S3.same s8
        refine (rdt_test (rd_gt (S4.rd (i := 9) rfl) rd_int)) H8 (Same.refl _) S4.g _ fun H9 s9 g9 => ?_
        by_cases hz : timesT m j s e = 0
        · rw [hz]
          exact skip (.inr hz) H9 (s8.trans s9)
        · rw [decide_eq_true (by omega : (0 : Int) < ((timesT m j s e : Nat) : Int))]
          refine iteT ?_
          have S5 := S4.same s9
          have hk9 := s9 _ _ (s8 _ _ hk)
          have e6 := S5.e.val (i := 6) rfl
          obtain ⟨v8, e8, r8⟩ := S5.e.dat (i := 8) rfl
          cases r8
          obtain ⟨v9, e9, r9⟩ := S5.e.dat (i := 9) rfl
          cases r9
          refine ⟨_, e6, L, rfl, .inl ⟨kvs, .inl hk9⟩, _, e8, _, .inl ⟨kvs, .inl v, .inl hk9, rfl, rfl⟩, ?_⟩
          rw [ci.get]
          refine ⟨_, e9, _, _, rfl, rfl, _, e6, _, e8, L, _, rfl, .inl ⟨kvs, .inl v, hk9, rfl, by have := ci.len; omega, rfl⟩, ?_⟩
          rw [eRI]
          have eU : ∀ u, wo (L :: M) (upd H9 L u) = wo (L :: M) H9 := fun u => wo_upd List.mem_cons_self
          refine ⟨⟨(S5.e.fgt (by repeat (first | exact Fgt.nil | apply Fgt.keep | apply Fgt.any))).le (by rw [eU]; exact Same.refl _), S5.g.at trivial⟩, fun b o' hb => ?_, ?_, _, upd_same, ?_⟩
          · rw [upd_ne (ne_of_none hb fL)]
            exact s9 _ _ (s8 _ _ (sH _ _ hb))
          · rw [eU]
            exact swo (M := L :: M) (s8.trans s9) _ _ ha
          · have gv : sumF rs row s e m v (j + 1) = sumF rs row s e m v j + timesT m j s e := by
              show _ + (if outF rs row j = some v then timesT m j s e else 0) = _
              rw [if_pos ho]
            have z := ci.put (g := fun u => sumF rs row s e m u (j + 1)) (v := v) (by show 0 < sumF rs row s e m v (j + 1); rw [gv]; omega) (fun u hu => by
              show _ + (if outF rs row j = some u then timesT m j s e else 0) = _
              rw [ho, if_neg (fun y => hu (Option.some.inj y).symm)]
              rfl)
            have ev : ((sumF rs row s e m v j : Nat) : Int) + ((timesT m j s e : Nat) : Int) = ((sumF rs row s e m v (j + 1) : Nat) : Int) := by rw [gv]; omega
            show CI _ _ (putK kvs (Sum.inl v) (V.int (((sumF rs row s e m v j : Nat) : Int) + ((timesT m j s e : Nat) : Int))))
            rw [ev]
            exact z
    · rintro σ H' hR
      rw [eRI, lus] at hR
      obtain ⟨S, sH, ha, kvs, hk, ci⟩ := hR
      obtain ⟨ks, eks, nd⟩ := ci.keys
      have cnt : ∀ v, sumF rs row s e m v e = (outsF rs row m).count v := fun v => sumF_all fo.1 cy v m
      have mem : ∀ v, v ∈ ks ↔ v ∈ outsF rs row m := fun v => by
        rw [ci.mem eks, ← List.count_pos_iff, ← cnt]
      have lks : ks.length ≤ e := by
        have z := congrArg List.length eks
        rw [List.length_map, List.length_map] at z
        rw [← z]
        exact ci.len
      refine wp_one (ps_ret (pe_frz (pe_dc (own := [("number", 10)]) (g := gName 10) (by rfl) sc_cnt.nd (pi_listK (K := K) rfl (pe_callB (r := rSortedI K) cr_sortedI (by rfl) hso boot_sorted'' (pa_cons (pe_callTy (call_list_dK rfl) (by rfl) B.list boot_list' (pa_cons (pv 6) pa_nil)) pa_nil))) (blkOk_by (own := [("number", 10)]) (N := nmCnt) (sc := defScope s_count_out) (by decide +kernel)) (fun _ _ _ _ _ => pg_name (i := 10) sc_cnt.nd rfl (.inl rfl)) (fun _ _ _ _ _ => pts_nil) (fun _ _ _ _ _ => pv 10) (fun _ _ _ _ _ => pe_dget (un1 hr.units) (pv 6) (pv 10) (fun _ _ => rfl))))) ?_
      refine ⟨_, S.e.val (i := 6) rfl, L, kvs, rfl, hk, fun p hp => ?_⟩
      have sp : Same H' (upd H' p (.lst (kvs.map fun kv => kV kv.1))) := same_new hp
      have ekv : kvs.map (fun kv => kV kv.1) = ks.map V.int := by
        have z := congrArg (List.map kV) eks
        rw [List.map_map, List.map_map] at z
        exact z
      refine ⟨p, ks, rfl, SqL.of (by rw [upd_same, ekv]), fun ms p2 hpm hso' hp2 => ?_⟩
      have ems : ms = keysOf (outsF rs row m) := keysOf_one (hpm.nodup_iff.mpr nd) (fun v => hpm.mem_iff.trans (mem v)) hso'
      have lms : ms.length ≤ e := by rw [hpm.length_eq]; exact lks
      have sp2 : Same (upd H' p (.lst (kvs.map fun kv => kV kv.1))) (upd (upd H' p (.lst (kvs.map fun kv => kV kv.1))) p2 (.lst (ms.map V.int))) := same_new hp2
      have hp2e : upd (upd H' p (.lst (kvs.map fun kv => kV kv.1))) p2 (.lst (ms.map V.int)) p2 = some (.lst (ms.map V.int)) := upd_same
      have sp3 := sp.trans sp2
      generalize upd (upd H' p (.lst (kvs.map fun kv => kV kv.1))) p2 (.lst (ms.map V.int)) = H8 at sp2 hp2e sp3 ⊢
      have hk8 := sp3 _ _ hk
      refine ⟨p2, rfl, ⟨_, SqL.of hp2e⟩, fun D0 hD0 => ?_⟩
      have nD : D0 ≠ L := fun z => by rw [z, hk8] at hD0; cases hD0
      have nP : D0 ≠ p2 := fun z => by rw [z, hp2e] at hD0; cases hD0
      have fD : H D0 = none := (sH.trans sp3).free hD0
      have gM : Gd K M H8 := S.g.tl.same sp3
      refine dc_lst (K := K) (a := p2) (xs := ms.map V.int) (fun i H9 => (∀ b, b ≠ D0 → H8 b = none ∨ H9 b = H8 b) ∧ H9 D0 = some (.dK (kvI ((ms.take i).map fun v => (v, ((sumF rs row s e m v e : Nat) : Int)))))) ⟨fun b hb => .inr (upd_ne hb), upd_same⟩ ?_ ?_ ?_
      · rintro i H9 ⟨h9, _⟩
        rcases h9 p2 (Ne.symm nP) with z | z
        · rw [hp2e] at z
          cases z
        · exact SqL.of (by rw [z]; exact hp2e)
      · rintro i x H9 hx ⟨h9, hd9⟩
        rw [List.getElem?_map] at hx
        cases hi : ms[i]? with
        | none => rw [hi] at hx; cases hx
        | some v =>
          rw [hi] at hx
          cases hx
          have hv : v ∈ ms := List.mem_of_getElem? hi
          have pos : 0 < sumF rs row s e m v e := (ci.mem eks v).mp (hpm.mem_iff.mp hv)
          have hk9 : H9 L = some (.dK kvs) := by
            rcases h9 L (Ne.symm nD) with z | z
            · rw [hk8] at z
              cases z
            · rw [z]
              exact hk8
          have l10 : 10 < σ.length := by
            have z := S.e.1
            rw [z]
            exact (by decide : 10 < 11)
          have e10 : ((L2.wipe σ [10]).set 10 (some (V.int v)))[10]? = some (some (V.int v)) := by
            show ((σ.set 10 none).set 10 (some (V.int v)))[10]? = _
            rw [List.set_set, List.getElem?_set_self l10]
          have e6 : ((L2.wipe σ [10]).set 10 (some (V.int v)))[6]? = some (some (V.ref L)) := by
            show ((σ.set 10 none).set 10 (some (V.int v)))[6]? = _
            rw [List.set_set, List.getElem?_set_ne (by decide)]
            exact S.e.val (i := 6) rfl
          have vv : valV kvs (Sum.inl v) = some (.int (sumF rs row s e m v e : Nat)) := by
            rw [ci.val, if_pos pos]
          have nin : v ∉ ms.take i := fun z => by
            have nd' := hpm.nodup_iff.mpr nd
            have eq : ms = ms.take i ++ ms.drop i := (List.take_append_drop _ _).symm
            rw [eq] at nd'
            have hd : v ∈ ms.drop i := List.mem_of_getElem? (i := 0) (by rw [List.getElem?_drop, Nat.add_zero]; exact hi)
            exact (List.nodup_append.mp nd').2.2 v z v hd rfl
          refine ⟨wipe_one, ?_⟩
          refine go_yes ?_
          refine ⟨_, e10, _, e6, _, e10, L, _, rfl, .inl ⟨kvs, .inl v, .inl hk9, rfl, vv.symm⟩, _, .inl v, rfl, hd9, ?_, fun b hb => ?_, ?_⟩
          · unfold kvI
            rw [List.length_map, List.length_map, List.length_take]
            omega
          · rw [upd_ne hb]
            exact h9 b hb
          · rw [upd_same, putK_new _ (by rw [valV_kvI, find_map, if_neg nin]; rfl), take_more hi, List.map_append]
            unfold kvI
            rw [List.map_append]
            rfl
      · rintro H9 ⟨h9, hd9⟩
        rw [List.length_map, List.take_length] at hd9
        refine ⟨D0, _, rfl, hd9, trivial, fun od => ?_⟩
        have sF : Same H (upd H9 D0 (.frz od (.dK (kvI (ms.map fun v => (v, ((sumF rs row s e m v e : Nat) : Int))))))) := fun b o hb => by
          rw [upd_ne (ne_of_none hb fD)]
          have z8 := sp3 _ _ (sH _ _ hb)
          rcases h9 b (ne_of_none hb fD) with z | z
          · rw [z8] at z
            cases z
          · rw [z]
            exact z8
        refine q _ _ sF (g.same sF) ⟨D0, od, rfl, ?_⟩
        rw [wo_at (g.out fD), upd_same]
        have et : (ms.map fun v => (v, ((sumF rs row s e m v e : Nat) : Int))) = tally (outsF rs row m) := by
          unfold tally
          rw [← ems]
          exact List.map_congr_left fun v _ => by rw [cnt]
        rw [et]
end
end SC
set_option maxRecDepth 100000
set_option maxHeartbeats 2000000
/-! # is_out, check_held (good) -/
namespace SC
open PySem PySem.Spec PyProof.Rows L2 TL
def nmIsOut : List Str := ["value"]
theorem sc_isout : FnScope nmIsOut ["value"] (defScope s_is_out) := ⟨rfl, rfl, rfl, by decide +kernel, rfl, by decide +kernel, by decide +kernel⟩
def nmHeld : List Str := ["held", "many", "filled", "at", "number"]
theorem sc_held : FnScope nmHeld ["held", "many"] (defScope s_check_held) := ⟨rfl, rfl, rfl, by decide +kernel, rfl, by decide +kernel, by decide +kernel⟩
def ROut (ds : List D) (d : D) : Prop := ∃ o : Option Int, ds = [dO o] ∧ (∀ z, o = some z → numOk z) ∧ d = .bl true
def spHeldC (K : PySem.W.Frag) : Sp := fun vs H Q _ => ∃ (M : List Addr) (hs : List (Option Int)), Gd K M H ∧ RpL K (wo M H) [.ktup (hs.map dO), .int (hs.length : Nat)] vs ∧ Fill hs ∧ hs.length ≤ 8 ∧ (∀ z, some z ∈ hs → numOk z) ∧ ∀ H', Same H H' → Gd K M H' → Q .non H'
section
variable {P : Program} {w : World} {K : PySem.W.Frag} {mg : Str → Option Value} {base : Heap} {M : List Addr} {σ : L2.St} {H : Hp}
theorem ok_isout {f : Addr} {fd : FuncData} (F : Fun K "is_out" "is_out" s_is_out f fd) (GN : Fu P w K mg base CX0 2 "is_number" ["value"] (spNumber K)) : FnOk P w K mg base CX0 3 f fd ["value"] (spP K ROut) := by
  refine F.ok sc_isout (fun vs H Q E h => ?_) (fun cdv A outer s0 H vs Q E hr h => ?_)
  · obtain ⟨M, ds, d, ⟨o, rfl, _⟩, _, r, _⟩ := h
    exact r.len
  · obtain ⟨M, ds, d, ⟨o, rfl, ho, rfl⟩, g, r, q⟩ := h
    obtain ⟨v, rfl, rv⟩ := rp1 r
    obtain rfl := rp_dO.mp rv
    refine ⟨_, wpS_ok, ?_⟩
    refine wp_one (ps_ret (pe_or (pe_cmpR op_isN (pv 0) pe_non (nomark _)) (pe_one (pe_fu GN hr (by decide) (by rfl) pass0 (pa_cons (pv 0) pa_nil))))) ?_
    show tRet _ _ [some (ov o)] H
    cases o with
    | none => exact ⟨_, rfl, rfl, true, rfl, iteT (q _ _ (Same.refl _) g rfl)⟩
    | some z =>
      have zo := ho z rfl
      refine ⟨_, rfl, rfl, false, rfl, iteF ⟨_, rfl, _, rfl, .inl ⟨z, rfl, ?_⟩⟩⟩
      rw [decide_eq_true zo.1, decide_eq_true zo.2]
      exact q _ _ (Same.refl _) g rfl
theorem ok_checkheld {f : Addr} {fd : FuncData} (F : Fun K "check_held" "check_held" s_check_held f fd) (B : Bln mg) (hen : mg "enumerate" = none) (GO : Fu P w K mg base CX0 3 "is_out" ["value"] (spP K ROut)) : FnOk P w K mg base CX0 4 f fd ["held", "many"] (spHeldC K) := by
  refine F.ok sc_held (fun vs H Q E h => ?_) (fun cdv A outer s0 H vs Q E hr h => ?_)
  · obtain ⟨M, hs, _, r, _⟩ := h
    exact r.len
  · obtain ⟨M, hs, g, r, fi, l8, on, q⟩ := h
    have zz := line_big
    have E1 : Env K M (L2.start nmHeld vs) H [.dat (.ktup (hs.map dO)), .dat (.int (hs.length : Nat)), .any, .any, .any] := env_startD r
    refine ⟨_, wpS_ok, ?_⟩
    generalize L2.start nmHeld vs = σ0 at E1 ⊢
    have S : En K M σ0 H _ := ⟨E1, g⟩
    clear E1
    refine en_if (ps_if (pt_not (pt_val (pe_callB call_isi (by rfl) B.isinstance boot_isinstance' (pa_cons (pv 0) (pa_cons (pe_bltn (v := .ty "tuple") (by rfl) B.tuple boot_tuple' rfl) pa_nil))))) wpS_ok pss_nil) S (rdt_not (rdt_val (rd_isTupK (S.rd (i := 0) rfl)))) (fun z => by cases z) fun _ H1 s1 S => ?_
    refine en_set (ps_set (i := 2) sc_held.nd rfl (by first | exact .inl rfl | exact .inr rfl) pe_bl) S rd_bl fun σ1 H2 s2 S => ?_
    dsimp only [List.set] at S
    obtain ⟨xs, n, ehs⟩ := fi
    refine wp_cons (ps_for PassesOwn.never rfl (pi_enumT (by rfl) hen (pa_cons (pv 0) pa_nil)) (pg_tup rfl (pgs_cons (pg_name (i := 3) sc_held.nd rfl (.inl rfl)) (pgs_cons (pg_name (i := 4) sc_held.nd rfl (.inl rfl)) pgs_nil))) wpS_ok) ?_
    obtain ⟨v0, e0, a0, o0, vs0, rfl, ea0, hdn0, ra0⟩ := S.e.dat (i := 0) rfl
    have ea1 := wo_le _ _ ea0
    rw [rp_opts.mp ra0] at ea1
    have sH := s1.trans s2
    refine ⟨_, e0, a0, hs.map ov, rfl, .inl (.inr ⟨o0, ea1⟩), ?_⟩
    refine for_enumT (K := K) (a := a0) (xs := hs.map ov) (fun i σ H' => Same H H' ∧ H' a0 = some (.frz o0 (.tup (hs.map ov))) ∧ En K M σ H' [.dat (.ktup (hs.map dO)), .dat (.int (hs.length : Nat)), .dat (.bl (decide (i ≤ xs.length))), .any, .any]) ⟨sH, ea1, by rw [decide_eq_true (Nat.zero_le _)]; exact S⟩ (fun i σ H' h => .inl (.inr ⟨o0, h.2.1⟩)) ?_ ?_
    · clear S sH ea0 ea1 ra0 e0
      rintro i y T σ2 H3 hi ⟨sH, ea, S⟩ hT
      rw [List.getElem?_map] at hi
      cases hq : hs[i]? with
      | none => rw [hq] at hi; cases hi
      | some o =>
      rw [hq] at hi
      cases hi
      have hlt : i < hs.length := (List.getElem?_eq_some_iff.mp hq).1
      have s3 : Same H3 (upd H3 T (.tup [.int (i : Nat), ov o])) := same_new hT
      refine ⟨T, _, rfl, SqT.of upd_same, rfl, _, _, rfl, _, _, rfl, rfl, ?_⟩
      have S : En K M ((σ2.set 3 (some (.int (i : Nat)))).set 4 (some (ov o))) (upd H3 T (.tup [.int (i : Nat), ov o])) _ := ⟨((S.e.same s3).set (i := 3) (d := .int (i : Nat)) rfl).set (i := 4) (d := dO o) (rp_dO.mpr rfl), S.g.same s3⟩
      dsimp only [List.set] at S
      have sH := sH.trans s3
      have ea := s3 _ _ ea
      show wpS _ _ _ ((σ2.set 3 (some (.int (i : Nat)))).set 4 (some (ov o))) (upd H3 T (.tup [.int (i : Nat), ov o]))
      generalize (σ2.set 3 (some (V.int (i : Nat)))).set 4 (some (ov o)) = σ3 at S ⊢
      generalize upd H3 T (.tup [.int (i : Nat), ov o]) = H4 at S sH ea ⊢
      clear s3 hT
      have so : isN (dO o) = decide (xs.length ≤ i) := by
        have z := hq
        rw [ehs] at z
        rcases Nat.lt_or_ge i xs.length with u | u
        · rw [List.getElem?_append_left (by rw [List.length_map]; exact u), List.getElem?_map, List.getElem?_eq_getElem u] at z
          cases z
          exact (decide_eq_false (by omega)).symm
        · rw [List.getElem?_append_right (by rw [List.length_map]; exact u)] at z
          have y := List.mem_of_getElem? z
          unfold nones at y
          rw [(List.mem_replicate.mp y).2]
          exact (decide_eq_true u).symm
      refine en_if (ps_if (PW.pt (pw_or (pt_cmpR op_eq (pv 3) (pv 1) (nomark _)) (pw_or (pt_not (pt_val (pe_fu GO hr (by decide) (by rfl) pass0 (pa_cons (pv 4) pa_nil)))) (pw_or1 (PW.pt (pw_and (pt_cmpR op_notN (pv 4) pe_non (nomark _)) (pw_and1 (pt_not (pt_val (pv 2)))))))))) wpS_ok pss_nil) S (rdt_nor (by have z := rdt_test (rd_eqI (S.rd (i := 3) rfl) (S.rd (i := 1) rfl)); rw [decide_eq_false (by omega)] at z; exact z) (rdt_nor (rdt_not (b := true) (rdt_val (rd_P (R := ROut) ⟨o, rfl, (fun z e => on z (by rw [← e]; exact List.mem_of_getElem? hq)), rfl⟩ (rda_one (S.rd (i := 4) rfl))))) (rdt_and (rdt_test (rd_notN (S.rd (i := 4) rfl) rd_non)) (fun hn => ?_) (fun _ => rfl)))) (fun z => by cases z) fun _ H5 s5 S => ?_
      · rw [so] at hn
        have hn : i < xs.length := by simpa using hn
        have z := rdt_not (rdt_val (S.rd (i := 2) rfl))
        rw [decide_eq_true (by omega)] at z
        exact z
      refine wp_one (ps_set (i := 2) sc_held.nd rfl (by first | exact .inl rfl | exact .inr rfl) (pe_cmpR op_notN (pv 4) pe_non (nomark _))) (use_set ((rd_notN (S.rd (i := 4) rfl) rd_non).cast (d' := .bl (decide (i + 1 ≤ xs.length))) (by
        rw [so]
        congr 1
        rcases Nat.lt_or_ge i xs.length with u | u
        · rw [decide_eq_false (by omega), decide_eq_true (by omega)]
          rfl
        · rw [decide_eq_true u, decide_eq_false (by omega)]
          rfl)) S.g fun v H6 s6 g6 r6 => ?_)
      exact ⟨(sH.trans s5).trans s6, s6 _ _ (s5 _ _ ea), ((S.e.same s6).set (i := 2) r6).fgt (by repeat (first | exact Fgt.nil | apply Fgt.keep | apply Fgt.any)), g6⟩
    · rintro σ2 H3 ⟨sH, ea, S⟩
      show wpS _ _ _ _ _
      refine wp_cons (ps_if (pt_cmpR op_lt (pe_callB (r := rLenS K) call_len_seq (by rfl) B.len boot_len' (pa_cons (pv 0) pa_nil)) (pv 1) (nomark _)) wpS_ok pss_nil) ?_
      refine use_if0 (by have z := rdt_test (rd_lt (rd_lenKM (f := dO) (xs := hs) (rda_one (S.rd (i := 0) rfl))) (S.rd (i := 1) rfl)); rw [decide_eq_false (by omega)] at z; exact z) S.g fun H4 s4 g4 => ?_
      exact wp_nil (q _ (sH.trans s4) g4)
end
end SC
set_option maxRecDepth 100000
set_option maxHeartbeats 2000000
/-! # cell_before -/
namespace SC
open PySem PySem.Spec PyProof.Rows L2 TL
def cbL (k p : Int) : List (Int × Int) := (k, p) :: if k = p then [] else [(p, k)]
/-- what one cell may have held before, and what came to it -/
def befC (r : Rule) (k p : Int) : List (Int × Int) := (cbL k p).filter fun q => decide (r.keep q.1 q.2 = (k, p))
def pairD (q : Int × Int) : D := .tup [.int q.1, .int q.2]
def RCb (ds : List D) (d : D) : Prop := ∃ (r : Rule) (k p : Int), ds = [.cell r, .int k, .int p] ∧ d = .lst ((befC r k p).map pairD)
theorem eqD_pair (a b c d : Int) : eqD (.tup [.int a, .int b]) (.tup [.int c, .int d]) = decide ((a, b) = (c, d)) := by
  unfold eqD
  simp only [toPy, toPyL, PyData.eqv, PyData.eqvAll]
  by_cases h1 : a = c <;> by_cases h2 : b = d <;> simp [h1, h2]
section
variable {P : Program} {w : World} {K : PySem.W.Frag} {mg : Str → Option Value} {base : Heap} {M : List Addr} {σ : L2.St} {H : Hp}
theorem wp_midE {X : Cx} {st : Stmt} {b : List Stmt} {D : Ends} {t : TS} (Jn : L2.St → Hp → Prop) (hps : PS X st t) (h : ∀ Nx : L2.St → Hp → Prop, (∀ σ H, Jn σ H → Nx σ H) → t { D with nx := Nx } σ H) (k : ∀ σ H, Jn σ H → wpS X b D σ H) : wpS X (st :: b) D σ H := wp_cons hps (h _ k)
def nmCb : List Str := ["cell", "kept", "passed", "pairs", "own", "came"]
theorem sc_cb : FnScope nmCb ["cell", "kept", "passed"] (defScope s_cell_before) := ⟨rfl, rfl, rfl, by decide +kernel, rfl, by decide +kernel, by decide +kernel⟩
theorem ok_cb {f : Addr} {fd : FuncData} {n0 : Nat} (F : Fun K "cell_before" "cell_before" s_cell_before f fd) (CO : CellsOk P w K mg base n0) : FnOk P w K mg base CX0 (n0 + 1) f fd ["cell", "kept", "passed"] (spP K RCb) := by
  refine F.ok sc_cb (fun vs H Q E h => ?_) (fun cdv A outer s0 H vs Q E hr h => ?_)
  · obtain ⟨M, ds, d, ⟨rr, k, p, rfl, _⟩, _, r, _⟩ := h
    exact r.len
  · obtain ⟨M, ds, d, ⟨rr, k, p, rfl, rfl⟩, g, r, q⟩ := h
    have zz := line_big
    have E1 : Env K M (L2.start nmCb vs) H [.dat (.cell rr), .dat (.int k), .dat (.int p), .any, .any, .any] := env_startD r
    refine ⟨_, wpS_ok, ?_⟩
    generalize L2.start nmCb vs = σ0 at E1 ⊢
    have S : En K M σ0 H _ := ⟨E1, g⟩
    clear E1
    refine wp_cons (ps_set (i := 3) sc_cb.nd rfl (by first | exact .inl rfl | exact .inr rfl) (pe_lst (pa_cons (pe_tup (pa_cons (pv 1) (pa_cons (pv 2) pa_nil))) pa_nil))) (go_asg (go_lst (go_cons ?_)))
    refine ((rd_tupA (rda_cons (S.rd (i := 1) rfl) (rda_one (S.rd (i := 2) rfl)))).cast (d' := pairD (k, p)) rfl) H (Same.refl _) S.g _ fun v H1 s1 g1 r1 => ⟨by show 1 ≤ sizeLine; decide, fun L hL => ?_⟩
    have S := S.same s1
    have s2 : Same H1 (upd H1 L (.lst [v])) := same_new hL
    have LM : L ∉ M := g1.out hL
    have S2 : En K (L :: M) (σ0.set 3 (some (.ref L))) (upd H1 L (.lst [v])) _ := ⟨(S.e.more hL s2).setv (i := 3) (v := .ref L), (S.g.same s2).lst upd_same⟩
    dsimp only [List.set] at S2
    have eL : upd H1 L (.lst [v]) L = some (.lst [v]) := upd_same
    have rL : RpL K (wo (L :: M) (upd H1 L (.lst [v]))) [pairD (k, p)] [v] := ⟨v, [], rfl, Rp.same (wo_cons hL s2) _ r1, rfl⟩
    have sH : Same H (upd H1 L (.lst [v])) := s1.trans s2
    show wpS _ _ _ (σ0.set 3 (some (.ref L))) (upd H1 L (.lst [v]))
    have S := S2
    have fL : H L = none := s1.free hL
    generalize σ0.set 3 (some (V.ref L)) = σ1 at S ⊢
    generalize upd H1 L (.lst [v]) = H2 at S eL rL sH ⊢
    clear S2 r1 g1 s2 hL
    refine wp_midE (fun σ H' => ∃ us, Same H H' ∧ H' L = some (.lst us) ∧ RpL K (wo (L :: M) H') ((cbL k p).map pairD) us ∧ En K (L :: M) σ H' [.dat (.cell rr), .dat (.int k), .dat (.int p), .val (.ref L), .any, .any]) (ps_if (pt_cmpR op_ne (pv 1) (pv 2) (nomark _)) wpS_ok pss_nil) (fun Nx hN => ?_) ?_
    · refine use_if (rdt_test (rd_neI (S.rd (i := 1) rfl) (S.rd (i := 2) rfl))) S.g fun H3 s3 g3 => ?_
      have S := S.same s3
      have eL := s3 _ _ eL
      have rL := RpL.same (swo (M := L :: M) s3) _ rL
      by_cases c : k = p
      · rw [decide_eq_true c]
        have e : cbL k p = [(k, p)] := by unfold cbL; rw [if_pos c]
        exact iteF (hN _ _ ⟨_, sH.trans s3, eL, by rw [e]; exact rL, S⟩)
      · rw [decide_eq_false c]
        have e : cbL k p = [(k, p), (p, k)] := by unfold cbL; rw [if_neg c]
        refine iteT ?_
        refine wp_one (ps_expr (pe_bm PySem.F.plainAttrs_list PySem.F.slot_list_append PySem.F.type_list_append mt_append (pv 3) (pa_cons (pe_tup (pa_cons (pv 2) (pa_cons (pv 1) pa_nil))) pa_nil))) ?_
        refine ⟨_, S.e.val (i := 3) rfl, .inl ⟨rfl, _, SqL.of eL⟩, ?_⟩
        refine ((rd_tupA (rda_cons (S.rd (i := 2) rfl) (rda_one (S.rd (i := 1) rfl)))).cast (d' := pairD (p, k)) rfl) H3 (Same.refl _) S.g _ fun v4 H4 s4 g4 r4 => ?_
        have S := S.same s4
        have eL := s4 _ _ eL
        have rL := RpL.same (swo (M := L :: M) s4) _ rL
        refine ⟨L, [v], v4, rfl, rfl, eL, by show 1 < sizeLine; decide, ?_⟩
        have eW := wo_upd (M := L :: M) (H := H4) (o := HO.lst ([v] ++ [v4])) (m := L) List.mem_cons_self
        refine hN _ _ ⟨[v] ++ [v4], fun b o z => by rw [upd_ne (ne_of_none z fL)]; exact s4 _ _ (s3 _ _ (sH _ _ z)), upd_same, ?_, ⟨S.e.le (by rw [eW]; exact Same.refl _), Gd.at (o := .lst _) S.g trivial⟩⟩
        rw [e, eW]
        exact rL.snoc r4
    clear S eL rL sH
    rintro σ2 H3 ⟨us, sH, eL, rL, S⟩
    have S : En K M σ2 H3 [.dat (.cell rr), .dat (.int k), .dat (.int p), .dat (.lst ((cbL k p).map pairD)), .any, .any] := ⟨S.e.less.asD (i := 3) rfl ⟨L, us, rfl, by rw [wo_at LM]; exact eL, RpL.same (wo_sub fun y hy => List.mem_cons_of_mem _ hy) _ rL⟩, S.g.tl⟩
    have lc : (cbL k p).length ≤ 2 := by
      unfold cbL
      by_cases c : k = p
      · rw [if_pos c]; show 1 ≤ 2; decide
      · rw [if_neg c]; show 2 ≤ 2; decide
    refine en_ret (ps_ret (pe_lc (own := [("own", 4), ("came", 5)]) (g := gTup K 2 (gCons (gName 4) (gCons (gName 5) gNil))) (by rfl) sc_cb.nd (pi_listK (K := K) rfl (pv 3)) (blkOk_by (own := [("own", 4), ("came", 5)]) (N := nmCb) (sc := defScope s_cell_before) (by decide +kernel)) (fun _ _ _ _ _ => pg_tup rfl (pgs_cons (pg_name (i := 4) sc_cb.nd rfl (by first | exact .inl rfl | exact .inr rfl)) (pgs_cons (pg_name (i := 5) sc_cb.nd rfl (by first | exact .inl rfl | exact .inr rfl)) pgs_nil))) (fun _ _ _ _ _ => pts_one (pt_cmpR (r := rEqD K) (op_eqD hr.units) (pe_cellCallK (K := K) rfl (pv 0) CO hr (pa_cons (pv 4) (pa_cons (pv 5) pa_nil))) (pe_tup (pa_cons (pv 1) (pa_cons (pv 2) pa_nil))) (nomark _))) (fun _ _ _ _ _ => pe_tup (pa_cons (pv 4) (pa_cons (pv 5) pa_nil))))) S
      (rd_lcP (i := 4) (j := 5) (by decide) (cbL k p) (fun q => .int q.1) (fun q => .int q.2) (fun q => decide (rr.keep q.1 q.2 = (k, p))) pairD (by omega) (S.rd (i := 3) rfl) fun q hq M' H' v u sw s g' rv ru => ?_) fun v H4 s4 g4 r4 => q v H4 (sH.trans s4) g4 r4
    have E' := ((S.e.le sw).wipe2 (i := 4) (j := 5) |>.set (i := 4) rv).set (i := 5) ru
    refine ⟨?_, fun _ => (rd_tupA (rda_cons (E'.rd (i := 4) rfl) (rda_one (E'.rd (i := 5) rfl)))).cast rfl⟩
    have z := rdt_test (rd_eqD (n := 1) (m := 1) ok_pair (by decide) ok_pair (by decide) (rd_cellcall (E'.rd (i := 0) rfl) (rda_cons (E'.rd (i := 4) rfl) (rda_one (E'.rd (i := 5) rfl)))) (rd_tupA (rda_cons (E'.rd (i := 1) rfl) (rda_one (E'.rd (i := 2) rfl)))))
    rw [eqD_pair] at z
    exact z
end
end SC
set_option maxRecDepth 100000
set_option maxHeartbeats 2000000
/-! # ways_back -/
namespace SC
open PySem PySem.Spec PyProof.Rows L2 TL
def wayD (w : Way) : D := .tup [.int w.1, .ktup (w.2.map dO)]
def hsX (xs : List Int) (n : Nat) : List (Option Int) := xs.map some ++ nones n
theorem hsX_len (xs : List Int) (n : Nat) : (hsX xs n).length = xs.length + n := by
  unfold hsX
  rw [List.length_append, List.length_map, nones_len]
theorem hsX_none (xs : List Int) (n : Nat) : (hsX xs n).countP Option.isNone = n := by
  unfold hsX
  rw [List.countP_append]
  have e1 : (xs.map some).countP Option.isNone = 0 := by
    rw [List.countP_eq_zero]
    intro a ha
    obtain ⟨z, _, rfl⟩ := List.mem_map.mp ha
    simp
  have e2 : (nones n).countP Option.isNone = n := by
    unfold nones
    rw [List.countP_replicate]
    simp
  rw [e1, e2, Nat.zero_add]
theorem hsX_at {xs : List Int} {n i : Nat} {x : Int} (h : xs[i]? = some x) : (hsX xs n)[i]? = some (some x) := by
  unfold hsX
  rw [List.getElem?_append_left (by rw [List.length_map]; exact (List.getElem?_eq_some_iff.mp h).1), List.getElem?_map, h]
  rfl
theorem atI_map {l : List (Option Int)} {i : Nat} {x : Option Int} (h : l[i]? = some x) : atI (l.map dO) (i : Int) = some (dO x) := atI_nat (by rw [List.getElem?_map, h]; rfl)
def spWays (P : Program) (w : World) (K : PySem.W.Frag) (mg : Str → Option Value) (base : Heap) (k : Nat) : Sp := fun vs H Q _ => ∃ (M : List Addr) (rs : List Rule) (xs : List Int) (n : Nat) (out : Option Int) (f : Addr) (J : Hp → Prop) (R : List D → D → Prop) (fit : Fit) (v1 v2 v3 : V),
  vs = [v1, v2, v3, .ref f] ∧ Gd K M H ∧ RpL K (wo M H) [.chain rs, .ktup ((hsX xs n).map dO), dO out] [v1, v2, v3] ∧ rs.length = xs.length + n ∧ 1 ≤ rs.length ∧ rs.length ≤ 8 ∧ CalD P w K mg base k f J R ∧ J H ∧ (∀ r own b, R [.cell r, .int own, .ktup (b.map dO)] (.bl (fit r own b))) ∧
  ∀ v H2, Same H H2 → Gd K M H2 → Rp K (wo M H2) (.lst ((waysF fit rs xs n out).map wayD)) v → Q v H2
def nmWb : List Str := ["chain", "held", "out", "fits", "filled", "ways", "at", "passed", "behind", "own", "came"]
theorem sc_wb : FnScope nmWb ["chain", "held", "out", "fits"] (defScope s_ways_back) := ⟨rfl, rfl, rfl, by decide +kernel, rfl, by decide +kernel, by decide +kernel⟩
/-- what the loop starts from -/
structure WbI (fit : Fit) (rs : List Rule) (xs : List Int) (n : Nat) (out : Option Int) (ys : List Int) (y : Int) (b : List (Option Int)) : Prop where
  is : waysF fit rs xs n out = backF fit (rs.take ys.length) ys [(y, b)]
  le : ys.length ≤ rs.length
  at_ : ∀ (i : Nat) (z : Int), ys[i]? = some z → xs[i]? = some z
  fit8 : ys.length + b.length ≤ rs.length
section
variable {P : Program} {w : World} {K : PySem.W.Frag} {mg : Str → Option Value} {base : Heap} {M : List Addr} {σ : L2.St} {H : Hp}
theorem ok_wb {f : Addr} {fd : FuncData} {n0 k0 : Nat} (hk : k0 ≤ n0) (F : Fun K "ways_back" "ways_back" s_ways_back f fd) (B : Bln mg) (hrv : mg "reversed" = none) (C : ChainOk P w K mg base n0) (CB : Fu P w K mg base CX0 n0 "cell_before" ["cell", "kept", "passed"] (spP K RCb)) :
    FnOk P w K mg base CX0 (n0 + 2) f fd ["chain", "held", "out", "fits"] (spWays P w K mg base k0) := by
  refine F.ok sc_wb (fun vs H Q E h => ?_) (fun cdv A outer s0 H vs Q E hr h => ?_)
  · obtain ⟨M, rs, xs, n, out, f, J, R, fit, v1, v2, v3, rfl, _⟩ := h
    rfl
  · obtain ⟨M, rs, xs, n, out, f0, J, R, fit, v1, v2, v3, rfl, g, r, hl, l1, l8, CD, hJ, hR, q⟩ := h
    have zz := line_big
    obtain ⟨_, _, e1, r1, _, _, e2, r2, _, _, e3, r3, e4⟩ := r
    cases e1
    cases e2
    cases e3
    have E1 : Env K M (L2.start nmWb [v1, v2, v3, .ref f0]) H [.dat (.chain rs), .dat (.ktup ((hsX xs n).map dO)), .dat (dO out), .val (.ref f0), .any, .any, .any, .any, .any, .any, .any] := ((env_start.asD (i := 0) rfl r1).asD (i := 1) rfl r2).asD (i := 2) rfl r3
    refine ⟨_, wpS_ok, ?_⟩
    generalize L2.start nmWb [v1, v2, v3, .ref f0] = σ0 at E1 ⊢
    have S : En K M σ0 H _ := ⟨E1, g⟩
    clear E1 r1 r2 r3
    have lh := hsX_len xs n
    refine en_set (ps_set (i := 4) sc_wb.nd rfl (by first | exact .inl rfl | exact .inr rfl) (pe_op op_sub (pe_callB (r := rLenS K) call_len_seq (by rfl) B.len boot_len' (pa_cons (pv 1) pa_nil)) (pe_bmT PySem.F.slot_tuple_count PySem.F.type_tuple_count mt_countT (pv 1) (pa_cons pe_non pa_nil)))) S ((rd_sub (rd_lenKM (f := dO) (xs := hsX xs n) (rda_one (S.rd (i := 1) rfl))) (rd_countNK (S.rd (i := 1) rfl) (rda_one rd_non))).cast (d' := .int (xs.length : Nat)) (by rw [hsX_none, lh]; congr 1; omega)) fun σ1 H1 s1 S => ?_
    dsimp only [List.set] at S
    refine en_if (c := decide (xs.length = 0) || (!(isN (dO out)) && decide (xs.length < xs.length + n))) (ps_if (PW.pt (pw_or (pt_cmpR op_eq (pv 4) pe_int (nomark _)) (pw_or1 (PW.pt (pw_and (pt_cmpR op_notN (pv 2) pe_non (nomark _)) (pw_and1 (pt_cmpR op_lt (pv 4) (pe_callB (r := rLenS K) call_len_seq (by rfl) B.len boot_len' (pa_cons (pv 1) pa_nil)) (nomark _)))))))) wpS_ok pss_nil) S (rdt_orT ((rdt_test (rd_eqI (S.rd (i := 4) rfl) rd_int)).cast (by simp)) (rdt_andT (rdt_test (rd_notN (S.rd (i := 2) rfl) rd_non)) ((rdt_test (rd_lt (S.rd (i := 4) rfl) (rd_lenKM (f := dO) (xs := hsX xs n) (rda_one (S.rd (i := 1) rfl))))).cast (by rw [lh]; exact decide_eq_decide.mpr (by omega))))) (fun hc H2 s2 S => ?_) fun hc H2 s2 S => ?_
    · have e : waysF fit rs xs n out = [] := by
        cases out with
        | none =>
          have z : xs.length = 0 := by simpa [isN, dO] using hc
          rw [List.length_eq_zero_iff.mp z]
          rfl
        | some o =>
          unfold waysF
          dsimp only
          by_cases hx : xs = []
          · rw [if_pos hx]
          · rw [if_neg hx]
            have z : 0 < n := by
              have z : xs.length = 0 ∨ 0 < n := by simpa [isN, dO] using hc
              rcases z with z | z
              · exact absurd (List.length_eq_zero_iff.mp z) hx
              · exact z
            rw [if_neg (by omega)]
      refine en_ret (ps_ret (pe_lst pa_nil)) S ((rd_lst (ds := []) (Nat.zero_le _) rda_nil).cast (d' := .lst ((waysF fit rs xs n out).map wayD)) (by rw [e]; rfl)) fun v H3 s3 g3 r3 => q v H3 ((s1.trans s2).trans s3) g3 r3
    have hx : xs ≠ [] := fun z => by rw [z] at hc; simp at hc
    have ho : ∀ o, out = some o → n = 0 := fun o e => by
      rw [e] at hc
      have z : ¬ xs.length = 0 ∧ n = 0 := by simpa [isN, dO] using hc
      exact z.2
    clear hc
    refine en_set (ps_set (i := 5) sc_wb.nd rfl (by first | exact .inl rfl | exact .inr rfl) (pe_lst (pa_cons (pe_tup (pa_cons (pv 2) (pa_cons (pe_tupK pa_nil) pa_nil))) pa_nil))) S (rd_lst (ds := [.tup [dO out, .ktup []]]) (by show 1 ≤ _; omega) (rda_one (rd_tupA (rda_cons (S.rd (i := 2) rfl) (rda_one (rd_tupK rda_nil (Nat.zero_le _))))))) fun σ3 H3 s3 S => ?_
    dsimp only [List.set] at S
    have sH := (s1.trans s2).trans s3
    clear s1 s2 s3
    refine wp_midE (fun σ H' => ∃ ys y b, WbI fit rs xs n out ys y b ∧ Same H H' ∧ En K M σ H' [.dat (.chain rs), .dat (.ktup ((hsX xs n).map dO)), .any, .val (.ref f0), .dat (.int (ys.length : Nat)), .dat (.lst ([((y, b) : Way)].map wayD)), .any, .any, .any, .any, .any]) (ps_if (pt_cmpR op_isN (pv 2) pe_non (nomark _)) wpS_ok pss_nil) (fun Nx hN => ?_) ?_
    · refine use_if (rdt_test (rd_isN (S.rd (i := 2) rfl) rd_non)) S.g fun H4 s4 g4 => ?_
      have S := S.same s4
      cases out with
      | some o =>
        refine iteF (hN _ _ ⟨xs, o, [], ⟨?_, by omega, fun _ _ z => z, by show xs.length + 0 ≤ _; omega⟩, sH.trans s4, ⟨S.e.fgt (by repeat (first | exact Fgt.nil | apply Fgt.keep | apply Fgt.any)), S.g⟩⟩)
        have n0 := ho o rfl
        unfold waysF
        dsimp only
        rw [if_neg hx, if_pos n0, List.take_of_length_le (by omega)]
      | none =>
        refine iteT ?_
        obtain ⟨ys, y, rfl⟩ : ∃ ys y, xs = ys ++ [y] := ⟨xs.dropLast, xs.getLast hx, (List.dropLast_concat_getLast hx).symm⟩
        have ly : (ys ++ [y]).length = ys.length + 1 := by simp
        obtain ⟨v4, e4, r4⟩ := S.e.dat (i := 4) rfl
        cases r4
        refine wp_cons (ps_aug (i := 4) sc_wb.nd rfl (by first | exact .inl rfl | exact .inr rfl) pe_int ip_sub) ?_
        refine ⟨_, e4, _, _, rfl, rfl, ?_⟩
        have S4 : En K M (σ3.set 4 (some (.int (((ys ++ [y]).length : Nat) - 1)))) H4 _ := ⟨S.e.set (i := 4) (d := .int (ys.length : Nat)) (show V.int _ = V.int _ by congr 1; omega), S.g⟩
        dsimp only [List.set] at S4
        show wpS _ _ _ (σ3.set 4 (some (.int (((ys ++ [y]).length : Nat) - 1)))) H4
        generalize σ3.set 4 (some (V.int (((ys ++ [y]).length : Nat) - 1))) = σ4 at S4 ⊢
        have S := S4
        clear S4
        have ea : (hsX (ys ++ [y]) n)[ys.length]? = some (some y) := hsX_at (by simp)
        refine wp_one (ps_set (i := 5) sc_wb.nd rfl (by first | exact .inl rfl | exact .inr rfl) (pe_lst (pa_cons (pe_tup (pa_cons (pe_ix (r := rIxT K) ix_tup (pv 1) (pv 4) (fun _ _ => rfl)) (pa_cons (pe_op op_repK (pe_tupK (pa_cons pe_non pa_nil)) (pe_op op_sub (pe_callB (r := rLenS K) call_len_seq (by rfl) B.len boot_len' (pa_cons (pv 1) pa_nil)) (pv 4))) pa_nil))) pa_nil))) (use_set (rd_lst (ds := [wayD (y, nones (n + 1))]) (by show 1 ≤ _; omega) (rda_one ((rd_tupA (rda_cons (rd_ixK (atI_map ea) (S.rd (i := 1) rfl) (S.rd (i := 4) rfl)) (rda_one (rd_repK (n := n + 1) (by omega) (by omega) (rd_tupK (rda_one rd_non) (by show 1 ≤ _; omega)) ((rd_sub (rd_lenKM (f := dO) (xs := hsX (ys ++ [y]) n) (rda_one (S.rd (i := 1) rfl))) (S.rd (i := 4) rfl)).cast (by rw [lh, ly]; congr 1; omega)))))).cast (by unfold wayD nones; rw [List.map_replicate]; rfl)))) S.g fun v5 H5 s5 g5 r5 => ?_)
        refine hN _ _ ⟨ys, y, nones (n + 1), ⟨?_, by omega, fun i z hz => by rw [List.getElem?_append_left (List.getElem?_eq_some_iff.mp hz).1]; exact hz, by rw [nones_len]; omega⟩, (sH.trans s4).trans s5, ⟨((S.e.same s5).set (i := 5) r5).fgt (by repeat (first | exact Fgt.nil | apply Fgt.keep | apply Fgt.any)), g5⟩⟩
        unfold waysF
        have e : (ys ++ [y]).getLast? = some y := by simp
        rw [e]
        dsimp only
        rw [List.length_append, List.length_singleton, Nat.add_sub_cancel, List.dropLast_concat]
    clear S sH
    rintro σ4 H4 ⟨ys, y, b, W, sH, S⟩
    have lt : (rs.take ys.length).length = ys.length := by rw [List.length_take]; have := W.le; omega
    refine wp_cons (ps_for PassesOwn.never rfl (pi_revR (by rfl) hrv (prg_1 (by rfl) B.range (pv 4))) (pg_name (i := 6) sc_wb.nd rfl (by first | exact .inl rfl | exact .inr rfl)) wpS_ok) ?_
    obtain ⟨v4, e4, r4⟩ := S.e.dat (i := 4) rfl
    cases r4
    have bb := W.le
    refine ⟨_, e4, _, rfl, by omega, by omega, by omega, by omega, ?_⟩
    have en : ((ys.length : Int) - 0).toNat = ys.length := by omega
    rw [en]
    refine for_rangeC (fun i σ H' => Same H H' ∧ En K M σ H' [.dat (.chain rs), .dat (.ktup ((hsX xs n).map dO)), .any, .val (.ref f0), .any, .dat (.lst ((backF fit ((rs.take ys.length).drop (ys.length - i)) (ys.drop (ys.length - i)) [(y, b)]).map wayD)), .any, .any, .any, .any, .any]) ⟨sH, ?_⟩ ?_ ?_
    · have e : backF fit ((rs.take ys.length).drop (ys.length - 0)) (ys.drop (ys.length - 0)) [(y, b)] = [(y, b)] := by
        rw [Nat.sub_zero, List.drop_of_length_le (by omega), List.drop_of_length_le (by omega)]
        rfl
      rw [e]
      exact ⟨S.e.fgt (by repeat (first | exact Fgt.nil | apply Fgt.keep | apply Fgt.any)), S.g⟩
    · clear S sH e4 σ4 H4
      rintro i σ5 H5 hi ⟨sH, S⟩
      obtain ⟨m, em⟩ : ∃ m, ys.length - i = m + 1 := ⟨ys.length - i - 1, by omega⟩
      have ex : (0 : Int) + (ys.length : Int) - 1 + (i : Int) * (-1) = (m : Nat) := by omega
      have em2 : ys.length - (i + 1) = m := by omega
      obtain ⟨x, hx'⟩ : ∃ x, ys[m]? = some x := ⟨_, List.getElem?_eq_getElem (by omega)⟩
      obtain ⟨r, hr'⟩ : ∃ r, rs[m]? = some r := ⟨_, List.getElem?_eq_getElem (by omega)⟩
      have hrt : (rs.take ys.length)[m]? = some r := by rw [List.getElem?_take_of_lt (by omega)]; exact hr'
      have hh := hsX_at (n := n) (W.at_ m x hx')
      show wpS _ _ _ (σ5.set 6 (some (.int ((0 : Int) + (ys.length : Int) - 1 + (i : Int) * (-1))))) H5
      rw [ex]
      have S6 : En K M (σ5.set 6 (some (.int (m : Nat)))) H5 _ := ⟨S.e.set (i := 6) (d := .int (m : Nat)) rfl, S.g⟩
      dsimp only [List.set] at S6
      generalize σ5.set 6 (some (V.int (m : Nat))) = σ6 at S6 ⊢
      have S := S6
      clear S6
      have hJ5 := CD.same _ _ hJ sH
      rw [em] at S
      have lb : (backF fit ((rs.take ys.length).drop m) (ys.drop m) [(y, b)]).length < sizeLine := by
        refine Nat.lt_of_le_of_lt (backF_len _ _ _ _) ?_
        have h8 : ((rs.take ys.length).drop m).length ≤ 8 := by rw [List.length_drop]; omega
        have h2 : 2 ^ ((rs.take ys.length).drop m).length ≤ 2 ^ 8 := Nat.pow_le_pow_right (by decide) h8
        show _ * 1 < _
        omega
      rw [backF_at hrt hx'] at lb
      have key := rd_lcP2 (K := K) (M := M) (σ := σ6) (H := H5) (i1 := 7) (i2 := 8) (j1 := 9) (j2 := 10) (tl := tVar 5) (tl1 := tCall (spP K RCb) [] E0 (tCons (tOp (rChIx K) (tVar 0) (tVar 6)) (tCons (tOp (rIxT K) (tVar 1) (tVar 6)) (tCons (tVar 7) tNil)))) (tt := tB (tCallV 3 f0 J (spP K R) (tCons (tOp (rChIx K) (tVar 0) (tVar 6)) (tCons (tVar 9) (tCons (tVar 8) tNil))))) (te := tTup (tCons (tVar 10) (tCons (tOp (rCatK K) (tTupK (tCons (tVar 9) tNil)) (tVar 8)) tNil)))
        (backF fit ((rs.take ys.length).drop (m + 1)) (ys.drop (m + 1)) [(y, b)]) (fun w => .int w.1) (fun w => .ktup (w.2.map dO)) (fun w => befR r x w.1) (fun q => .int q.1) (fun q => .int q.2) (fun w q => fit r q.1 w.2) (fun w q => wayD (q.2, some q.1 :: w.2)) (by
          have e : ((backF fit ((rs.take ys.length).drop (m + 1)) (ys.drop (m + 1)) [(y, b)]).flatMap fun w => ((befR r x w.1).filter fun q => fit r q.1 w.2).map fun q => wayD (q.2, some q.1 :: w.2)) = ((backF fit ((rs.take ys.length).drop (m + 1)) (ys.drop (m + 1)) [(y, b)]).flatMap fun w => ((befR r x w.1).filter fun q => fit r q.1 w.2).map fun q => ((q.2, some q.1 :: w.2) : Way)).map wayD := by
            rw [List.map_flatMap]
            congr 1
            funext w
            rw [List.map_map]
            rfl
          rw [e, List.length_map]
          exact lb) (S.rd (i := 5) rfl) (fun w hw M' H' v u sw s g' rv ru => ?_) (fun w hw p hp M' H' v u v' u' sw s g' rv ru rv' ru' => ?_)
      · refine wp_one (ps_setLc2 (i := 5) (own := [("passed", 7), ("behind", 8), ("own", 9), ("came", 10)]) (vs1 := [9, 10]) (g := gTup K 2 (gCons (gName 7) (gCons (gName 8) gNil))) (g1 := gTup K 2 (gCons (gName 9) (gCons (gName 10) gNil))) (by rfl) sc_wb.nd rfl rfl (by rfl) (pi_listK (K := K) rfl (pv 5)) (blkOk_by (own := [("passed", 7), ("behind", 8), ("own", 9), ("came", 10)]) (N := nmWb) (sc := defScope s_ways_back) (by decide +kernel)) (by decide)
          (fun _ _ _ _ _ => pg_tup rfl (pgs_cons (pg_name (i := 7) sc_wb.nd rfl (by first | exact .inl rfl | exact .inr rfl)) (pgs_cons (pg_name (i := 8) sc_wb.nd rfl (by first | exact .inl rfl | exact .inr rfl)) pgs_nil))) (fun _ _ _ _ _ => pts_nil)
          (fun _ _ _ _ _ => pi_listK (K := K) rfl (pe_fu CB hr (by omega) (by rfl) pass0 (pa_cons (pe_ixCK rfl C (hr.mono (by omega)) (pv 0) (pv 6)) (pa_cons (pe_ix (r := rIxT K) ix_tup (pv 1) (pv 6) (fun _ _ => rfl)) (pa_cons (pv 7) pa_nil)))))
          (fun _ _ _ _ _ => pg_tup rfl (pgs_cons (pg_name (i := 9) sc_wb.nd rfl (by first | exact .inl rfl | exact .inr rfl)) (pgs_cons (pg_name (i := 10) sc_wb.nd rfl (by first | exact .inl rfl | exact .inr rfl)) pgs_nil)))
          (fun _ _ _ _ _ => pts_one (pt_val (pe_callVK (K := K) (i := 3) rfl CD hr (by omega) rfl (by first | exact .inl rfl | exact .inr (.inl rfl) | exact .inr (.inr rfl)) (pa_cons (pe_ixCK rfl C (hr.mono (by omega)) (pv 0) (pv 6)) (pa_cons (pv 9) (pa_cons (pv 8) pa_nil))))))
          (fun _ _ _ _ _ => pe_tup (pa_cons (pv 10) (pa_cons (pe_op op_catK (pe_tupK (pa_cons (pv 9) pa_nil)) (pv 8)) pa_nil)))) ?_
        refine use_set key S.g fun v7 H7 s7 g7 r7 => ⟨sH.trans s7, ?_⟩
        have e : ((backF fit ((rs.take ys.length).drop (m + 1)) (ys.drop (m + 1)) [(y, b)]).flatMap fun w => ((befR r x w.1).filter fun q => fit r q.1 w.2).map fun q => wayD (q.2, some q.1 :: w.2)) = (backF fit ((rs.take ys.length).drop m) (ys.drop m) [(y, b)]).map wayD := by
          rw [backF_at hrt hx', List.map_flatMap]
          congr 1
          funext w
          rw [List.map_map]
          rfl
        rw [e] at r7
        rw [em2]
        exact ⟨((S.e.same s7).set (i := 5) r7).fgt (by repeat (first | exact Fgt.nil | apply Fgt.keep | apply Fgt.any)), g7⟩
      · have E' := env_outS (i1 := 7) (i2 := 8) (j1 := 9) (j2 := 10) (S.e.le sw) rv ru
        dsimp only [List.set] at E'
        exact rd_P (R := RCb) ⟨r, x, w.1, rfl, rfl⟩ (rda_cons (rd_chix hr' (E'.rd (i := 0) rfl) (E'.rd (i := 6) rfl)) (rda_cons (rd_ixK (atI_map hh) (E'.rd (i := 1) rfl) (E'.rd (i := 6) rfl)) (rda_one (E'.rd (i := 7) rfl))))
      · have E' := env_inS (i1 := 7) (i2 := 8) (j1 := 9) (j2 := 10) (env_outS (i1 := 7) (i2 := 8) (j1 := 9) (j2 := 10) (S.e.le sw) rv ru) rv' ru'
        dsimp only [List.set] at E'
        refine ⟨rdt_val (rd_V (E'.val (i := 3) rfl) (CD.same _ _ hJ5 s) CD.same (hR r p.1 w.2) (rda_cons (rd_chix hr' (E'.rd (i := 0) rfl) (E'.rd (i := 6) rfl)) (rda_cons (E'.rd (i := 9) rfl) (rda_one (E'.rd (i := 8) rfl))))), fun _ => ?_⟩
        refine (rd_tupA (rda_cons (E'.rd (i := 10) rfl) (rda_one (rd_catK (l := [.int p.1]) (m := w.2.map dO) ?_ (rd_tupK (rda_one (E'.rd (i := 9) rfl)) (by show 1 ≤ _; omega)) (E'.rd (i := 8) rfl))))).cast rfl
        have z := backF_b fit ((rs.take ys.length).drop (m + 1)) (ys.drop (m + 1)) [(y, b)] (n := b.length) (fun u hu => by rw [List.mem_singleton.mp hu]; exact Nat.le_refl _) w hw
        have h8 : ((rs.take ys.length).drop (m + 1)).length ≤ 8 := by rw [List.length_drop]; omega
        have := W.fit8
        rw [List.length_map]
        show 1 + _ ≤ _
        omega
    · rintro σ5 H5 ⟨sH5, S⟩
      rw [Nat.sub_self, List.drop_zero, List.drop_zero] at S
      show wpS _ _ _ σ5 H5
      refine en_ret (ps_ret (pv 5)) S ((S.rd (i := 5) rfl).cast (by rw [W.is])) fun v H6 s6 g6 r6 => q v H6 (sH5.trans s6) g6 r6
end
end SC
set_option maxRecDepth 100000
set_option maxHeartbeats 2000000
/-! # earlier -/
namespace SC
open PySem PySem.Spec PyProof.Rows L2 TL
/-- where earlier keeps the code of its lambda -/
abbrev TEp (K : PySem.W.Frag) : Addr × Str := ((He.cT K ("earlier", none)).2, ("earlier" : Str) ++ ".<locals>." ++ "<lambda>")
def sortW (ws : List Way) : List Way := ws.mergeSort (PySem.W.dataLe false fun x => toPy (wayD x))
def spEar (K : PySem.W.Frag) (T : List (Addr × Str)) : Sp := fun vs H Q _ => ∃ (M : List Addr) (rs : List Rule) (xs : List Int) (n : Nat) (out : Option Int), Gd K M H ∧ RpL K (wo M H) [.chain rs, .ktup ((hsX xs n).map dO), dO out] vs ∧ rs.length = xs.length + n ∧ 1 ≤ rs.length ∧ rs.length ≤ 8 ∧ (∀ z ∈ xs, numOk z) ∧ LamX.Tabs T H ∧ (∀ m ∈ M, ∀ ps, H m ≠ some (.tbl ps)) ∧
  ∀ v H', LamX.ExtN H H' → LamX.Tabs T H' → Gd K M H' → Rp K (wo M H') (.lst ((sortW (waysX rs xs n out)).map wayD)) v → Q v H'
def nmEar : List Str := ["chain", "held", "out"]
theorem sc_ear : FnScope nmEar ["chain", "held", "out"] (defScope s_earlier) := ⟨rfl, rfl, rfl, by decide +kernel, rfl, by decide +kernel, by decide +kernel⟩
theorem alike_nones : ∀ (xs ys : List (Option Int)), xs.map Option.isNone = ys.map Option.isNone → PySem.W.alikeAll (toPyL (xs.map dO)) (toPyL (ys.map dO)) = true
  | [], [], _ => rfl
  | [], _ :: _, h => by cases h
  | _ :: _, [], h => by cases h
  | x :: xs, y :: ys, h => by
    have h : x.isNone :: xs.map Option.isNone = y.isNone :: ys.map Option.isNone := h
    injection h with h1 h2
    have ih := alike_nones xs ys h2
    show (PySem.W.alike (toPy (dO x)) (toPy (dO y)) && PySem.W.alikeAll (toPyL (xs.map dO)) (toPyL (ys.map dO))) = true
    rw [ih, Bool.and_true]
    cases x <;> cases y <;> first | rfl | cases h1
theorem alike_way {a b : Way} (h : a.2.map Option.isNone = b.2.map Option.isNone) : PySem.W.alike (toPy (wayD a)) (toPy (wayD b)) = true := by
  show (PySem.W.alike (toPy (.int a.1)) (toPy (.int b.1)) && (PySem.W.alike (toPy (.ktup (a.2.map dO))) (toPy (.ktup (b.2.map dO))) && true)) = true
  have e : PySem.W.alike (toPy (.ktup (a.2.map dO))) (toPy (.ktup (b.2.map dO))) = PySem.W.alikeAll (toPyL (a.2.map dO)) (toPyL (b.2.map dO)) := rfl
  rw [e, alike_nones _ _ h]
  rfl
theorem ways_kind {rs : List Rule} {xs : List Int} {W : List Way} {p : List Bool} (hl : rs.length = xs.length) (h : ∀ u ∈ W, u.2.map Option.isNone = p) : ∀ w ∈ backR rs xs W, w.2.map Option.isNone = List.replicate xs.length false ++ p := by
  rintro ⟨c, old⟩ hw
  obtain ⟨q, b, ows, h1, rfl, h3, _⟩ := (back_mem hl).mp hw
  show (ows.map some ++ b).map Option.isNone = _
  rw [List.map_append, h _ h1, List.map_map, ← h3]
  congr 1
  exact List.eq_replicate_iff.mpr ⟨by rw [List.length_map], fun z hz => by
    obtain ⟨y, _, rfl⟩ := List.mem_map.mp hz
    rfl⟩
theorem waysX_alike {rs : List Rule} {xs : List Int} {n : Nat} {out : Option Int} (hl : rs.length = xs.length + n) : ∃ p, ∀ w ∈ waysX rs xs n out, w.2.map Option.isNone = p := by
  unfold waysX
  cases out with
  | some o =>
    dsimp only
    by_cases hx : xs = []
    · rw [if_pos hx]; exact ⟨[], fun w hw => by cases hw⟩
    · rw [if_neg hx]
      by_cases hn : n = 0
      · rw [if_pos hn]
        exact ⟨_, ways_kind (p := []) (by omega) fun u hu => by rw [List.mem_singleton.mp hu]; rfl⟩
      · rw [if_neg hn]; exact ⟨[], fun w hw => by cases hw⟩
  | none =>
    dsimp only
    cases e : xs.getLast? with
    | none => exact ⟨[], fun w hw => by cases hw⟩
    | some y =>
      refine ⟨_, ways_kind (p := (nones (n + 1)).map Option.isNone) ?_ fun u hu => by rw [List.mem_singleton.mp hu]⟩
      rw [List.length_take, List.length_dropLast]
      omega
theorem ok_way (w : Way) : Ok 2 (wayD w) := .tup fun x hx => by
  rcases List.mem_cons.mp hx with rfl | hx
  · exact .int
  · rw [List.mem_singleton.mp hx]
    exact ok_optsK
theorem waysX_len {rs : List Rule} {xs : List Int} {n : Nat} {out : Option Int} (l8 : rs.length ≤ 8) : (waysX rs xs n out).length ≤ 256 := by
  have key : ∀ (qs : List Rule) (ys : List Int) (w : Way), qs.length ≤ 8 → (backR qs ys [w]).length ≤ 256 := fun qs ys w h => by
    rw [← backF_true]
    refine Nat.le_trans (backF_len _ _ _ _) ?_
    have h2 : 2 ^ qs.length ≤ 2 ^ 8 := Nat.pow_le_pow_right (by decide) h
    show _ * 1 ≤ _
    omega
  unfold waysX
  cases out with
  | some o =>
    dsimp only
    split
    · exact Nat.zero_le _
    · split
      · exact key _ _ _ l8
      · exact Nat.zero_le _
  | none =>
    dsimp only
    cases e : xs.getLast? with
    | none => exact Nat.zero_le _
    | some y => exact key _ _ _ (by rw [List.length_take]; omega)
section
variable {P : Program} {w : World} {K : PySem.W.Frag} {mg : Str → Option Value} {base : Heap} {M : List Addr} {σ : L2.St} {H : Hp}
theorem go_drop {sp : Sp} {t : TA} {De : Ends} (h : t σ H fun vs H1 => sp (vs ++ []) H1 (fun _ H2 => De.nx σ H2) E0) : tDrop (tCall sp [] E0 t) De σ H := h
theorem ok_ear {f g : Addr} {fd gd : FuncData} {n0 : Nat} {T : List (Addr × Str)} (h4 : 4 ≤ n0) (F : Fun K "earlier" "earlier" s_earlier f fd) (hf : f = He.ga K "earlier") (B : Bln mg) (hso : mg "sorted" = none) (C : ChainOk P w K mg base n0) (CHd : Fu P w K mg base CX0 4 "check_held" ["held", "many"] (spHeldC K))
    (WB : FnOk P w K mg base CX0 (n0 + 2) g gd ["chain", "held", "out", "fits"] (spWays P w K mg base n0)) (bW : Binds K gd ["chain", "held", "out", "fits"] []) (kW : PySem.W.keepIn K (.ref g) = true) (gW : mg "ways_back" = some (.ref g))
    (TB : LamX.TabB base mg (He.cT K ("earlier", none)).1 (He.cT K ("earlier", none)).2) (hmT : TEp K ∈ T) (hu : ∀ p ∈ T, p.1 = (TEp K).1 → p.2 = (TEp K).2) :
    FnOk P w K mg base CX0 (n0 + 3) f fd ["chain", "held", "out"] (spEar K T) := by
  obtain ⟨⟨oc, od, kV, doc, pm, an, cdv, ct, osl, rfl, lk, hcd⟩, kp⟩ := F
  obtain ⟨c0, rfl⟩ := He.codeIn_ref hcd
  have ec : He.codeOf K ("earlier", none) = c0 := by
    subst hf
    exact He.codeOf_eq (p := ("earlier", none)) lk rfl
  have hcode0 : (He.cT K ("earlier", none)).1 = c0 := ec
  refine fn_of lk hcd sc_ear (fun vs H Q E h => ?_) (fun A outer s H vs Q E hr h => ?_)
  · obtain ⟨M, rs, xs, n, out, _, r, _⟩ := h
    exact r.len
  · obtain ⟨M, rs, xs, n, out, g, r, hl, l1, l8, hnum, hT, hnt, q⟩ := h
    have hcode : (cxOf CX0 P w K mg base nmEar "earlier" (defScope s_earlier) f (.ref c0) A outer s H E).nox.env.code = .ref (He.cT K ("earlier", none)).1 := by
      rw [hcode0]
      rfl
    have E1 : Env K M (L2.start nmEar vs) H [.dat (.chain rs), .dat (.ktup ((hsX xs n).map dO)), .dat (dO out)] := env_startD r
    refine ⟨_, PSs.nox wpS_ok, ?_⟩
    generalize L2.start nmEar vs = σ0 at E1 ⊢
    have S : En K M σ0 H _ := ⟨E1, g⟩
    clear E1 r
    have lh := hsX_len xs n
    refine wp_cons (ps_expr (pe_fu CHd hr (by omega) (by rfl) pass0 (pa_cons (pv 1) (pa_cons (pe_callB (r := rLenC K) (call_lenC C (hr.mono (by omega))) (by rfl) B.len boot_len' (pa_cons (pv 0) pa_nil)) pa_nil)))) (go_drop ?_)
    refine (rda_cons (S.rd (i := 1) rfl) (rda_one (rd_chlen (rda_one (S.rd (i := 0) rfl))))) H (Same.refl _) S.g _ fun vs1 H1 s1 g1 r1 => ?_
    refine ⟨M, hsX xs n, g1, by rw [List.append_nil, lh, ← hl]; exact r1, ⟨xs, n, rfl⟩, by omega, fun z hz => ?_, fun H2 s2 g2 => ?_⟩
    · unfold hsX at hz
      rcases List.mem_append.mp hz with hz | hz
      · obtain ⟨y, hy, e⟩ := List.mem_map.mp hz
        cases e
        exact hnum z hy
      · unfold nones at hz
        have := (List.mem_replicate.mp hz).2
        cases this
    have S := (S.same s1).same s2
    have s12 := s1.trans s2
    show wpS _ _ _ σ0 H2
    refine wp_one (ps_ret (pe_callB (r := rSortedD K) (cr_sortedD hr.units) (by rfl) hso boot_sorted'' (pa_cons (pe_callG WB hr (by rfl) gW kW bW (fun _ => rfl) (pa_cons (pv 0) (pa_cons (pv 1) (pa_cons (pv 2) (pa_cons (pe_mkL0 (T := T) (N := nmEar) TB hcode hmT hu (lamD_by (N := nmEar) (sc := defScope s_earlier) (by decide +kernel)) rfl) pa_nil))))) pa_nil))) ?_
    obtain ⟨v0, e0, r0⟩ := S.e.dat (i := 0) rfl
    obtain ⟨v1, e1, r1'⟩ := S.e.dat (i := 1) rfl
    obtain ⟨v2, e2, r2⟩ := S.e.dat (i := 2) rfl
    refine ⟨v0, e0, v1, e1, v2, e2, hT.ext s12, fun f1 H3 f0 e3 T3 la => fun G cg go => ?_⟩
    have m3 := wo_ext (M := M) e3
    have sa := same_addG go
    have g3 : Gd K M H3 := S.g.ext e3 fun m hm ps z => by
      obtain ⟨o, h1, _⟩ := g m hm
      have h1' := s12 _ _ h1
      rw [z] at h1'
      cases h1'
      exact hnt m hm ps h1
    refine ⟨M, rs, xs, n, out, f1, _, _, fun _ _ _ => true, v0, v1, v2, rfl, g3.same sa, ⟨_, _, rfl, Rp.same (swo sa) _ (Rp.ext m3 _ r0), _, _, rfl, Rp.same (swo sa) _ (Rp.ext m3 _ r1'), _, _, rfl, Rp.same (swo sa) _ (Rp.ext m3 _ r2), rfl⟩, hl, l1, l8,
      (cald_true (n := 3) (k := 0) cg (lamD_by (N := nmEar) (sc := defScope s_earlier) (by decide +kernel)) ?hb (fun _ _ _ _ _ _ _ => pe_bl)).mono (by omega), ⟨gin_add, la.same sa⟩, fun r own b => ⟨rfl, rfl⟩, fun v H4 s4 g4 r4 => ?_⟩
    case hb =>
      intro qn cl doc' pm' cdv' ctv' us hl3
      match us, hl3 with
      | [u1, u2, u3], _ => exact ⟨_, rfl, fun y hy => by
          rcases List.mem_cons.mp hy with rfl | hy
          · rfl
          · rcases List.mem_cons.mp hy with rfl | hy
            · rfl
            · rw [List.mem_singleton.mp hy]; rfl⟩
    rw [waysF_true] at r4
    have gi4 := gin_add (H := H3) (G := G) |>.same s4
    refine ⟨gi4, ?_⟩
    have s5 := same_cutG go s4
    have r5 := Rp.extP (extP_cutG (M := M) gi4) _ r4
    obtain ⟨p, hp⟩ := waysX_alike (out := out) hl
    have key := rd_sortedD (K := K) (M := M) (σ := σ0) (H := cutG H4 G) (f := wayD) (xs := waysX rs xs n out) (n := 2) (u := tCons (tC v) tNil) (fun x _ => ok_way x) (by decide) (fun d hd d' hd' => by
        obtain ⟨a, ha, rfl⟩ := List.mem_map.mp hd
        obtain ⟨b, hb, rfl⟩ := List.mem_map.mp hd'
        exact alike_way ((hp a ha).trans (hp b hb).symm)) (.inl fun d hd => by
        obtain ⟨a, ha, rfl⟩ := List.mem_map.mp hd
        exact ⟨_, _, rfl⟩) (rda_one (rd_cval r5))
    exact key (cutG H4 G) (Same.refl _) (g3.same s5) _ fun v6 H6 s6 g6 r6 => q v6 H6 ((ExtN.same s12).trans (e3.trans (ExtN.same (s5.trans s6)))) (T3.ext (s5.trans s6)) g6 r6
end
end SC
set_option maxRecDepth 100000
set_option maxHeartbeats 2000000
/-! # _law_opposite (cut of ChainZ) -/
namespace SC
open PySem PySem.Spec PyProof.Rows L2 TL
section
variable {P : Program} {w : World} {K : PySem.W.Frag} {mg : Str → Option Value} {base : Heap} {M : List Addr} {σ : L2.St} {H : Hp}
/-! the opposite -/
theorem cut4 (m : Int) : cutS (Rule.near m).label none (some 4) = ("near" : Str) := by
  apply ext_tl
  show (List.take _ _).toArray.toList = _
  have e : (Rule.near m).label.cps.toList = [110, 101, 97, 114, 58] ++ numZ m := near_tl m
  have l : (Rule.near m).label.length = 5 + (numZ m).length := by
    rw [len_tl]
    show (tl (Rule.near m).label).length = _
    rw [show tl (Rule.near m).label = _ from near_tl m, List.length_append]
    rfl
  rw [e, HT.sIx_none, show (some (4 : Int)) = some ((4 : Nat) : Int) from rfl, HT.sIx_nat, l, Nat.min_eq_left (by omega)]
  show List.take 4 ([110, 101, 97, 114, 58] ++ numZ m) = _
  rfl
theorem cut5 (m : Int) : cutS (Rule.near m).label (some 5) none = numS m := by
  apply ext_tl
  rw [numS_tl]
  show (List.take _ _).toArray.toList = _
  have e : (Rule.near m).label.cps.toList = [110, 101, 97, 114, 58] ++ numZ m := near_tl m
  have l : (Rule.near m).label.length = 5 + (numZ m).length := by
    rw [len_tl]
    show (tl (Rule.near m).label).length = _
    rw [show tl (Rule.near m).label = _ from near_tl m, List.length_append]
    rfl
  rw [e, HT.sIx_none, show (some (5 : Int)) = some ((5 : Nat) : Int) from rfl, HT.sIx_nat, l, Nat.min_eq_left (by omega)]
  show List.take (5 + (numZ m).length - 5) (numZ m) = numZ m
  rw [Nat.add_sub_cancel_left, List.take_length]
def spOpp : Sp := fun vs H Q _ => ∃ r : Rule, vs = [.str r.label] ∧ r.ok ∧ Q (.str r.neg.label) H
theorem sc_opp : FnScope ["_law_label"] ["_law_label"] (defScope s__law_opposite) := ⟨rfl, rfl, rfl, by decide +kernel, rfl, by decide +kernel, by decide +kernel⟩
theorem ok_opp {f : Addr} {fd : FuncData} (F : Fun K "_law_opposite" "_law_opposite" s__law_opposite f fd) (B : Bln mg) : FnOk P w K mg base CX0 1 f fd ["_law_label"] spOpp := by
  refine F.ok sc_opp (fun vs H Q E h => ?_) (fun cdv A outer s H vs Q E hr h => ?_)
  · obtain ⟨r, rfl, _⟩ := h
    rfl
  · obtain ⟨r, rfl, ok, q⟩ := h
    refine ⟨_, pss_cons (ps_if (pt_cmpR op_eq (pe_slice (r := rSlS) sl_str (pv 0) po_none (po_some pe_int)) pe_str (nomark _)) (pss_one (ps_ret (pe_op op_add_str pe_str (pe_callTy call_str_int (by rfl) B.str boot_str' (pa_cons (pe_op op_sub pe_int (pe_callTy call_int_str (by rfl) B.int boot_int' (pa_cons (pe_slice (r := rSlS) sl_str (pv 0) (po_some pe_int) po_none) pa_nil))) pa_nil))))) pss_nil)
      (pss_one (ps_ret (pe_ifExp (pt_cmpR op_eq (pv 0) pe_str (nomark _)) pe_str (pe_ifExp (pt_cmpR op_eq (pv 0) pe_str (nomark _)) pe_str (pv 0))))), ?_⟩
    have l8 : r.label.length ≤ sizeLine := Nat.le_trans (label_len ok) (by decide)
    refine ⟨_, rfl, 4, rfl, r.label, rfl, l8, ?_⟩
    cases r with
    | near m =>
      rw [cut4]
      have ho : numOk m := ok
      refine ⟨rfl, _, rfl, iteD1 rfl ?_⟩
      refine ⟨_, rfl, 5, rfl, _, rfl, l8, ?_⟩
      rw [cut5]
      refine ⟨_, _, rfl, numS_read ho, Nat.le_trans (numS_len ho) (by decide), ?_⟩
      have ho' : numOk (0 - m) := by
        obtain ⟨h1, h2⟩ := ho
        constructor <;> omega
      refine ⟨_, _, rfl, rfl, 0 - m, rfl, numS_log ho', ?_⟩
      refine ⟨_, _, rfl, rfl, ?_, ?_⟩
      · exact Nat.le_trans (Nat.add_le_add (show ("near:" : Str).length ≤ 5 by decide +kernel) (numS_len ho')) (by decide)
      · rw [show (0 - m) = -m from by omega]
        exact q
    | first => exact ⟨rfl, _, rfl, iteD0 (by decide +kernel) ⟨_, rfl, rfl, _, rfl, iteD0 (by decide +kernel) ⟨_, rfl, rfl, _, rfl, iteD0 (by decide +kernel) ⟨_, rfl, q⟩⟩⟩⟩
    | last => exact ⟨rfl, _, rfl, iteD0 (by decide +kernel) ⟨_, rfl, rfl, _, rfl, iteD0 (by decide +kernel) ⟨_, rfl, rfl, _, rfl, iteD0 (by decide +kernel) ⟨_, rfl, q⟩⟩⟩⟩
    | less => exact ⟨rfl, _, rfl, iteD0 (by decide +kernel) ⟨_, rfl, rfl, _, rfl, iteD1 rfl q⟩⟩
    | greater => exact ⟨rfl, _, rfl, iteD0 (by decide +kernel) ⟨_, rfl, rfl, _, rfl, iteD0 (by decide +kernel) ⟨_, rfl, rfl, _, rfl, iteD1 rfl q⟩⟩⟩
end
end SC
set_option maxRecDepth 100000
set_option maxHeartbeats 2000000
/-! # _law_some_tick -/
namespace SC
open PySem PySem.Spec PyProof.Rows L2 TL
def spTick (K : PySem.W.Frag) : Sp := fun vs H Q _ => ∃ (M : List Addr) (dd : Addr), vs = [.ref dd] ∧ Gd K M H ∧ Src dd H ∧ dd ∈ M ∧ ∀ (t : Nat) (H' : Hp), t ≤ 1000000000000000000 → Fr1 dd H H' → Gd K M H' → Src dd H' → Q (.int (t : Nat)) H'
theorem dw_srcT {dd : Addr} {M : List Addr} (h : dd ∈ M) : Dw (Src dd) dd M := ⟨fun j s => j.same s, fun j => j, fun _ _ j' => j', h⟩
section
variable {P : Program} {w : World} {K : PySem.W.Frag} {mg : Str → Option Value} {base : Heap} {M : List Addr} {σ : L2.St} {H : Hp}
def nmTk : List Str := ["_law_d"]
theorem sc_Tk : FnScope nmTk ["_law_d"] (defScope s__law_some_tick) := ⟨rfl, rfl, rfl, by decide +kernel, rfl, by decide +kernel, by decide +kernel⟩
theorem ok_tick {f : Addr} {fd : FuncData} (F : Fun K "_law_some_tick" "_law_some_tick" s__law_some_tick f fd) (GB : Fu P w K mg base CX0 1 "_law_below" ["_law_d", "_law_limit"] spBelow) : FnOk P w K mg base CX0 2 f fd ["_law_d"] (spTick K) := by
  refine F.ok sc_Tk (fun vs H Q E h => ?_) (fun cdv A outer s0 H vs Q E hr h => ?_)
  · obtain ⟨M, dd, rfl, _⟩ := h
    rfl
  · obtain ⟨M, dd, rfl, g, sr, hm, q⟩ := h
    have w0 : Dw (Src dd) dd M := dw_srcT hm
    refine ⟨_, wpS_ok, ?_⟩
    have E0' : Env K M (L2.start nmTk [.ref dd]) H [.val (.ref dd)] := env_start
    have S : Sn K M (Src dd) (L2.start nmTk [.ref dd]) H [.val (.ref dd)] := ⟨E0', g, sr⟩
    generalize L2.start nmTk [.ref dd] = σ0 at S ⊢
    clear E0'
    refine wp_one (ps_ret (pe_ix (r := rIxL K) ix_list (pe_lst (pa_cons (pe_fu GB hr (by decide) (by rfl) pass0 (pa_cons (pv 0) (pa_cons pe_int pa_nil))) (pa_cons (pe_op op_sub (pe_op op_pow pe_int pe_int) (pe_fu GB hr (by decide) (by rfl) pass0 (pa_cons (pv 0) (pa_cons (pe_op op_pow pe_int pe_int) pa_nil)))) pa_nil))) (pe_fu GB hr (by decide) (by rfl) pass0 (pa_cons (pv 0) (pa_cons pe_int pa_nil))) (fun _ _ => rfl))) (go_op (go_lst (go_cons ?_)))
    refine dr_belowF w0 S rfl rd_int (by decide) (by decide) fun n1 H1 h1 f1 S => go_cons (go_op ?_)
    refine (rd_pow (i := 10) (j := 18) ⟨by decide, by decide, by decide⟩ rd_int rd_int) _ (Same.refl _) S.g _ fun v2 H2 s2 g2 r2 => ?_
    cases r2
    refine dr_belowF w0 (S.same w0 s2) rfl (rd_pow (i := 10) (j := 6) ⟨by decide, by decide, by decide⟩ rd_int rd_int) (by decide) (by decide) fun n3 H3 h3 f3 S => ?_
    have h3 : (n3 : Int) < 1000000 := h3
    refine ⟨_, _, rfl, rfl, ⟨by show 2 ≤ sizeLine; decide, fun p hp => ?_⟩⟩
    have e18 : (10 : Int) ^ (18 : Int).toNat - (n3 : Nat) = ((1000000000000000000 - n3 : Nat) : Int) := by
      have z : (10 : Int) ^ (18 : Int).toNat = 1000000000000000000 := by decide
      rw [z]
      omega
    have s4 : Same H3 (upd H3 p (.lst [.int (n1 : Nat), .int ((10 : Int) ^ (18 : Int).toNat - (n3 : Nat))])) := same_new hp
    have S4 := S.same w0 s4
    have r4 : Rp K (wo M (upd H3 p (.lst [.int (n1 : Nat), .int ((10 : Int) ^ (18 : Int).toNat - (n3 : Nat))]))) (.lst [.int (n1 : Nat), .int ((1000000000000000000 - n3 : Nat) : Int)]) (.ref p) := ⟨p, _, rfl, by rw [wo_at (S.g.out hp), upd_same], _, _, rfl, rfl, _, _, rfl, by rw [e18]; rfl, rfl⟩
    have f4 : Fr1 dd H (upd H3 p (.lst [.int (n1 : Nat), .int ((10 : Int) ^ (18 : Int).toNat - (n3 : Nat))])) := ((f1.trans (Fr1.of s2)).trans f3).trans (Fr1.of s4)
    generalize upd H3 p (.lst [.int (n1 : Nat), .int ((10 : Int) ^ (18 : Int).toNat - (n3 : Nat))]) = H4 at S4 r4 f4 ⊢
    refine dr_belowF w0 S4 rfl rd_int (by decide) (by decide) fun n5 H5 h5 f5 S5 => ?_
    have h5 : (n5 : Int) < 2 := h5
    obtain ⟨t, ht, hb⟩ : ∃ t : Nat, [D.int (n1 : Nat), D.int ((1000000000000000000 - n3 : Nat) : Int)][n5]? = some (.int (t : Nat)) ∧ t ≤ 1000000000000000000 := by
      have : n5 = 0 ∨ n5 = 1 := by omega
      rcases this with rfl | rfl
      · exact ⟨n1, rfl, by omega⟩
      · exact ⟨_, rfl, by omega⟩
    refine ix_pick (r4.fm (Fm.of1 w0.mem f5)) ht fun v rv => ?_
    cases rv
    exact q t H5 hb (f4.trans f5) S5.g S5.j
/-- t = _law_some_tick(d) -/
theorem dr_tick {J : Hp → Prop} {dd : Addr} {ρ : List Sl} {i : Nat} {Q : VK} (w0 : Dw J dd M) (S : Sn K M J σ H ρ) (hi : ρ[i]? = some (.val (.ref dd)))
    (k : ∀ (t : Nat) (H' : Hp), t ≤ 1000000000000000000 → Fr1 dd H H' → Sn K M J σ H' ρ → Q (.int (t : Nat)) H') : tCall (spTick K) [] E0 (tCons (tVar i) tNil) σ H Q :=
  ⟨_, S.e.val hi, M, dd, rfl, S.g, w0.src S.j, w0.mem, fun t H' hb f g sr => k t H' hb f ⟨S.e.fm (Fm.of1 w0.mem f), g, w0.fr S.j f sr⟩⟩
end
end SC
set_option maxRecDepth 100000
set_option maxHeartbeats 0
namespace SC
open PySem PySem.Spec PyProof.Rows L2 TL
def nmLaw : List Str := ["_law_script", "_law_d", "_law_labels_here", "_law_row_here", "_law_chain_here", "_law_other", "_law_found", "_law_back", "_law_short", "_law_opposite_here", "_law_tick", "_law_number", "_law_counts", "_law_held", "_law_numbers", "_law_out", "_law_turned", "_law_ways", "_law_came", "_law_old", "_law_value", "_law_many", "_law_way", "_law_label"]
theorem sc_law : FnScope nmLaw ["_law_script"] (defScope s_law) := ⟨rfl, rfl, rfl, by decide +kernel, rfl, by decide +kernel, by decide +kernel⟩
def spLaw (K : PySem.W.Frag) : Sp := fun vs H Q _ => ∃ (a : Addr) (ns : List Int), vs = [.ref a] ∧ SqL K H a (ns.map V.int) ∧ ns.length ≤ 63 ∧ H (He.cT K ("earlier", none)).2 = some (.tbl #[]) ∧ ∀ H', Q (.bl true) H'
abbrev TL1 (K : PySem.W.Frag) : List (Addr × Str) := [TEp K]
def wayN (w : Way) : Way := (-w.1, w.2.map ng)
theorem wayN_inj {a b : Way} (h : wayN a = wayN b) : a = b := by
  obtain ⟨c, o⟩ := a
  obtain ⟨c', o'⟩ := b
  injection h with h1 h2
  have h1 : -c = -c' := h1
  have h2 : o.map ng = o'.map ng := h2
  have z := congrArg (List.map ng) h2
  rw [neg_ng, neg_ng] at z
  rw [z, show c = c' from by omega]
theorem hsX_neg (xs : List Int) (m : Nat) : (hsX xs m).map ng = hsX (ngR xs) m := by
  unfold hsX nones
  rw [List.map_append, List.map_replicate, List.map_map, List.map_map]
  rfl
theorem fill_neg {hs : List (Option Int)} (f : Fill hs) : Fill (hs.map ng) := by
  obtain ⟨xs, m, rfl⟩ := f
  exact ⟨ngR xs, m, hsX_neg xs m⟩
theorem ways_negL {rs : List Rule} {xs : List Int} {m : Nat} {o : Option Int} (hl : rs.length = xs.length + m) (l1 : 1 ≤ rs.length) {w : Way} (h : w ∈ waysX rs xs m o) : wayN w ∈ waysX (rs.map Rule.neg) (ngR xs) m (ng o) := by
  obtain ⟨h1, h2, h3⟩ := (waysX_mem (c := w.1) (old := w.2) hl l1).mp h
  refine (waysX_mem (c := -w.1) (old := w.2.map ng) (by rw [List.length_map, List.length_map]; exact hl) (by rw [List.length_map]; exact l1)).mpr ⟨fill_neg h1, by rw [List.length_map, List.length_map]; exact h2, ?_⟩
  have z := step_neg rs w.2 (some w.1)
  rw [h3] at z
  have e : (xs.map some ++ nones m).map ng = (ngR xs).map some ++ nones m := hsX_neg xs m
  show stepR (rs.map Rule.neg) (w.2.map ng) (ng (some w.1)) = _
  rw [z, ← e]
theorem ways_neg {rs : List Rule} {xs : List Int} {m : Nat} {o : Option Int} (hl : rs.length = xs.length + m) (l1 : 1 ≤ rs.length) : ((waysX rs xs m o).map wayN).Perm (waysX (rs.map Rule.neg) (ngR xs) m (ng o)) := by
  refine (List.perm_ext_iff_of_nodup (nodup_mapB waysX_nodup fun a _ b _ e => wayN_inj e) waysX_nodup).mpr fun w => ⟨fun h => ?_, fun h => ?_⟩
  · obtain ⟨u, hu, rfl⟩ := List.mem_map.mp h
    exact ways_negL hl l1 hu
  · have z := ways_negL (rs := rs.map Rule.neg) (xs := ngR xs) (m := m) (o := ng o) (by rw [List.length_map, List.length_map]; exact hl) (by rw [List.length_map]; exact l1) h
    have e1 : (rs.map Rule.neg).map Rule.neg = rs := by
      rw [List.map_map]
      have : Rule.neg ∘ Rule.neg = id := funext Rule.neg_neg
      rw [this, List.map_id]
    have e2 : ngR (ngR xs) = xs := by
      show (xs.map _).map _ = xs
      rw [List.map_map]
      have : ((fun z : Int => -z) ∘ fun z : Int => -z) = id := funext fun z => Int.neg_neg z
      rw [this, List.map_id]
    rw [e1, e2, ng_ng] at z
    refine List.mem_map.mpr ⟨wayN w, z, ?_⟩
    show (- -w.1, (w.2.map ng).map ng) = w
    rw [neg_ng, Int.neg_neg]
theorem runK_neg (rs : List Rule) (row : List Int) : runDK (rs.map Rule.neg) (ngR row) = .tup [.lst (((runR rs (nones rs.length) row).1.map ng).map dO), .ktup (((runR rs (nones rs.length) row).2.map ng).map dO)] := by
  have z := run_neg rs row (nones rs.length)
  have e : (nones rs.length).map ng = nones (rs.map Rule.neg).length := by
    unfold nones
    rw [List.map_replicate, List.length_map]
    rfl
  rw [e] at z
  unfold runDK
  rw [z]
theorem held_mem {rs : List Rule} {row : List Int} (h : row ≠ []) {t : Nat} {y : Int} (e : some y ∈ heldF rs row t) : y ∈ row := by
  have rf := run_F (rs := rs) h t
  have p := run_perm rs (inL row t) (nones rs.length)
  rw [rf, fl_nones, List.append_nil] at p
  exact inL_mem h (p.mem_iff.mp (List.mem_append_right _ (List.mem_filterMap.mpr ⟨some y, e, rfl⟩)))
theorem sortW_perm (ws : List Way) : (sortW ws).Perm ws := List.mergeSort_perm _ _
theorem ok_ways {ws : List Way} : Ok 3 (.lst (ws.map wayD)) := .lst fun x h => by
  obtain ⟨w, _, rfl⟩ := List.mem_map.mp h
  exact ok_way w
theorem ok_two {i j : Int} : Ok 1 (.tup [.int i, .int j]) := .tup fun y hy => by
  rcases List.mem_cons.mp hy with rfl | hy
  · exact .int
  · rw [List.mem_singleton.mp hy]
    exact .int
section
variable {P : Program} {w : World} {K : PySem.W.Frag} {mg : Str → Option Value} {base : Heap} {M : List Addr} {σ : L2.St} {H : Hp}
theorem rd_opp {u : TA} {r : Rule} (ok : r.ok) (h : RdA K M u σ H [.str r.label]) : Rd K M (tCall spOpp [] E0 u) σ H (.str r.neg.label) := fun H1 s1 g Q k => h H1 s1 g _ fun xs H2 s2 g2 rx => by
  obtain ⟨v, rfl, rv⟩ := rp1 rx
  cases rv
  exact ⟨r, rfl, ok, k _ H2 s2 g2 rfl⟩
theorem rd_ninD {l : List D} {x : D} {n : Nat} {ta tb : TE} (o : Ok n x) (hn : n ≤ 60) (ol : ∀ y ∈ l, Ok n y) (ha : Rd K M ta σ H x) (hb : Rd K M tb σ H (.lst l)) : Rd K M (tOp (rInD K not) ta tb) σ H (.bl (!(l.any fun z => eqD z x))) :=
  rd_op ha hb fun u y H1 Q g hx hy k => by
    obtain ⟨a, vs, rfl, e1, r1⟩ := hy
    exact use_inD hx o hn (wo_le _ _ e1) r1 ol (k _ H1 (Same.refl _) g rfl)
/-- None if x is None else 0 - x -/
theorem rd_ngE {i : Nat} {o : Option Int} {ρ : List Sl} (E : Env K M σ H ρ) (h : ρ[i]? = some (.dat (dO o))) : Rd K M (tIf (tTest (tOp (fun x y H Q => y = .non ∧ Q (.bl (decide (x = .non))) H) (tVar i) (tC .non))) (tC .non) (tOp (rI0 fun i j => .int (i - j)) (tC (.int 0)) (tVar i))) σ H (dO (ng o)) := by
  have c := rdt_test (rd_isN (E.rd h) rd_non)
  cases o with
  | none => exact rd_if (da := .non) (db := .non) (b := true) c (fun _ => rd_non) (fun z => by cases z)
  | some z => exact rd_if (da := .non) (db := .non) (b := false) c (fun z => by cases z) (fun _ => (rd_sub rd_int (E.rd h)).cast (by show D.int (0 - z) = D.int (-z); congr 1; omega))
theorem sn_ear {T : List (Addr × Str)} {d : Addr} {X : Cx} {st : Stmt} {b : List Stmt} {u : TA} {i : Nat} {De : Ends} {ρ : List Sl} {rs : List Rule} {xs : List Int} {m : Nat} {o : Option Int} (hps : PS X st (tAsg (tCall (spEar K T) [] E0 u) (gName i))) (S : Sn K [d] (JS d T) σ H ρ)
    (h : RdA K [d] u σ H [.chain rs, .ktup ((hsX xs m).map dO), dO o]) (hl : rs.length = xs.length + m) (l1 : 1 ≤ rs.length) (l8 : rs.length ≤ 8) (hn : ∀ z ∈ xs, numOk z) (k : ∀ σ' H', Sn K [d] (JS d T) σ' H' (ρ.set i (.dat (.lst ((sortW (waysX rs xs m o)).map wayD)))) → wpS X b De σ' H') : wpS X (st :: b) De σ H :=
  wp_cons hps (h H (Same.refl _) S.g _ fun vs H1 s1 g1 r1 => by
    obtain ⟨ds, hD, hd⟩ := S.j.1
    refine ⟨[d], rs, xs, m, o, g1, by rw [List.append_nil]; exact r1, hl, l1, l8, hn, S.j.2.ext s1, (fun m hm ps z => by
      rw [List.mem_singleton.mp hm, s1 _ _ hd] at z
      cases z), fun v H' e' T' g' r' => k _ H' ⟨((S.e.same s1).ext e').set r', g', Src.ext (d := d) (H := H1) ⟨ds, hD, s1 _ _ hd⟩ e', T'⟩⟩)
theorem go_forE {sp : Sp} {u : TA} {gt : TG} {tb : TS} {De : Ends} (h : u σ H fun vs H1 => sp (vs ++ []) H1 (fun x H2 => ∃ a, x = .ref a ∧ (∃ xs, SqL K H2 a xs) ∧ (∃ W : Nat → Nat → L2.St → Hp → Prop, (∃ m, W 0 m σ H2) ∧ ∀ i m σ H, W i m σ H → ((Itl K a).stop i H ∧ De.nx σ H) ∨ ((Itl K a).go i H ∧ ∃ N : L2.St → Hp → Prop, (∀ σ' H', N σ' H' → ∃ m', m' < m ∧ W (i + 1) m' σ' H') ∧ ∀ x H', (Itl K a).yld i H x H' → gt x σ H' fun σ2 H2 => tb { De with nx := N, ct := N, bk := De.nx } σ2 H2))) E0) : tFor (iList K (tCall sp [] E0 u)) gt tb De σ H := h
theorem ok_law {f : Addr} {fd : FuncData} (F : Fun K "law" "law" s_law f fd) (B : Bln mg) (C : ChainOk P w K mg base 10) (CK : FnR P w K mg base CX0 10 (He.ma K (ChC K) "__call__") (spChCallK K))
    (GR : Fu P w K mg base CX0 1 "_law_random" ["_law_script", "_law_salt"] (spRandom K)) (GB : Fu P w K mg base CX0 1 "_law_below" ["_law_d", "_law_limit"] spBelow) (GL : Fu P w K mg base CX0 2 "_law_labels" ["_law_d", "_law_most"] spLabels) (GRw : Fu P w K mg base CX0 2 "_law_row" ["_law_d", "_law_most"] spRow)
    (GC : Fu P w K mg base CX0 11 "_law_chain" ["_law_labels_here"] (spChainOf K)) (GO : Fu P w K mg base CX0 1 "_law_opposite" ["_law_label"] spOpp) (GTk : Fu P w K mg base CX0 2 "_law_some_tick" ["_law_d"] (spTick K))
    (GCy : Fu P w K mg base CX0 13 "find_cycle" ["chain", "row"] (spP K RCyc)) (GCn : Fu P w K mg base CX0 13 "count_out" ["chain", "row", "ticks"] (spP K RCnt)) (GN : Fu P w K mg base CX0 13 "nth_out" ["chain", "row", "number"] (spP K RNth)) (GH : Fu P w K mg base CX0 13 "held_after" ["chain", "row", "ticks"] (spP K RHeld))
    (GE : Fu P w K mg base CX0 13 "earlier" ["chain", "held", "out"] (spEar K (TL1 K))) : FnOk P w K mg base CX0 20 f fd ["_law_script"] (spLaw K) := by
  have CL : StX.CallO K (ChC K) (He.ma K (ChC K) "__call__") := ⟨C.t.call.at_, C.t.call.fn, C.t.call.fi⟩
  obtain ⟨fdT, psT, TX, bT⟩ := C.text
  refine F.ok sc_law (fun vs H Q E h => ?_) (fun cdv A outer s H vs Q E hr h => ?_)
  · obtain ⟨a, ns, rfl, _⟩ := h
    rfl
  · obtain ⟨a, ns0, rfl, hS, hl, hT0, q0⟩ := h
    have zz := line_big
    have r10 := hr.mono (by decide : 10 ≤ 19)
    have r11 := hr.mono (by decide : 11 ≤ 19)
    refine ⟨_, wpS_ok, ?_⟩
    refine wp_cons (ps_set (i := 1) sc_law.nd rfl (by first | exact .inl rfl | exact .inr rfl) (pe_fu GR hr (by decide) (by rfl) pass0 (pa_cons (pv 0) (pa_cons pe_int pa_nil)))) ?_
    refine ⟨_, rfl, a, ns0, 32, rfl, hS, hl, by decide, by decide, fun d H1 ds0 hd0 s1 hD hd => ?_⟩
    have T1 : LamX.Tabs (TL1 K) H1 := fun p hp => by
      rw [List.mem_singleton.mp hp]
      exact LamX.TabS.nil (s1 _ _ hT0)
    have wA : DwA (JS d (TL1 K)) d [d] := dwa_js
    have w0 := wA.toDw
    have E00 : Env K [d] (L2.start nmLaw [.ref a]) H1 [.val (.ref a), .any, .any, .any, .any, .any, .any, .any, .any, .any, .any, .any, .any, .any, .any, .any, .any, .any, .any, .any, .any, .any, .any, .any] := env_start
    have S : Sn K [d] (JS d (TL1 K)) ((L2.start nmLaw [.ref a]).set 1 (some (.ref d))) H1 _ := ⟨E00.setv (i := 1) (v := .ref d), Gd.nil.lst hd, ⟨ds0, hD, hd⟩, T1⟩
    dsimp only [List.set] at S
    show wpS _ _ _ ((L2.start nmLaw [.ref a]).set 1 (some (.ref d))) H1
    generalize (L2.start nmLaw [V.ref a]).set 1 (some (V.ref d)) = σ0 at S ⊢
    clear E00 T1 hT0
    /- labels, row -/
    refine wp_cons (ps_par (i := 2) (j := 3) (by rfl) sc_law.nd rfl rfl (by decide) rfl rfl (pa_cons (pe_fu GL hr (by decide) (by rfl) pass0 (pa_cons (pv 1) (pa_cons pe_int pa_nil))) (pa_cons (pe_op op_cat (pe_fu GRw hr (by decide) (by rfl) pass0 (pa_cons (pv 1) (pa_cons pe_int pa_nil))) (pe_lst (pa_cons pe_int pa_nil))) pa_nil)) (by rfl)) (go_cons ?_)
    refine dr_labels w0 S rfl (by decide) (by decide) fun rs vl H2 l1 l6 ok1 f2 S rl => ?_
    have l8 : rs.length ≤ 8 := by omega
    refine go_cons (go_op ?_)
    refine dr_row w0 S rfl (by decide) (by decide) (fun Q k => k H2 Fm.refl S) fun nr vr H3 lnr onr f3 S3 rr => ?_
    have key := rd_cat (K := K) (M := [d]) (σ := σ0) (H := H3) (ta := tC vr) (l := nr.map D.int) (m := [D.int 3]) (by rw [List.length_map]; show nr.length + 1 ≤ _; omega) (rd_cval rr) (rd_lstA (rda_one (rd_int (i := 3))))
    refine key H3 (Same.refl _) S3.g _ fun v4 H4 s4 g4 r4 => ⟨_, _, rfl, ?_⟩
    obtain ⟨row, erow⟩ : ∃ row, nr ++ [3] = row := ⟨_, rfl⟩
    have er : D.lst (nr.map D.int ++ [D.int 3]) = .lst (row.map D.int) := by rw [← erow, List.map_append]; rfl
    rw [er] at r4
    have hrow : row ≠ [] := by rw [← erow]; simp
    have lrow : row.length ≤ 31 := by rw [← erow, List.length_append]; show nr.length + 1 ≤ 31; omega
    have orow : ∀ z ∈ row, numOk z := fun z hz => by
      rw [← erow] at hz
      rcases List.mem_append.mp hz with hz | hz
      · exact onr z hz
      · rw [List.mem_singleton.mp hz]; exact ⟨by decide, by decide⟩
    have S5 : Sn K [d] (JS d (TL1 K)) ((σ0.set 2 (some vl)).set 3 (some v4)) H4 _ := ⟨((S3.same w0 s4).e.set (i := 2) (Rp.same (swo s4) _ (rl.fm f3))).set (i := 3) r4, g4, (S3.same w0 s4).j⟩
    dsimp only [List.set] at S5
    show wpS _ _ _ ((σ0.set 2 (some vl)).set 3 (some v4)) H4
    generalize (σ0.set 2 (some vl)).set 3 (some v4) = σ1 at S5 ⊢
    have S := S5
    clear S5 key rl rr r4 S3 f3 f2
    obtain ⟨rn, ern⟩ : ∃ rn, rs.map Rule.neg = rn := ⟨_, rfl⟩
    /- chains -/
    refine sn_par (ps_par (i := 4) (j := 5) (by rfl) sc_law.nd rfl rfl (by decide) rfl rfl (pa_cons (pe_fu GC hr (by decide) (by rfl) pass0 (pa_cons (pv 2) pa_nil)) (pa_cons (pe_un (r := rChNeg K) (un_chneg C r10) (pe_fu GC hr (by decide) (by rfl) pass0 (pa_cons (pv 2) pa_nil))) pa_nil)) (by rfl)) S w0 (rda_cons (rd_chainOf ok1 l1 l8 (rda_one (S.rd (i := 2) rfl))) (rda_one (rd_chneg (rd_chainOf ok1 l1 l8 (rda_one (S.rd (i := 2) rfl)))))) fun σ2 H5 s5 S => ?_
    dsimp only [List.set] at S
    have negR : ∀ {σ' : L2.St} {H' : Hp} {ρ : List Sl} {x : Nat} {ns : List Int}, ns.length ≤ 1000 → Sn K [d] (JS d (TL1 K)) σ' H' ρ → ρ[x]? = some (.dat (.lst (ns.map D.int))) → 11 < ρ.length → Rd K [d] (tLc (iList K (tVar x)) (gName 11) tYes (tOp (rI0 fun i j => .int (i - j)) (tC (.int 0)) (tVar 11)) [11]) σ' H' (.lst ((ngR ns).map D.int)) := fun {σ' H' ρ x ns} hn S hx hl => by
      have hi : 11 < σ'.length := by rw [S.e.1]; exact hl
      refine (rd_mapL (i := 11) ns D.int (fun z => D.int (-z)) (by omega) (S.rd hx) fun z hz H1 s1 M' H' v s' sw g' rv => ?_).cast (by rw [List.map_map]; rfl)
      exact (rd_sub rd_int (rd_own hi rv)).cast (by show D.int (0 - z) = _; congr 1; omega)
    refine sn_tup2 (ps_asg (pe_tup (pa_cons (pe_callC (pv 4) CL CK r10 pass0 (pa_cons (pv 3) pa_nil)) (pa_cons (pe_callC (pv 5) CL CK r10 pass0 (pa_cons (pe_lc (own := [("_law_number", 11)]) (g := gName 11) (by rfl) sc_law.nd (pi_listK (K := K) rfl (pv 3)) (blkOk_by (own := [("_law_number", 11)]) (N := nmLaw) (sc := defScope s_law) (by decide +kernel)) (fun _ _ _ _ _ => pg_name (i := 11) sc_law.nd rfl (.inl rfl)) (fun _ _ _ _ _ => pts_nil) (fun _ _ _ _ _ => (pe_op op_sub pe_int (pv 11)))) pa_nil)) pa_nil))) (pg_tup rfl (pgs_cons (pg_name (i := 6) sc_law.nd rfl (by first | exact .inl rfl | exact .inr rfl)) (pgs_cons (pg_name (i := 7) sc_law.nd rfl (by first | exact .inl rfl | exact .inr rfl)) pgs_nil)))) (x := runDK rs row) (y := runDK (rs.map Rule.neg) (ngR row)) S w0 (rd_tupA (rda_cons (rd_chcallK (by omega) orow (S.rd (i := 4) rfl) (rda_one (S.rd (i := 3) rfl))) (rda_one (rd_chcallK (by rw [List.length_map]; omega) (fun z hz => by
      obtain ⟨y, hy, rfl⟩ := List.mem_map.mp hz
      have := orow y hy
      obtain ⟨a1, a2⟩ := this
      constructor <;> omega) (S.rd (i := 5) rfl) (rda_one (negR (by omega) S (x := 3) rfl (by show 11 < 24; decide))))))) fun σ3 H6 s6 S => ?_
    dsimp only [List.set] at S
    rw [runK_neg] at S
    have lO : (runR rs (nones rs.length) row).1.length < sizeLine := by rw [(run_len _ _ _).1]; omega
    have lH : (runR rs (nones rs.length) row).2.length < sizeLine := by rw [(run_len _ _ _).2, nones_len]; omega
    unfold runDK at S
    generalize (runR rs (nones rs.length) row).1 = O at S lO
    generalize (runR rs (nones rs.length) row).2 = Hh at S lH
    refine sn_if0 (ps_if (pt_cmpR (r := rNeD K) (op_neD hr.units) (pe_lc (own := [("_law_out", 15)]) (g := gName 15) (by rfl) sc_law.nd (pi_listK (K := K) rfl (pe_ix (r := rIxT K) ix_tup (pv 6) pe_int (fun _ _ => rfl))) (blkOk_by (own := [("_law_out", 15)]) (N := nmLaw) (sc := defScope s_law) (by decide +kernel)) (fun _ _ _ _ _ => pg_name (i := 15) sc_law.nd rfl (.inl rfl)) (fun _ _ _ _ _ => pts_nil) (fun _ _ _ _ _ => (pe_ifExp (pt_cmpR op_isN (pv 15) pe_non (nomark _)) pe_non (pe_op op_sub pe_int (pv 15))))) (pe_ix (r := rIxT K) ix_tup (pv 7) pe_int (fun _ _ => rfl)) (nomark _)) pss_never pss_nil) S w0 (rdt_ne0 (n := 1) (da := .lst ((O.map ng).map dO)) (db := .lst ((O.map ng).map dO)) rfl ok_opts (by decide) ((rd_mapL (i := 15) O dO (fun o => dO (ng o)) lO (rd_t0 (S.rd (i := 6) rfl) rd_int) fun o ho H1 s1 M' H' v s' sw g' rv => rd_ngE ((((S.e.same s1).le sw).wipe (i := 15)).set (i := 15) rv) rfl).cast (by rw [List.map_map]; rfl)) (rd_t0 (S.rd (i := 7) rfl) rd_int)) fun H7 s7 S => ?_
    refine sn_if0 (ps_if (pt_cmpR (r := rNeD K) (op_neD hr.units) (pe_callTy (r := rTupK K) cr_tupleK (by rfl) B.tuple boot_tuple' (pa_cons (pe_lc (own := [("_law_number", 11)]) (g := gName 11) (by rfl) sc_law.nd (pi_tupK (K := K) rfl (pe_ix (r := rIxT K) ix_tup (pv 6) pe_int (fun _ _ => rfl))) (blkOk_by (own := [("_law_number", 11)]) (N := nmLaw) (sc := defScope s_law) (by decide +kernel)) (fun _ _ _ _ _ => pg_name (i := 11) sc_law.nd rfl (.inl rfl)) (fun _ _ _ _ _ => pts_nil) (fun _ _ _ _ _ => (pe_ifExp (pt_cmpR op_isN (pv 11) pe_non (nomark _)) pe_non (pe_op op_sub pe_int (pv 11))))) pa_nil)) (pe_ix (r := rIxT K) ix_tup (pv 7) pe_int (fun _ _ => rfl)) (nomark _)) pss_never pss_nil) S w0 (rdt_ne0 (n := 1) (da := .ktup ((Hh.map ng).map dO)) (db := .ktup ((Hh.map ng).map dO)) rfl ok_optsK (by decide) ((rd_tupleK (rda_one (rd_mapK (i := 11) Hh dO (fun o => dO (ng o)) lH (rd_t1 (S.rd (i := 6) rfl) rd_int) fun o ho H1 s1 M' H' v s' sw g' rv => rd_ngE ((((S.e.same s1).le sw).wipe (i := 11)).set (i := 11) rv) rfl))).cast (by rw [List.map_map]; rfl)) (rd_t1 (S.rd (i := 7) rfl) rd_int)) fun H8 s8 S => ?_
    have eL : D.lst (lbD rs) = .lst (rs.map fun r : Rule => D.str r.label) := by
      unfold lbD
      rw [List.map_map]
      rfl
    have okn : ∀ r ∈ rs.map Rule.neg, r.ok := fun r hr => by
      obtain ⟨z, hz, rfl⟩ := List.mem_map.mp hr
      exact Rule.neg_ok (ok1 z hz)
    have e1 : (rs.map Rule.neg).map Rule.neg = rs := by
      rw [List.map_map]
      have : Rule.neg ∘ Rule.neg = id := funext Rule.neg_neg
      rw [this, List.map_id]
    have hi23 : 23 < σ3.length := by rw [S.e.1]; show _ < 24; decide
    refine sn_if0 (ps_if (PW.pt (pw_or (pt_cmpR op_ne (pe_prop (pv 5) C.t.cls C.t.text TX r11 bT .nil pass0 rfl) (pe_bm (r := rJn K) PySem.F.plainAttrs_str PySem.F.slot_str_join PySem.F.type_str_join mt_join pe_str (pa_cons (pe_lc (own := [("_law_label", 23)]) (g := gName 23) (by rfl) sc_law.nd (pi_listK (K := K) rfl (pv 2)) (blkOk_by (own := [("_law_label", 23)]) (N := nmLaw) (sc := defScope s_law) (by decide +kernel)) (fun _ _ _ _ _ => pg_name (i := 23) sc_law.nd rfl (.inl rfl)) (fun _ _ _ _ _ => pts_nil) (fun _ _ _ _ _ => (pe_fu GO hr (by decide) (by rfl) pass0 (pa_cons (pv 23) pa_nil)))) pa_nil)) (nomark _)) (pw_or1 (pt_cmpR (r := rChNe K) (op_chne C r11) (pe_un (r := rChNeg K) (un_chneg C r10) (pv 5)) (pv 4) (nomark _))))) pss_never pss_nil) S w0 (rdt_nor (rdt_test ((rd_neS (rd_chtext (S.rd (i := 5) rfl)) (rd_joinL (rs := rs.map Rule.neg) (by rw [List.length_map]; omega) (labels_sum okn) rd_str (rda_one ((rd_mapL (i := 23) rs (fun r : Rule => D.str r.label) (fun r : Rule => D.str r.neg.label) (by omega) ((S.rd (i := 2) rfl).cast eL) (fun r hr H1 s1 M' H' v s' sw g' rv => rd_opp (ok1 r hr) (rda_one (rd_own hi23 rv)))).cast (d' := .lst (lbD (rs.map Rule.neg))) (by unfold lbD; rw [List.map_map, List.map_map]; rfl))))).cast (d' := .bl false) (by simp))) (rdt_test ((rd_chne (rd_chneg (S.rd (i := 5) rfl)) (S.rd (i := 4) rfl)).cast (d' := .bl false) (by rw [e1]; simp)))) fun H9 s9 S => ?_
    /- short -/
    refine sn_set (ps_set (i := 8) sc_law.nd rfl (by first | exact .inl rfl | exact .inr rfl) (pe_slice (r := rSlL K) sl_list (pv 3) po_none (po_some pe_int))) S w0 (rd_takeM (n := 12) (S.rd (i := 3) rfl) rd_int) fun σ4 H10 s10 S => ?_
    dsimp only [List.set] at S
    obtain ⟨sh, esh⟩ : ∃ sh, row.take 12 = sh := ⟨_, rfl⟩
    rw [esh] at S
    have hsh : sh ≠ [] := by
      rw [← esh]
      intro z
      rcases List.take_eq_nil_iff.mp z with z | z
      · cases z
      · exact hrow z
    have lsh : sh.length ≤ 12 := by rw [← esh, List.length_take]; omega
    have osh : ∀ z ∈ sh, numOk z := fun z hz => by rw [← esh] at hz; exact orow z (List.mem_of_mem_take hz)
    have nsh : ngR sh ≠ [] := fun z => hsh (List.map_eq_nil_iff.mp z)
    have onsh : ∀ z ∈ ngR sh, numOk z := fun z hz => by
      obtain ⟨y, hy, rfl⟩ := List.mem_map.mp hz
      obtain ⟨a1, a2⟩ := osh y hy
      constructor <;> omega
    have fo : FlowOk rs sh := ⟨hsh, lsh, osh, l1, l8⟩
    have fn : FlowOk (rs.map Rule.neg) (ngR sh) := ⟨nsh, by rw [List.length_map]; exact lsh, onsh, by rw [List.length_map]; exact l1, by rw [List.length_map]; exact l8⟩
    /- opposite row, tick -/
    refine wp_cons (ps_par (i := 9) (j := 10) (by rfl) sc_law.nd rfl rfl (by decide) rfl rfl (pa_cons (pe_lc (own := [("_law_number", 11)]) (g := gName 11) (by rfl) sc_law.nd (pi_listK (K := K) rfl (pv 8)) (blkOk_by (own := [("_law_number", 11)]) (N := nmLaw) (sc := defScope s_law) (by decide +kernel)) (fun _ _ _ _ _ => pg_name (i := 11) sc_law.nd rfl (.inl rfl)) (fun _ _ _ _ _ => pts_nil) (fun _ _ _ _ _ => (pe_op op_sub pe_int (pv 11)))) (pa_cons (pe_fu GTk hr (by decide) (by rfl) pass0 (pa_cons (pv 1) pa_nil)) pa_nil)) (by rfl)) (go_cons ?_)
    refine (negR (by omega) S (x := 8) rfl (by show 11 < 24; decide)) H10 (Same.refl _) S.g _ fun v9 H11 s11 g11 r9 => go_cons ?_
    refine dr_tick w0 (S.same w0 s11) rfl fun T H12 hT f12 S => ⟨_, _, rfl, ?_⟩
    have S9 : Sn K [d] (JS d (TL1 K)) ((σ4.set 9 (some v9)).set 10 (some (.int (T : Nat)))) H12 _ := ⟨(S.e.set (i := 9) (r9.fm (Fm.of1 w0.mem f12))).set (i := 10) (d := .int (T : Nat)) rfl, S.g, S.j⟩
    dsimp only [List.set] at S9
    show wpS _ _ _ ((σ4.set 9 (some v9)).set 10 (some (.int (T : Nat)))) H12
    generalize (σ4.set 9 (some v9)).set 10 (some (V.int (T : Nat))) = σ5 at S9 ⊢
    have S := S9
    clear S9 r9
    obtain ⟨sa, ea, ca, ba⟩ := cyc_there (rs := rs) hsh
    refine sn_if0 (ps_if (pt_cmpR (r := rNeD K) (op_neD hr.units) (pe_fu GCy hr (by decide) (by rfl) pass0 (pa_cons (pv 4) (pa_cons (pv 8) pa_nil))) (pe_fu GCy hr (by decide) (by rfl) pass0 (pa_cons (pv 5) (pa_cons (pv 9) pa_nil))) (nomark _)) pss_never pss_nil) S w0 (rdt_ne0 (n := 1) (da := .tup [.int (sa : Nat), .int ((ea - sa : Nat) : Int)]) (db := .tup [.int (sa : Nat), .int ((ea - sa : Nat) : Int)]) rfl ok_two (by decide) (rd_P (R := RCyc) ⟨rs, sh, sa, ea, rfl, fo, ca, rfl⟩ (rda_cons (S.rd (i := 4) rfl) (rda_one (S.rd (i := 8) rfl)))) (rd_P (R := RCyc) ⟨rs.map Rule.neg, ngR sh, sa, ea, rfl, fn, ca.neg hsh, rfl⟩ (rda_cons (S.rd (i := 5) rfl) (rda_one (S.rd (i := 9) rfl))))) fun H13 s13 S => ?_
    /- number -/
    refine wp_cons (ps_set (i := 11) sc_law.nd rfl (by first | exact .inl rfl | exact .inr rfl) (pe_op op_add pe_int (pe_fu GTk hr (by decide) (by rfl) pass0 (pa_cons (pv 1) pa_nil)))) (go_asg (go_op ?_))
    show tCall (spTick K) [] E0 (tCons (tVar 1) tNil) _ _ _
    refine dr_tick w0 S rfl fun T2 H14 hT2 f14 S => ⟨_, _, rfl, rfl, ?_⟩
    refine sn_put S (d := .int ((1 + T2 : Nat) : Int)) (show V.int _ = V.int _ from congrArg V.int (by omega)) fun σ6 S => ?_
    dsimp only [List.set] at S
    show wpS _ _ _ σ6 H14
    obtain ⟨N, eN, N1, N2⟩ : ∃ N : Nat, min ((1 + T2 : Nat) : Int) 1000000000000000000 = (N : Nat) ∧ 1 ≤ N ∧ N ≤ 1000000000000000000 := ⟨min (1 + T2) 1000000000000000000, by omega, by omega, by omega⟩
    have rN : Rd K [d] _ σ6 H14 (.int (N : Nat)) := (rd_minP (rda_cons (S.rd (i := 11) rfl) (rda_one (rd_pow (i := 10) (j := 18) ⟨by decide, by decide, by decide⟩ rd_int rd_int)))).cast (by
      have e : (10 : Int) ^ (18 : Int).toNat = 1000000000000000000 := by decide
      rw [e, eN])
    obtain ⟨y, hy⟩ := out_some (rs := rs) hsh (t := rs.length + N - 1) (by omega)
    have hy2 : outF (rs.map Rule.neg) (ngR sh) ((rs.map Rule.neg).length + N - 1) = some (-y) := by
      rw [List.length_map, (flow_neg hsh _).2, hy]
      rfl
    refine sn_if0 (ps_if (pt_cmpR op_ne (pe_fu GN hr (by decide) (by rfl) pass0 (pa_cons (pv 4) (pa_cons (pv 8) (pa_cons (pe_callB (call_min2 rfl) (by rfl) B.min boot_min' (pa_cons (pv 11) (pa_cons (pe_op op_pow pe_int pe_int) pa_nil))) pa_nil)))) (pe_op op_sub pe_int (pe_fu GN hr (by decide) (by rfl) pass0 (pa_cons (pv 5) (pa_cons (pv 9) (pa_cons (pe_callB (call_min2 rfl) (by rfl) B.min boot_min' (pa_cons (pv 11) (pa_cons (pe_op op_pow pe_int pe_int) pa_nil))) pa_nil))))) (nomark _)) pss_never pss_nil) S w0 (rdt_test ((rd_neI (j := y) ((rd_P (R := RNth) ⟨rs, sh, N, rfl, fo, N1, N2, rfl⟩ (rda_cons (S.rd (i := 4) rfl) (rda_cons (S.rd (i := 8) rfl) (rda_one rN)))).cast (d' := .int y) (by rw [hy]; rfl)) ((rd_sub rd_int ((rd_P (R := RNth) ⟨rs.map Rule.neg, ngR sh, N, rfl, fn, N1, N2, rfl⟩ (rda_cons (S.rd (i := 5) rfl) (rda_cons (S.rd (i := 9) rfl) (rda_one rN)))).cast (d' := .int (-y)) (by rw [hy2]; rfl))).cast (by show D.int (0 - -y) = _; congr 1; omega))).cast (d' := .bl false) (by simp))) fun H15 s15 S => ?_
    clear rN
    /- counts -/
    have lt : (tally (outsF rs sh T)).length < sizeLine := by
      have z := keysOf_le (os := outsF rs sh T) (row := sh) fun v hv => by
        unfold outsF at hv
        obtain ⟨t, _, e⟩ := List.mem_filterMap.mp hv
        exact out_mem hsh e
      rw [← tally_fst, List.length_map] at z
      omega
    refine sn_set (ps_setLc (i := 12) (own := [("_law_value", 20), ("_law_many", 21)]) (g := gTup K 2 (gCons (gName 20) (gCons (gName 21) gNil))) (by rfl) sc_law.nd rfl rfl (by rfl) (pi_items (pe_fu GCn hr (by decide) (by rfl) pass0 (pa_cons (pv 4) (pa_cons (pv 8) (pa_cons (pv 10) pa_nil))))) (blkOk_by (own := [("_law_value", 20), ("_law_many", 21)]) (N := nmLaw) (sc := defScope s_law) (by decide +kernel)) (fun _ _ _ _ _ => pg_tup rfl (pgs_cons (pg_name (i := 20) sc_law.nd rfl (by first | exact .inl rfl | exact .inr rfl)) (pgs_cons (pg_name (i := 21) sc_law.nd rfl (by first | exact .inl rfl | exact .inr rfl)) pgs_nil))) (fun _ _ _ _ _ => pts_nil) (fun _ _ _ _ _ => pe_tup (pa_cons (pe_op op_sub pe_int (pv 20)) (pa_cons (pv 21) pa_nil)))) (d := .lst ((tally (outsF rs sh T)).map fun p => itD (-p.1, p.2))) S w0 (rd_lcI (i := 20) (j := 21) (by decide) (tally (outsF rs sh T)) (fun p => itD (-p.1, p.2)) lt (rd_P (R := RCnt) ⟨rs, sh, T, rfl, fo, by omega, rfl⟩ (rda_cons (S.rd (i := 4) rfl) (rda_cons (S.rd (i := 8) rfl) (rda_one (S.rd (i := 10) rfl))))) fun p hp M' H' v u sw s' g' rv ru => ?_) fun σ7 H16 s16 S => ?_
    · have E' := ((S.e.le sw).wipe2 (i := 20) (j := 21) |>.set (i := 20) rv).set (i := 21) ru
      exact (rd_tupA (rda_cons ((rd_sub rd_int (E'.rd (i := 20) rfl)).cast (d' := .int (-p.1)) (by congr 1; omega)) (rda_one (E'.rd (i := 21) rfl)))).cast rfl
    dsimp only [List.set] at S
    refine sn_if0 (ps_if (pt_cmpR (r := rNeD K) (op_neD hr.units) (pe_revLK (K := K) rfl (pv 12)) (pe_itemsF rfl (pe_fu GCn hr (by decide) (by rfl) pass0 (pa_cons (pv 5) (pa_cons (pv 9) (pa_cons (pv 10) pa_nil)))) (by rfl) B.list boot_list') (nomark _)) pss_never pss_nil) S w0 (rdt_ne0 (n := 2) (da := .lst ((tally (outsF (rs.map Rule.neg) (ngR sh) T)).map itD)) (db := .lst ((tally (outsF (rs.map Rule.neg) (ngR sh) T)).map itD)) rfl ok_items (by decide) ((rd_revL (S.rd (i := 12) rfl)).cast (by
      rw [outs_neg hsh, ← tally_neg, ← List.map_reverse, ← List.map_reverse, List.map_map]
      rfl)) (rd_items (rd_P (R := RCnt) ⟨rs.map Rule.neg, ngR sh, T, rfl, fn, by omega, rfl⟩ (rda_cons (S.rd (i := 5) rfl) (rda_cons (S.rd (i := 9) rfl) (rda_one (S.rd (i := 10) rfl))))))) fun H17 s17 S => ?_
    /- held -/
    refine sn_set (ps_set (i := 13) sc_law.nd rfl (by first | exact .inl rfl | exact .inr rfl) (pe_fu GH hr (by decide) (by rfl) pass0 (pa_cons (pv 4) (pa_cons (pv 8) (pa_cons (pv 10) pa_nil))))) S w0 (rd_P (R := RHeld) ⟨rs, sh, T, rfl, fo, by omega, rfl⟩ (rda_cons (S.rd (i := 4) rfl) (rda_cons (S.rd (i := 8) rfl) (rda_one (S.rd (i := 10) rfl))))) fun σ8 H18 s18 S => ?_
    dsimp only [List.set] at S
    obtain ⟨xs, m, ehs⟩ : ∃ xs m, heldF rs sh T = hsX xs m := held_fill hsh T
    have hl2 : rs.length = xs.length + m := by rw [← hsX_len, ← ehs, held_len]
    have eh : hdD (heldF rs sh T) = .ktup ((hsX xs m).map dO) := by unfold hdD; rw [ehs]
    rw [eh] at S
    have ehn : hdD (heldF (rs.map Rule.neg) (ngR sh) T) = .ktup (((hsX xs m).map ng).map dO) := by unfold hdD; rw [(flow_neg hsh T).1, ehs]
    have lhx : (hsX xs m).length < sizeLine := by rw [hsX_len]; omega
    have negK : ∀ {σ' : L2.St} {H' : Hp} {ρ : List Sl} {x : Nat} {os : List (Option Int)} {M : List Addr}, os.length < sizeLine → En K M σ' H' ρ → ρ[x]? = some (.dat (.ktup (os.map dO))) → 20 < ρ.length → Rd K M (tCB (rTupK K) (tCons (tLc (iTup K (tVar x)) (gName 20) tYes (tIf (tTest (tOp (fun x y H Q => y = .non ∧ Q (.bl (decide (x = .non))) H) (tVar 20) (tC .non))) (tC .non) (tOp (rI0 fun i j => .int (i - j)) (tC (.int 0)) (tVar 20))) [20]) tNil)) σ' H' (.ktup ((os.map ng).map dO)) := fun {σ' H' ρ x os M} hn S hx hl => by
      refine (rd_tupleK (rda_one (rd_mapK (i := 20) os dO (fun o => dO (ng o)) hn (S.e.rd hx) fun o ho H1 s1 M' H' v s' sw g' rv => rd_ngE ((((S.e.same s1).le sw).wipe (i := 20)).set (i := 20) rv) ?_))).cast (by rw [List.map_map]; rfl)
      rw [List.getElem?_set_self (by rw [List.length_set]; exact hl)]
    refine sn_if0 (ps_if (pt_cmpR (r := rNeD K) (op_neD hr.units) (pe_fu GH hr (by decide) (by rfl) pass0 (pa_cons (pv 5) (pa_cons (pv 9) (pa_cons (pv 10) pa_nil)))) (pe_callTy (r := rTupK K) cr_tupleK (by rfl) B.tuple boot_tuple' (pa_cons (pe_lc (own := [("_law_value", 20)]) (g := gName 20) (by rfl) sc_law.nd (pi_tupK (K := K) rfl (pv 13)) (blkOk_by (own := [("_law_value", 20)]) (N := nmLaw) (sc := defScope s_law) (by decide +kernel)) (fun _ _ _ _ _ => pg_name (i := 20) sc_law.nd rfl (.inl rfl)) (fun _ _ _ _ _ => pts_nil) (fun _ _ _ _ _ => (pe_ifExp (pt_cmpR op_isN (pv 20) pe_non (nomark _)) pe_non (pe_op op_sub pe_int (pv 20))))) pa_nil)) (nomark _)) pss_never pss_nil) S w0 (rdt_ne0 (n := 1) (da := .ktup (((hsX xs m).map ng).map dO)) (db := .ktup (((hsX xs m).map ng).map dO)) rfl ok_optsK (by decide) ((rd_P (R := RHeld) ⟨rs.map Rule.neg, ngR sh, T, rfl, fn, by omega, rfl⟩ (rda_cons (S.rd (i := 5) rfl) (rda_cons (S.rd (i := 9) rfl) (rda_one (S.rd (i := 10) rfl))))).cast ehn) (negK lhx ⟨S.e, S.g⟩ (x := 13) rfl (by show 20 < 24; decide))) fun H19 s19 S => ?_
    /- numbers, out -/
    have hi11 : 11 < σ8.length := by rw [S.e.1]; show _ < 24; decide
    have efl : (hsX xs m).filterMap id = xs := by
      show fl (hsX xs m) = xs
      unfold hsX
      rw [fl_app, fl_nones, fl_map_some, List.append_nil]
    refine sn_set (ps_setLc (i := 14) (own := [("_law_number", 11)]) (g := gName 11) (by rfl) sc_law.nd rfl rfl (by rfl) (pi_tupK (K := K) rfl (pv 13)) (blkOk_by (own := [("_law_number", 11)]) (N := nmLaw) (sc := defScope s_law) (by decide +kernel)) (fun _ _ _ _ _ => pg_name (i := 11) sc_law.nd rfl (.inl rfl)) (fun _ _ _ _ _ => pts_one (pt_cmpR op_notN (pv 11) pe_non (nomark _))) (fun _ _ _ _ _ => (pv 11))) S w0 ((rd_somesK hi11 lhx (S.rd (i := 13) rfl)).cast (d' := .lst (xs.map D.int)) (by rw [efl])) fun σ9 H20 s20 S => ?_
    dsimp only [List.set] at S
    obtain ⟨o, eo⟩ : ∃ o : Option Int, o = if m = 0 then xs.head? else none := ⟨_, rfl⟩
    have ro : Rd K [d] _ σ9 H20 (dO o) := rd_if (da := .non) (db := .non) (b := decide ((xs.length : Int) = (rs.length : Nat))) (rdt_test (rd_eqI (rd_lenM (rda_one (S.rd (i := 14) rfl))) ((rd_lenL (rda_one (S.rd (i := 2) rfl))).cast (d' := .int (rs.length : Nat)) (by unfold lbD; rw [List.length_map, List.length_map])))) (fun hb => by
        have hb := of_decide_eq_true hb
        have m0 : m = 0 := by omega
        rw [if_pos m0] at eo
        obtain ⟨x, xs', ex⟩ : ∃ x xs', xs = x :: xs' := by
          cases xs with
          | nil => simp at hl2; omega
          | cons x xs' => exact ⟨x, xs', rfl⟩
        rw [ex] at eo
        rw [eo]
        exact rd_atM (f := D.int) (n := 0) (x := x) (by rw [ex]; rfl) (S.rd (i := 14) rfl) rd_int) (fun hb => by
        have hb := of_decide_eq_false hb
        have m0 : ¬ m = 0 := fun z => hb (by omega)
        rw [if_neg m0] at eo
        rw [eo]
        exact rd_non)
    refine sn_set (ps_set (i := 15) sc_law.nd rfl (by first | exact .inl rfl | exact .inr rfl) (pe_ifExp (pt_cmpR op_eq (pe_callB (r := rLenS K) call_len_seq (by rfl) B.len boot_len' (pa_cons (pv 14) pa_nil)) (pe_callB (r := rLenS K) call_len_seq (by rfl) B.len boot_len' (pa_cons (pv 2) pa_nil)) (nomark _)) (pe_ix (r := rIxL K) ix_list (pv 14) pe_int (fun _ _ => rfl)) pe_non)) S w0 ro fun σ10 H21 s21 S => ?_
    dsimp only [List.set] at S
    clear ro
    /- turned, ways -/
    refine wp_cons (ps_par (i := 16) (j := 17) (by rfl) sc_law.nd rfl rfl (by decide) rfl rfl (pa_cons (pe_callTy (r := rTupK K) cr_tupleK (by rfl) B.tuple boot_tuple' (pa_cons (pe_lc (own := [("_law_value", 20)]) (g := gName 20) (by rfl) sc_law.nd (pi_tupK (K := K) rfl (pv 13)) (blkOk_by (own := [("_law_value", 20)]) (N := nmLaw) (sc := defScope s_law) (by decide +kernel)) (fun _ _ _ _ _ => pg_name (i := 20) sc_law.nd rfl (.inl rfl)) (fun _ _ _ _ _ => pts_nil) (fun _ _ _ _ _ => (pe_ifExp (pt_cmpR op_isN (pv 20) pe_non (nomark _)) pe_non (pe_op op_sub pe_int (pv 20))))) pa_nil)) (pa_cons (pe_lst pa_nil) pa_nil)) (by rfl)) (go_cons ?_)
    refine (negK lhx ⟨S.e, S.g⟩ (x := 13) rfl (by show 20 < 24; decide)) H21 (Same.refl _) S.g _ fun v16 H22 s22 g22 r16 => go_cons ⟨Nat.zero_le _, fun L hL => ⟨_, _, rfl, ?_⟩⟩
    have S := S.same w0 s22
    have sL : Same H22 (upd H22 L (.lst [])) := same_new hL
    have LM : L ∉ [d] := S.g.out hL
    have wL : Dw (JS d (TL1 K)) d (L :: [d]) := w0.more L
    have SL : Sn K (L :: [d]) (JS d (TL1 K)) ((σ10.set 16 (some v16)).set 17 (some (.ref L))) (upd H22 L (.lst [])) _ := ⟨((S.e.set (i := 16) r16).more hL sL).setv (i := 17) (v := .ref L), (S.g.same sL).lst upd_same, w0.same S.j sL⟩
    dsimp only [List.set] at SL
    have eL0 : upd H22 L (.lst []) L = some (.lst []) := upd_same
    show wpS _ _ _ ((σ10.set 16 (some v16)).set 17 (some (.ref L))) (upd H22 L (.lst []))
    generalize (σ10.set 16 (some v16)).set 17 (some (V.ref L)) = σ11 at SL ⊢
    generalize upd H22 L (.lst []) = H23 at SL eL0 ⊢
    have S : Sn K (L :: [d]) (JS d (TL1 K)) σ11 H23 [.val (.ref a), .val (.ref d), .dat (.lst (lbD rs)), .any, .dat (.chain rs), .dat (.chain (rs.map Rule.neg)), .any, .any, .any, .any, .any, .any, .any, .dat (.ktup ((hsX xs m).map dO)), .any, .dat (dO o), .dat (.ktup (((hsX xs m).map ng).map dO)), .val (.ref L), .any, .any, .any, .any, .any, .any] := SL.fgt (by repeat (first | exact Fgt.nil | apply Fgt.keep | apply Fgt.any))
    clear SL sL hL r16
    have onx : ∀ z ∈ xs, numOk z := fun z hz => by
      have h := held_mem hsh (rs := rs) (t := T) (y := z) (by rw [ehs]; unfold hsX; exact List.mem_append_left _ (List.mem_map.mpr ⟨z, hz, rfl⟩))
      exact osh z h
    /- earlier -/
    refine wp_cons (ps_for PassesOwn.never rfl (pi_listK (K := K) rfl (pe_fu GE hr (by decide) (by rfl) pass0 (pa_cons (pv 4) (pa_cons (pv 13) (pa_cons (pv 15) pa_nil))))) (pg_tup rfl (pgs_cons (pg_name (i := 18) sc_law.nd rfl (by first | exact .inl rfl | exact .inr rfl)) (pgs_cons (pg_name (i := 19) sc_law.nd rfl (by first | exact .inl rfl | exact .inr rfl)) pgs_nil))) wpS_ok) (go_forE ?_)
    refine (rda_cons (S.rd (i := 4) rfl) (rda_cons (S.rd (i := 13) rfl) (rda_one (S.rd (i := 15) rfl)))) H23 (Same.refl _) S.g _ fun vs1 H24 s24 g24 r24 => ?_
    have eL0 := s24 _ _ eL0
    have S := S.same wL s24
    have hnt : ∀ x ∈ L :: [d], ∀ ps, H24 x ≠ some (.tbl ps) := fun x hx ps z => by
      rcases List.mem_cons.mp hx with rfl | hx
      · rw [eL0] at z; cases z
      · obtain ⟨ds, hD, hd⟩ := S.j.1
        rw [List.mem_singleton.mp hx, hd] at z
        cases z
    refine ⟨L :: [d], rs, xs, m, o, g24, by rw [List.append_nil]; exact r24, hl2, l1, l8, onx, S.j.2, hnt, fun v H25 e25 T25 g25 r25 => ?_⟩
    have eL0 : H25 L = some (.lst []) := e25 _ _ eL0 (fun _ z => by cases z)
    have S : Sn K (L :: [d]) (JS d (TL1 K)) σ11 H25 _ := ⟨S.e.ext e25, g25, Src.ext (d := d) S.j.1 e25, T25⟩
    obtain ⟨ar, vr, rfl, har, rar⟩ := r25
    obtain ⟨ws, ews⟩ : ∃ ws, sortW (waysX rs xs m o) = ws := ⟨_, rfl⟩
    rw [ews] at rar
    have pws : ws.Perm (waysX rs xs m o) := by rw [← ews]; exact sortW_perm _
    have lws : ws.length ≤ 256 := by rw [pws.length_eq]; exact waysX_len l8
    refine ⟨ar, rfl, ⟨vr, SqL.of (wo_le _ _ har)⟩, ?_⟩
    have lvr : vr.length = ws.length := by rw [rar.len, List.length_map]
    obtain ⟨RL, eRL⟩ : ∃ RL : Nat → L2.St → Hp → Prop, RL = fun j σ H' => Sn K (L :: [d]) (JS d (TL1 K)) σ H' [.val (.ref a), .val (.ref d), .dat (.lst (lbD rs)), .any, .dat (.chain rs), .dat (.chain (rs.map Rule.neg)), .any, .any, .any, .any, .any, .any, .any, .dat (.ktup ((hsX xs m).map dO)), .any, .dat (dO o), .dat (.ktup (((hsX xs m).map ng).map dO)), .val (.ref L), .any, .any, .any, .any, .any, .any] ∧ wo (L :: [d]) H' ar = some (.lst vr) ∧ RpL K (wo (L :: [d]) H') (ws.map wayD) vr ∧ ∃ us, H' L = some (.lst us) ∧ RpL K (wo (L :: [d]) H') (((ws.take j).map wayN).map wayD) us := ⟨_, rfl⟩
    refine for_list (K := K) (a := ar) (xs := vr) RL ?_ (fun j σ H' _ h => by rw [eRL] at h; exact SqL.of (wo_le _ _ h.2.1)) ?_ ?_
    · rw [eRL]
      exact ⟨S, har, rar, [], eL0, rfl⟩
    · clear S har rar eL0
      rintro j x σ12 H26 hx hR
      rw [eRL] at hR
      obtain ⟨S, har, rar, us, eU, rU⟩ := hR
      obtain ⟨d', hd', rx⟩ := rar.get' hx
      rw [List.getElem?_map] at hd'
      cases hq : ws[j]? with
      | none => rw [hq] at hd'; cases hd'
      | some wv =>
      rw [hq] at hd'
      cases hd'
      have wl : wv.2.length = rs.length := ((waysX_mem (c := wv.1) (old := wv.2) hl2 l1).mp (pws.mem_iff.mp (List.mem_of_getElem? hq))).2.1
      have lj := (List.getElem?_eq_some_iff.mp hq).1
      obtain ⟨t, us1, rfl, et, v1, us2, rfl, r1, v2, us3, rfl, r2, r3⟩ := rx
      cases r3
      refine ⟨t, _, rfl, SqT.of (wo_le _ _ et), rfl, _, _, rfl, _, _, rfl, rfl, ?_⟩
      have S6 : Sn K (L :: [d]) (JS d (TL1 K)) ((σ12.set 18 (some v1)).set 19 (some v2)) H26 _ := ⟨(S.e.set (i := 18) r1).set (i := 19) r2, S.g, S.j⟩
      dsimp only [List.set] at S6
      show wpS _ _ _ ((σ12.set 18 (some v1)).set 19 (some v2)) H26
      generalize (σ12.set 18 (some v1)).set 19 (some v2) = σ13 at S6 ⊢
      have S := S6
      clear S6 r1 r2 et
      refine wp_one (ps_expr (pe_bm PySem.F.plainAttrs_list PySem.F.slot_list_append PySem.F.type_list_append mt_append (pv 17) (pa_cons (pe_tup (pa_cons (pe_op op_sub pe_int (pv 18)) (pa_cons (pe_callTy (r := rTupK K) cr_tupleK (by rfl) B.tuple boot_tuple' (pa_cons (pe_lc (own := [("_law_value", 20)]) (g := gName 20) (by rfl) sc_law.nd (pi_tupK (K := K) rfl (pv 19)) (blkOk_by (own := [("_law_value", 20)]) (N := nmLaw) (sc := defScope s_law) (by decide +kernel)) (fun _ _ _ _ _ => pg_name (i := 20) sc_law.nd rfl (.inl rfl)) (fun _ _ _ _ _ => pts_nil) (fun _ _ _ _ _ => (pe_ifExp (pt_cmpR op_isN (pv 20) pe_non (nomark _)) pe_non (pe_op op_sub pe_int (pv 20))))) pa_nil)) pa_nil))) pa_nil))) ?_
      refine ⟨_, S.e.val (i := 17) rfl, .inl ⟨rfl, _, SqL.of eU⟩, ?_⟩
      refine ((rd_tupA (rda_cons ((rd_sub rd_int (S.rd (i := 18) rfl)).cast (d' := .int (-wv.1)) (by congr 1; omega)) (rda_one (negK (by rw [wl]; omega) ⟨S.e, S.g⟩ (x := 19) rfl (by show 20 < 24; decide))))).cast (d' := wayD (wayN wv)) rfl) H26 (Same.refl _) S.g _ fun v7 H27 s27 g27 r27 => ?_
      have S := S.same wL s27
      have eU := s27 _ _ eU
      have rU := RpL.same (swo (M := L :: [d]) s27) _ rU
      have lus : us.length = j := by rw [rU.len, List.length_map, List.length_map, List.length_take]; omega
      refine ⟨L, us, v7, rfl, rfl, eU, by rw [lus]; omega, ?_⟩
      have eW := wo_upd (M := L :: [d]) (H := H27) (o := HO.lst (us ++ [v7])) (m := L) List.mem_cons_self
      show RL (j + 1) _ (upd H27 L (.lst (us ++ [v7])))
      rw [eRL]
      refine ⟨Sn.fgt ⟨S.e.le (by rw [eW]; exact Same.refl _), Gd.at (o := .lst _) S.g trivial, wA.app S.j eU LM⟩ (by repeat (first | exact Fgt.nil | apply Fgt.keep | apply Fgt.any)), by rw [eW]; exact swo s27 _ _ har, by rw [eW]; exact RpL.same (swo s27) _ rar, _, upd_same, ?_⟩
      rw [eW, take_more hq, List.map_append, List.map_append]
      exact rU.snoc r27
    clear S har rar eL0
    rintro σ12 H26 hR
    rw [lvr, eRL, List.take_length] at hR
    obtain ⟨S, _, _, us, eU, rU⟩ := hR
    show wpS _ _ _ _ _
    have S : Sn K [d] (JS d (TL1 K)) σ12 H26 [.val (.ref a), .val (.ref d), .dat (.lst (lbD rs)), .any, .dat (.chain rs), .dat (.chain (rs.map Rule.neg)), .any, .any, .any, .any, .any, .any, .any, .dat (.ktup ((hsX xs m).map dO)), .any, .dat (dO o), .dat (.ktup (((hsX xs m).map ng).map dO)), .dat (.lst ((ws.map wayN).map wayD)), .any, .any, .any, .any, .any, .any] := ⟨S.e.less.asD (i := 17) rfl ⟨L, us, rfl, by rw [wo_at LM]; exact eU, RpL.same (wo_sub fun y hy => List.mem_cons_of_mem _ hy) _ rU⟩, S.g.tl, S.j⟩
    rw [hsX_neg] at S
    refine sn_ear (ps_set (i := 6) sc_law.nd rfl (by first | exact .inl rfl | exact .inr rfl) (pe_fu GE hr (by decide) (by rfl) pass0 (pa_cons (pv 5) (pa_cons (pv 16) (pa_cons (pe_ifExp (pt_cmpR op_isN (pv 15) pe_non (nomark _)) pe_non (pe_op op_sub pe_int (pv 15))) pa_nil))))) S (rda_cons (S.rd (i := 5) rfl) (rda_cons (S.rd (i := 16) rfl) (rda_one (rd_ngE S.e (i := 15) rfl)))) (by rw [List.length_map, List.length_map]; exact hl2) (by rw [List.length_map]; exact l1) (by rw [List.length_map]; exact l8) (fun z hz => by
      obtain ⟨y, hy, rfl⟩ := List.mem_map.mp hz
      obtain ⟨a1, a2⟩ := onx y hy
      constructor <;> omega) fun σ13 H27 S => ?_
    dsimp only [List.set] at S
    have pn := ways_neg (o := o) hl2 l1
    obtain ⟨wz, ewz⟩ : ∃ wz, sortW (waysX (rs.map Rule.neg) (ngR xs) m (ng o)) = wz := ⟨_, rfl⟩
    rw [ewz] at S
    have pz : wz.Perm (ws.map wayN) := by rw [← ewz]; exact (sortW_perm _).trans (pn.symm.trans (pws.map wayN).symm)
    have lz : wz.length = ws.length := by rw [pz.length_eq, List.length_map]
    have okw : ∀ {l : List Way}, ∀ y ∈ l.map wayD, Ok 2 y := fun {l} y hy => by
      obtain ⟨w', _, rfl⟩ := List.mem_map.mp hy
      exact ok_way w'
    refine wp_one (ps_ret (pe_and (pe_cmpR (r := rEqD K) (op_eqD hr.units) (pe_lc (own := [("_law_way", 22)]) (g := gName 22) (by rfl) sc_law.nd (pi_listK (K := K) rfl (pv 17)) (blkOk_by (own := [("_law_way", 22)]) (N := nmLaw) (sc := defScope s_law) (by decide +kernel)) (fun _ _ _ _ _ => pg_name (i := 22) sc_law.nd rfl (.inl rfl)) (fun _ _ _ _ _ => pts_one (pt_cmpR (r := rInD K not) (op_ninD hr.units) (pv 22) (pv 6) rfl)) (fun _ _ _ _ _ => (pv 22))) (pe_lst pa_nil) (nomark _)) (pe_one (pe_cmpR op_eq (pe_callB (r := rLenS K) call_len_seq (by rfl) B.len boot_len' (pa_cons (pv 17) pa_nil)) (pe_callB (r := rLenS K) call_len_seq (by rfl) B.len boot_len' (pa_cons (pv 6) pa_nil)) (nomark _))))) ?_
    refine (rd_and1 ((rd_eqD (n := 3) (m := 1) (da := .lst (((ws.map wayN).filter fun _ => false).map wayD)) (db := .lst []) ok_ways (by decide) (.lst fun x hx => by cases hx) (by decide) (rd_filtL (i := 22) (ws.map wayN) wayD (fun _ => false) wayD (by rw [List.length_map]; omega) (S.rd (i := 17) rfl) fun x hx H1 s1' M' H' v s' sw g' rv => ⟨?_, fun z => by cases z⟩) (rd_lstA rda_nil)).cast (by
      have e : ((ws.map wayN).filter fun _ => false) = [] := by simp
      rw [e]
      rfl)) ((rd_eqI (rd_lenL (rda_one (S.rd (i := 17) rfl))) (rd_lenL (rda_one (S.rd (i := 6) rfl)))).cast (by rw [List.length_map, List.length_map, List.length_map, lz]; simp))) H27 (Same.refl _) S.g _ fun u H28 s28 g28 r28 => by
      cases r28
      exact q0 _
    have E' := (((S.e.same s1').le sw).wipe (i := 22)).set (i := 22) rv
    refine (rdt_test (rd_ninD (n := 2) (ok_way x) (by decide) okw (E'.rd (i := 22) rfl) (E'.rd (i := 6) rfl))).cast ?_
    have t : ((wz.map wayD).any fun u => eqD u (wayD x)) = true := List.any_eq_true.mpr ⟨_, List.mem_map.mpr ⟨x, pz.mem_iff.mpr hx, rfl⟩, eqD_self (ok_way x) (by decide)⟩
    rw [t]
    rfl
end
end SC
set_option maxRecDepth 100000
set_option maxHeartbeats 4000000
namespace SC
open PySem PySem.Spec PyProof.Rows L2 TL
section
variable {h : Heap} {K : PySem.W.Frag} {mg : Str → Option Value}
theorem mkBln (c : Says dps fxs tfs h K) (X : K.In h) (G : h.Ns mainGlobals mg) : Bln mg := ⟨He.free_ok X G (c.fact _ (List.mem_of_getElem? (l := fxs) (i := 0) rfl)), He.free_ok X G (c.fact _ (List.mem_of_getElem? (l := fxs) (i := 1) rfl)), He.free_ok X G (c.fact _ (List.mem_of_getElem? (l := fxs) (i := 2) rfl)), He.free_ok X G (c.fact _ (List.mem_of_getElem? (l := fxs) (i := 3) rfl)), He.free_ok X G (c.fact _ (List.mem_of_getElem? (l := fxs) (i := 4) rfl)), He.free_ok X G (c.fact _ (List.mem_of_getElem? (l := fxs) (i := 5) rfl)), He.free_ok X G (c.fact _ (List.mem_of_getElem? (l := fxs) (i := 6) rfl)), He.free_ok X G (c.fact _ (List.mem_of_getElem? (l := fxs) (i := 7) rfl)), He.free_ok X G (c.fact _ (List.mem_of_getElem? (l := fxs) (i := 8) rfl)), He.free_ok X G (c.fact _ (List.mem_of_getElem? (l := fxs) (i := 9) rfl)), He.free_ok X G (c.fact _ (List.mem_of_getElem? (l := fxs) (i := 10) rfl)), He.free_ok X G (c.fact _ (List.mem_of_getElem? (l := fxs) (i := 11) rfl))⟩
theorem mkCells (c : Says dps fxs tfs h K) (X : K.In h) (G : h.Ns mainGlobals mg) : Cells K mg := by
  constructor
  · intro k
    cases k with
    | first => exact He.cls_ok (c.fact _ (List.mem_of_getElem? (l := fxs) (i := 67) rfl))
    | last => exact He.cls_ok (c.fact _ (List.mem_of_getElem? (l := fxs) (i := 68) rfl))
    | less => exact He.cls_ok (c.fact _ (List.mem_of_getElem? (l := fxs) (i := 69) rfl))
    | greater => exact He.cls_ok (c.fact _ (List.mem_of_getElem? (l := fxs) (i := 70) rfl))
    | near => exact He.cls_ok (c.fact _ (List.mem_of_getElem? (l := fxs) (i := 71) rfl))
  · intro k
    cases k with
    | first => exact fx_isi (c.fact _ (List.mem_of_getElem? (l := fxs) (i := 97) rfl))
    | last => exact fx_isi (c.fact _ (List.mem_of_getElem? (l := fxs) (i := 98) rfl))
    | less => exact fx_isi (c.fact _ (List.mem_of_getElem? (l := fxs) (i := 99) rfl))
    | greater => exact fx_isi (c.fact _ (List.mem_of_getElem? (l := fxs) (i := 100) rfl))
    | near => exact fx_isi (c.fact _ (List.mem_of_getElem? (l := fxs) (i := 101) rfl))
  · intro k
    cases k with
    | first => exact He.glo_ok X G (c.fact _ (List.mem_of_getElem? (l := fxs) (i := 55) rfl))
    | last => exact He.glo_ok X G (c.fact _ (List.mem_of_getElem? (l := fxs) (i := 56) rfl))
    | less => exact He.glo_ok X G (c.fact _ (List.mem_of_getElem? (l := fxs) (i := 57) rfl))
    | greater => exact He.glo_ok X G (c.fact _ (List.mem_of_getElem? (l := fxs) (i := 58) rfl))
    | near => exact He.glo_ok X G (c.fact _ (List.mem_of_getElem? (l := fxs) (i := 59) rfl))
  · intro k
    cases k with
    | first => exact fx_spec (c.fact _ (List.mem_of_getElem? (l := fxs) (i := 77) rfl))
    | last => exact fx_spec (c.fact _ (List.mem_of_getElem? (l := fxs) (i := 78) rfl))
    | less => exact fx_spec (c.fact _ (List.mem_of_getElem? (l := fxs) (i := 79) rfl))
    | greater => exact fx_spec (c.fact _ (List.mem_of_getElem? (l := fxs) (i := 80) rfl))
    | near => exact fx_spec (c.fact _ (List.mem_of_getElem? (l := fxs) (i := 81) rfl))
  · intro k
    cases k with
    | first => exact fx_spec (c.fact _ (List.mem_of_getElem? (l := fxs) (i := 82) rfl))
    | last => exact fx_spec (c.fact _ (List.mem_of_getElem? (l := fxs) (i := 83) rfl))
    | less => exact fx_spec (c.fact _ (List.mem_of_getElem? (l := fxs) (i := 84) rfl))
    | greater => exact fx_spec (c.fact _ (List.mem_of_getElem? (l := fxs) (i := 85) rfl))
    | near => exact fx_spec (c.fact _ (List.mem_of_getElem? (l := fxs) (i := 86) rfl))
  · intro k
    cases k with
    | first => exact fx_spec (c.fact _ (List.mem_of_getElem? (l := fxs) (i := 87) rfl))
    | last => exact fx_spec (c.fact _ (List.mem_of_getElem? (l := fxs) (i := 88) rfl))
    | less => exact fx_spec (c.fact _ (List.mem_of_getElem? (l := fxs) (i := 89) rfl))
    | greater => exact fx_spec (c.fact _ (List.mem_of_getElem? (l := fxs) (i := 90) rfl))
    | near => exact fx_spec (c.fact _ (List.mem_of_getElem? (l := fxs) (i := 91) rfl))
  · intro k
    cases k with
    | first => exact fx_none (c.fact _ (List.mem_of_getElem? (l := fxs) (i := 92) rfl))
    | last => exact fx_none (c.fact _ (List.mem_of_getElem? (l := fxs) (i := 93) rfl))
    | less => exact fx_none (c.fact _ (List.mem_of_getElem? (l := fxs) (i := 94) rfl))
    | greater => exact fx_none (c.fact _ (List.mem_of_getElem? (l := fxs) (i := 95) rfl))
    | near => exact fx_none (c.fact _ (List.mem_of_getElem? (l := fxs) (i := 96) rfl))
  · intro k
    cases k with
    | first => exact fx_prop (c.fact _ (List.mem_of_getElem? (l := fxs) (i := 72) rfl))
    | last => exact fx_prop (c.fact _ (List.mem_of_getElem? (l := fxs) (i := 73) rfl))
    | less => exact fx_prop (c.fact _ (List.mem_of_getElem? (l := fxs) (i := 74) rfl))
    | greater => exact fx_prop (c.fact _ (List.mem_of_getElem? (l := fxs) (i := 75) rfl))
    | near => exact fx_prop (c.fact _ (List.mem_of_getElem? (l := fxs) (i := 76) rfl))
  · intro k
    cases k with
    | first => exact fx_con (c.fact _ (List.mem_of_getElem? (l := fxs) (i := 118) rfl))
    | last => exact fx_con (c.fact _ (List.mem_of_getElem? (l := fxs) (i := 119) rfl))
    | less => exact fx_con (c.fact _ (List.mem_of_getElem? (l := fxs) (i := 120) rfl))
    | greater => exact fx_con (c.fact _ (List.mem_of_getElem? (l := fxs) (i := 121) rfl))
    | near => exact fx_con (c.fact _ (List.mem_of_getElem? (l := fxs) (i := 122) rfl))
  · intro k l
    cases k <;> cases l
    · exact fx_sub (c.fact _ (List.mem_of_getElem? (l := fxs) (i := 128) rfl))
    · exact fx_sub (c.fact _ (List.mem_of_getElem? (l := fxs) (i := 129) rfl))
    · exact fx_sub (c.fact _ (List.mem_of_getElem? (l := fxs) (i := 130) rfl))
    · exact fx_sub (c.fact _ (List.mem_of_getElem? (l := fxs) (i := 131) rfl))
    · exact fx_sub (c.fact _ (List.mem_of_getElem? (l := fxs) (i := 132) rfl))
    · exact fx_sub (c.fact _ (List.mem_of_getElem? (l := fxs) (i := 133) rfl))
    · exact fx_sub (c.fact _ (List.mem_of_getElem? (l := fxs) (i := 134) rfl))
    · exact fx_sub (c.fact _ (List.mem_of_getElem? (l := fxs) (i := 135) rfl))
    · exact fx_sub (c.fact _ (List.mem_of_getElem? (l := fxs) (i := 136) rfl))
    · exact fx_sub (c.fact _ (List.mem_of_getElem? (l := fxs) (i := 137) rfl))
    · exact fx_sub (c.fact _ (List.mem_of_getElem? (l := fxs) (i := 138) rfl))
    · exact fx_sub (c.fact _ (List.mem_of_getElem? (l := fxs) (i := 139) rfl))
    · exact fx_sub (c.fact _ (List.mem_of_getElem? (l := fxs) (i := 140) rfl))
    · exact fx_sub (c.fact _ (List.mem_of_getElem? (l := fxs) (i := 141) rfl))
    · exact fx_sub (c.fact _ (List.mem_of_getElem? (l := fxs) (i := 142) rfl))
    · exact fx_sub (c.fact _ (List.mem_of_getElem? (l := fxs) (i := 143) rfl))
    · exact fx_sub (c.fact _ (List.mem_of_getElem? (l := fxs) (i := 144) rfl))
    · exact fx_sub (c.fact _ (List.mem_of_getElem? (l := fxs) (i := 145) rfl))
    · exact fx_sub (c.fact _ (List.mem_of_getElem? (l := fxs) (i := 146) rfl))
    · exact fx_sub (c.fact _ (List.mem_of_getElem? (l := fxs) (i := 147) rfl))
    · exact fx_sub (c.fact _ (List.mem_of_getElem? (l := fxs) (i := 148) rfl))
    · exact fx_sub (c.fact _ (List.mem_of_getElem? (l := fxs) (i := 149) rfl))
    · exact fx_sub (c.fact _ (List.mem_of_getElem? (l := fxs) (i := 150) rfl))
    · exact fx_sub (c.fact _ (List.mem_of_getElem? (l := fxs) (i := 151) rfl))
    · exact fx_sub (c.fact _ (List.mem_of_getElem? (l := fxs) (i := 152) rfl))
  · intro k
    cases k with
    | first => exact fx_sub (c.fact _ (List.mem_of_getElem? (l := fxs) (i := 153) rfl))
    | last => exact fx_sub (c.fact _ (List.mem_of_getElem? (l := fxs) (i := 154) rfl))
    | less => exact fx_sub (c.fact _ (List.mem_of_getElem? (l := fxs) (i := 155) rfl))
    | greater => exact fx_sub (c.fact _ (List.mem_of_getElem? (l := fxs) (i := 156) rfl))
    | near => exact fx_sub (c.fact _ (List.mem_of_getElem? (l := fxs) (i := 157) rfl))
  · intro k
    cases k with
    | first => exact fx_kit (c.fact _ (List.mem_of_getElem? (l := fxs) (i := 107) rfl))
    | last => exact fx_kit (c.fact _ (List.mem_of_getElem? (l := fxs) (i := 108) rfl))
    | less => exact fx_kit (c.fact _ (List.mem_of_getElem? (l := fxs) (i := 109) rfl))
    | greater => exact fx_kit (c.fact _ (List.mem_of_getElem? (l := fxs) (i := 110) rfl))
    | near => exact fx_kit (c.fact _ (List.mem_of_getElem? (l := fxs) (i := 111) rfl))
  · exact fx_kit (c.fact _ (List.mem_of_getElem? (l := fxs) (i := 127) rfl))
  · intro k hk
    cases k with
    | first => exact fx_mk0 (c.fact _ (List.mem_of_getElem? (l := fxs) (i := 112) rfl))
    | last => exact fx_mk0 (c.fact _ (List.mem_of_getElem? (l := fxs) (i := 113) rfl))
    | less => exact fx_mk0 (c.fact _ (List.mem_of_getElem? (l := fxs) (i := 114) rfl))
    | greater => exact fx_mk0 (c.fact _ (List.mem_of_getElem? (l := fxs) (i := 115) rfl))
    | near => exact absurd rfl hk
  · exact He.mkr_ok (c.fact _ (List.mem_of_getElem? (l := fxs) (i := 116) rfl))
  · exact He.noat_ok (c.fact _ (List.mem_of_getElem? (l := fxs) (i := 117) rfl))
theorem mkCellsC (c : Says dps fxs tfs h K) : CellsC K := by
  constructor
  · intro k
    cases k with
    | first => exact fx_cls (c.fact _ (List.mem_of_getElem? (l := fxs) (i := 102) rfl))
    | last => exact fx_cls (c.fact _ (List.mem_of_getElem? (l := fxs) (i := 103) rfl))
    | less => exact fx_cls (c.fact _ (List.mem_of_getElem? (l := fxs) (i := 104) rfl))
    | greater => exact fx_cls (c.fact _ (List.mem_of_getElem? (l := fxs) (i := 105) rfl))
    | near => exact fx_cls (c.fact _ (List.mem_of_getElem? (l := fxs) (i := 106) rfl))
  · intro k hk
    cases k with
    | first => exact fx_cstr (c.fact _ (List.mem_of_getElem? (l := fxs) (i := 123) rfl))
    | last => exact fx_cstr (c.fact _ (List.mem_of_getElem? (l := fxs) (i := 124) rfl))
    | less => exact fx_cstr (c.fact _ (List.mem_of_getElem? (l := fxs) (i := 125) rfl))
    | greater => exact fx_cstr (c.fact _ (List.mem_of_getElem? (l := fxs) (i := 126) rfl))
    | near => exact absurd rfl hk
theorem mkChains (c : Says dps fxs tfs h K) (X : K.In h) (G : h.Ns mainGlobals mg) : Chains K mg :=
  ⟨He.cls_ok (c.fact _ (List.mem_of_getElem? (l := fxs) (i := 160) rfl)), fx_isi (c.fact _ (List.mem_of_getElem? (l := fxs) (i := 168) rfl)), He.glo_ok X G (c.fact _ (List.mem_of_getElem? (l := fxs) (i := 60) rfl)), He.mkr_ok (c.fact _ (List.mem_of_getElem? (l := fxs) (i := 161) rfl)), He.noat_ok (c.fact _ (List.mem_of_getElem? (l := fxs) (i := 162) rfl)), fx_con (c.fact _ (List.mem_of_getElem? (l := fxs) (i := 163) rfl)), fx_cint (c.fact _ (List.mem_of_getElem? (l := fxs) (i := 164) rfl)), fx_cls (c.fact _ (List.mem_of_getElem? (l := fxs) (i := 165) rfl)), fx_cmet (c.fact _ (List.mem_of_getElem? (l := fxs) (i := 166) rfl)), fx_slf (c.fact _ (List.mem_of_getElem? (l := fxs) (i := 167) rfl)), fx_kit (c.fact _ (List.mem_of_getElem? (l := fxs) (i := 169) rfl)),
   fx_prop (c.fact _ (List.mem_of_getElem? (l := fxs) (i := 170) rfl)), fx_prop (c.fact _ (List.mem_of_getElem? (l := fxs) (i := 171) rfl)), He.meth_ok (c.fact _ (List.mem_of_getElem? (l := fxs) (i := 172) rfl)), fx_spec (c.fact _ (List.mem_of_getElem? (l := fxs) (i := 173) rfl)), fx_spec (c.fact _ (List.mem_of_getElem? (l := fxs) (i := 174) rfl)), fx_spec (c.fact _ (List.mem_of_getElem? (l := fxs) (i := 175) rfl)), fx_spec (c.fact _ (List.mem_of_getElem? (l := fxs) (i := 176) rfl)), fx_spec (c.fact _ (List.mem_of_getElem? (l := fxs) (i := 177) rfl)), fx_spec (c.fact _ (List.mem_of_getElem? (l := fxs) (i := 178) rfl)), fx_none (c.fact _ (List.mem_of_getElem? (l := fxs) (i := 179) rfl))⟩
theorem mkErr0_InvalidNumber (c : Says dps fxs tfs h K) (X : K.In h) (G : h.Ns mainGlobals mg) : Err0 K mg "InvalidNumber" := by
  obtain ⟨h1, h2, h3, h4⟩ := He.exc_ok (c.fact _ (List.mem_of_getElem? (l := fxs) (i := 158) rfl))
  exact ⟨h1, h2, h3, h4, He.glo_ok X G (c.fact _ (List.mem_of_getElem? (l := fxs) (i := 50) rfl))⟩
theorem mkErr0_UnknownCell (c : Says dps fxs tfs h K) (X : K.In h) (G : h.Ns mainGlobals mg) : Err0 K mg "UnknownCell" := by
  obtain ⟨h1, h2, h3, h4⟩ := He.exc_ok (c.fact _ (List.mem_of_getElem? (l := fxs) (i := 159) rfl))
  exact ⟨h1, h2, h3, h4, He.glo_ok X G (c.fact _ (List.mem_of_getElem? (l := fxs) (i := 52) rfl))⟩
end
theorem fnR_of {P : Program} {w : World} {K : PySem.W.Frag} {mg : Str → Option Value} {base : Heap} {CX : CXT} {k : Nat} {f : Addr} {fd : FuncData} {ps : List Str} {sp : Sp} (F : FnOk P w K mg base CX k f fd ps sp) (hb : Binds K fd ps []) : FnR P w K mg base CX k f sp :=
  (F.raw (dvs := []) hb .nil).imp fun vs H Q E h => by
    show sp (vs ++ []) H Q E
    rw [List.append_nil]
    exact h
theorem lawAt (w : World) (K : PySem.W.Frag) (h : Heap) (mg : Str → Option Value) (fa : Addr) (X : K.In h) (G : h.Ns mainGlobals mg) (hfa : mg ("law" : Str) = some (.ref fa)) (c : Says dps fxs tfs h K) :
    LamX.LawAtS PySem.Challenge.rw_siftchain_k32_whole_opposite_rows w K CX0 20 63 "_law_script" mg fa h := by
  have B := mkBln c X G
  have TC := mkCells c X G
  have TCC := mkCellsC c
  have CH := mkChains c X G
  have E0_InvalidNumber := mkErr0_InvalidNumber c X G
  have E0_UnknownCell := mkErr0_UnknownCell c X G
  have h_ValueError := He.free_ok X G (c.fact _ (List.mem_of_getElem? (l := fxs) (i := 12) rfl))
  have h_enumerate := He.free_ok X G (c.fact _ (List.mem_of_getElem? (l := fxs) (i := 13) rfl))
  have h_zip := He.free_ok X G (c.fact _ (List.mem_of_getElem? (l := fxs) (i := 14) rfl))
  have h_sorted := He.free_ok X G (c.fact _ (List.mem_of_getElem? (l := fxs) (i := 15) rfl))
  have h_sum := He.free_ok X G (c.fact _ (List.mem_of_getElem? (l := fxs) (i := 16) rfl))
  have h_set := He.free_ok X G (c.fact _ (List.mem_of_getElem? (l := fxs) (i := 17) rfl))
  have h_dict := He.free_ok X G (c.fact _ (List.mem_of_getElem? (l := fxs) (i := 18) rfl))
  have h_reversed := He.free_ok X G (c.fact _ (List.mem_of_getElem? (l := fxs) (i := 19) rfl))
  obtain ⟨fd_is_within, F_is_within⟩ := c.defs _ (List.mem_of_getElem? (l := dps) (i := 0) rfl) rfl
  obtain ⟨fd_is_number, F_is_number⟩ := c.defs _ (List.mem_of_getElem? (l := dps) (i := 1) rfl) rfl
  obtain ⟨fd_check_number, F_check_number⟩ := c.defs _ (List.mem_of_getElem? (l := dps) (i := 2) rfl) rfl
  obtain ⟨fd_check_index, F_check_index⟩ := c.defs _ (List.mem_of_getElem? (l := dps) (i := 3) rfl) rfl
  obtain ⟨fd_check_row, F_check_row⟩ := c.defs _ (List.mem_of_getElem? (l := dps) (i := 4) rfl) rfl
  obtain ⟨fd_check_some, F_check_some⟩ := c.defs _ (List.mem_of_getElem? (l := dps) (i := 5) rfl) rfl
  obtain ⟨fd_check_count, F_check_count⟩ := c.defs _ (List.mem_of_getElem? (l := dps) (i := 6) rfl) rfl
  obtain ⟨fd_run_until_repeat, F_run_until_repeat⟩ := c.defs _ (List.mem_of_getElem? (l := dps) (i := 7) rfl) rfl
  obtain ⟨fd_same_tick, F_same_tick⟩ := c.defs _ (List.mem_of_getElem? (l := dps) (i := 8) rfl) rfl
  obtain ⟨fd_times_until, F_times_until⟩ := c.defs _ (List.mem_of_getElem? (l := dps) (i := 9) rfl) rfl
  obtain ⟨fd_nth_out, F_nth_out⟩ := c.defs _ (List.mem_of_getElem? (l := dps) (i := 10) rfl) rfl
  obtain ⟨fd_held_after, F_held_after⟩ := c.defs _ (List.mem_of_getElem? (l := dps) (i := 11) rfl) rfl
  obtain ⟨fd_find_cycle, F_find_cycle⟩ := c.defs _ (List.mem_of_getElem? (l := dps) (i := 12) rfl) rfl
  obtain ⟨fd_count_out, F_count_out⟩ := c.defs _ (List.mem_of_getElem? (l := dps) (i := 13) rfl) rfl
  obtain ⟨fd_Cell_call, F_Cell_call⟩ := c.defs _ (List.mem_of_getElem? (l := dps) (i := 14) rfl) rfl
  obtain ⟨fd_Cell_eq, F_Cell_eq⟩ := c.defs _ (List.mem_of_getElem? (l := dps) (i := 15) rfl) rfl
  obtain ⟨fd_Cell_neg, F_Cell_neg⟩ := c.defs _ (List.mem_of_getElem? (l := dps) (i := 16) rfl) rfl
  obtain ⟨fd_Cell_label, F_Cell_label⟩ := c.defs _ (List.mem_of_getElem? (l := dps) (i := 17) rfl) rfl
  obtain ⟨fd_Last_call, F_Last_call⟩ := c.defs _ (List.mem_of_getElem? (l := dps) (i := 18) rfl) rfl
  obtain ⟨fd_Last_eq, F_Last_eq⟩ := c.defs _ (List.mem_of_getElem? (l := dps) (i := 19) rfl) rfl
  obtain ⟨fd_Last_neg, F_Last_neg⟩ := c.defs _ (List.mem_of_getElem? (l := dps) (i := 20) rfl) rfl
  obtain ⟨fd_Last_label, F_Last_label⟩ := c.defs _ (List.mem_of_getElem? (l := dps) (i := 21) rfl) rfl
  obtain ⟨fd_Less_call, F_Less_call⟩ := c.defs _ (List.mem_of_getElem? (l := dps) (i := 22) rfl) rfl
  obtain ⟨fd_Less_eq, F_Less_eq⟩ := c.defs _ (List.mem_of_getElem? (l := dps) (i := 23) rfl) rfl
  obtain ⟨fd_Less_neg, F_Less_neg⟩ := c.defs _ (List.mem_of_getElem? (l := dps) (i := 24) rfl) rfl
  obtain ⟨fd_Less_label, F_Less_label⟩ := c.defs _ (List.mem_of_getElem? (l := dps) (i := 25) rfl) rfl
  obtain ⟨fd_Greater_call, F_Greater_call⟩ := c.defs _ (List.mem_of_getElem? (l := dps) (i := 26) rfl) rfl
  obtain ⟨fd_Greater_eq, F_Greater_eq⟩ := c.defs _ (List.mem_of_getElem? (l := dps) (i := 27) rfl) rfl
  obtain ⟨fd_Greater_neg, F_Greater_neg⟩ := c.defs _ (List.mem_of_getElem? (l := dps) (i := 28) rfl) rfl
  obtain ⟨fd_Greater_label, F_Greater_label⟩ := c.defs _ (List.mem_of_getElem? (l := dps) (i := 29) rfl) rfl
  obtain ⟨fd_Near_init, F_Near_init⟩ := c.defs _ (List.mem_of_getElem? (l := dps) (i := 30) rfl) rfl
  obtain ⟨fd_Near_call, F_Near_call⟩ := c.defs _ (List.mem_of_getElem? (l := dps) (i := 31) rfl) rfl
  obtain ⟨fd_Near_eq, F_Near_eq⟩ := c.defs _ (List.mem_of_getElem? (l := dps) (i := 32) rfl) rfl
  obtain ⟨fd_Near_neg, F_Near_neg⟩ := c.defs _ (List.mem_of_getElem? (l := dps) (i := 33) rfl) rfl
  obtain ⟨fd_Near_label, F_Near_label⟩ := c.defs _ (List.mem_of_getElem? (l := dps) (i := 34) rfl) rfl
  obtain ⟨fd_near_of, F_near_of⟩ := c.defs _ (List.mem_of_getElem? (l := dps) (i := 35) rfl) rfl
  obtain ⟨fd_cell_of, F_cell_of⟩ := c.defs _ (List.mem_of_getElem? (l := dps) (i := 36) rfl) rfl
  obtain ⟨fd_Chain_init, F_Chain_init⟩ := c.defs _ (List.mem_of_getElem? (l := dps) (i := 37) rfl) rfl
  obtain ⟨fd_Chain_parse, F_Chain_parse⟩ := c.defs _ (List.mem_of_getElem? (l := dps) (i := 38) rfl) rfl
  obtain ⟨fd_Chain_text, F_Chain_text⟩ := c.defs _ (List.mem_of_getElem? (l := dps) (i := 39) rfl) rfl
  obtain ⟨fd_Chain_empty, F_Chain_empty⟩ := c.defs _ (List.mem_of_getElem? (l := dps) (i := 40) rfl) rfl
  obtain ⟨fd_Chain_step, F_Chain_step⟩ := c.defs _ (List.mem_of_getElem? (l := dps) (i := 41) rfl) rfl
  obtain ⟨fd_Chain_call, F_Chain_call⟩ := c.defs _ (List.mem_of_getElem? (l := dps) (i := 42) rfl) rfl
  obtain ⟨fd_Chain_len, F_Chain_len⟩ := c.defs _ (List.mem_of_getElem? (l := dps) (i := 43) rfl) rfl
  obtain ⟨fd_Chain_getitem, F_Chain_getitem⟩ := c.defs _ (List.mem_of_getElem? (l := dps) (i := 44) rfl) rfl
  obtain ⟨fd_Chain_iter, F_Chain_iter⟩ := c.defs _ (List.mem_of_getElem? (l := dps) (i := 45) rfl) rfl
  obtain ⟨fd_Chain_rshift, F_Chain_rshift⟩ := c.defs _ (List.mem_of_getElem? (l := dps) (i := 46) rfl) rfl
  obtain ⟨fd_Chain_rrshift, F_Chain_rrshift⟩ := c.defs _ (List.mem_of_getElem? (l := dps) (i := 47) rfl) rfl
  obtain ⟨fd_Chain_neg, F_Chain_neg⟩ := c.defs _ (List.mem_of_getElem? (l := dps) (i := 48) rfl) rfl
  obtain ⟨fd_Chain_eq, F_Chain_eq⟩ := c.defs _ (List.mem_of_getElem? (l := dps) (i := 49) rfl) rfl
  obtain ⟨fd_is_out, F_is_out⟩ := c.defs _ (List.mem_of_getElem? (l := dps) (i := 50) rfl) rfl
  obtain ⟨fd_check_held, F_check_held⟩ := c.defs _ (List.mem_of_getElem? (l := dps) (i := 51) rfl) rfl
  obtain ⟨fd_cell_before, F_cell_before⟩ := c.defs _ (List.mem_of_getElem? (l := dps) (i := 52) rfl) rfl
  obtain ⟨fd_ways_back, F_ways_back⟩ := c.defs _ (List.mem_of_getElem? (l := dps) (i := 53) rfl) rfl
  obtain ⟨fd_earlier, F_earlier⟩ := c.defs _ (List.mem_of_getElem? (l := dps) (i := 54) rfl) rfl
  obtain ⟨fd__law_random, F__law_random⟩ := c.defs _ (List.mem_of_getElem? (l := dps) (i := 55) rfl) rfl
  obtain ⟨fd__law_below, F__law_below⟩ := c.defs _ (List.mem_of_getElem? (l := dps) (i := 56) rfl) rfl
  obtain ⟨fd__law_labels, F__law_labels⟩ := c.defs _ (List.mem_of_getElem? (l := dps) (i := 57) rfl) rfl
  obtain ⟨fd__law_row, F__law_row⟩ := c.defs _ (List.mem_of_getElem? (l := dps) (i := 58) rfl) rfl
  obtain ⟨fd__law_chain, F__law_chain⟩ := c.defs _ (List.mem_of_getElem? (l := dps) (i := 59) rfl) rfl
  obtain ⟨fd__law_opposite, F__law_opposite⟩ := c.defs _ (List.mem_of_getElem? (l := dps) (i := 60) rfl) rfl
  obtain ⟨fd__law_some_tick, F__law_some_tick⟩ := c.defs _ (List.mem_of_getElem? (l := dps) (i := 61) rfl) rfl
  obtain ⟨fd_law, F_law⟩ := c.defs _ (List.mem_of_getElem? (l := dps) (i := 62) rfl) rfl
  obtain ⟨t_LIMIT, c_LIMIT⟩ := He.int_ok X G (c.fact _ (List.mem_of_getElem? (l := fxs) (i := 61) rfl))
  obtain ⟨t_LONGEST_ROW, c_LONGEST_ROW⟩ := He.int_ok X G (c.fact _ (List.mem_of_getElem? (l := fxs) (i := 62) rfl))
  obtain ⟨t_LONGEST_REPEATED, c_LONGEST_REPEATED⟩ := He.int_ok X G (c.fact _ (List.mem_of_getElem? (l := fxs) (i := 63) rfl))
  obtain ⟨t_MOST_TICKS, c_MOST_TICKS⟩ := He.int_ok X G (c.fact _ (List.mem_of_getElem? (l := fxs) (i := 64) rfl))
  obtain ⟨t_MOST_DIGITS, c_MOST_DIGITS⟩ := He.int_ok X G (c.fact _ (List.mem_of_getElem? (l := fxs) (i := 65) rfl))
  obtain ⟨t_NEAR_START, c_NEAR_START⟩ := He.str_ok X G (c.fact _ (List.mem_of_getElem? (l := fxs) (i := 66) rfl))
  have e := hfa.symm.trans (He.glo_ok X G (c.fact _ (List.mem_of_getElem? (l := fxs) (i := 48) rfl)))
  cases e
  have b_is_within := F_is_within.binds (ps := ["value", "least", "most"]) fun _ _ _ _ _ _ us hl => match us, hl with | [_, _, _], _ => rfl
  have b_is_number := F_is_number.binds (ps := ["value"]) fun _ _ _ _ _ _ us hl => match us, hl with | [_], _ => rfl
  have b_check_number := F_check_number.binds (ps := ["value"]) fun _ _ _ _ _ _ us hl => match us, hl with | [_], _ => rfl
  have b_check_index := F_check_index.binds (ps := ["index", "many"]) fun _ _ _ _ _ _ us hl => match us, hl with | [_, _], _ => rfl
  have b_check_row := F_check_row.binds (ps := ["row", "longest"]) fun _ _ _ _ _ _ us hl => match us, hl with | [_, _], _ => rfl
  have b_check_some := F_check_some.binds (ps := ["row", "longest"]) fun _ _ _ _ _ _ us hl => match us, hl with | [_, _], _ => rfl
  have b_check_count := F_check_count.binds (ps := ["value", "least"]) fun _ _ _ _ _ _ us hl => match us, hl with | [_, _], _ => rfl
  have b_run_until_repeat := F_run_until_repeat.binds (ps := ["chain", "row"]) fun _ _ _ _ _ _ us hl => match us, hl with | [_, _], _ => rfl
  have b_same_tick := F_same_tick.binds (ps := ["tick", "start", "end"]) fun _ _ _ _ _ _ us hl => match us, hl with | [_, _, _], _ => rfl
  have b_times_until := F_times_until.binds (ps := ["ticks", "at", "start", "end"]) fun _ _ _ _ _ _ us hl => match us, hl with | [_, _, _, _], _ => rfl
  have b_nth_out := F_nth_out.binds (ps := ["chain", "row", "number"]) fun _ _ _ _ _ _ us hl => match us, hl with | [_, _, _], _ => rfl
  have b_held_after := F_held_after.binds (ps := ["chain", "row", "ticks"]) fun _ _ _ _ _ _ us hl => match us, hl with | [_, _, _], _ => rfl
  have b_find_cycle := F_find_cycle.binds (ps := ["chain", "row"]) fun _ _ _ _ _ _ us hl => match us, hl with | [_, _], _ => rfl
  have b_count_out := F_count_out.binds (ps := ["chain", "row", "ticks"]) fun _ _ _ _ _ _ us hl => match us, hl with | [_, _, _], _ => rfl
  have b_Cell_call := F_Cell_call.binds (ps := ["self", "held", "came"]) fun _ _ _ _ _ _ us hl => match us, hl with | [_, _, _], _ => rfl
  have b_Cell_eq := F_Cell_eq.binds (ps := ["self", "other"]) fun _ _ _ _ _ _ us hl => match us, hl with | [_, _], _ => rfl
  have b_Cell_neg := F_Cell_neg.binds (ps := ["self"]) fun _ _ _ _ _ _ us hl => match us, hl with | [_], _ => rfl
  have b_Cell_label := F_Cell_label.binds (ps := ["self"]) fun _ _ _ _ _ _ us hl => match us, hl with | [_], _ => rfl
  have b_Last_call := F_Last_call.binds (ps := ["self", "held", "came"]) fun _ _ _ _ _ _ us hl => match us, hl with | [_, _, _], _ => rfl
  have b_Last_eq := F_Last_eq.binds (ps := ["self", "other"]) fun _ _ _ _ _ _ us hl => match us, hl with | [_, _], _ => rfl
  have b_Last_neg := F_Last_neg.binds (ps := ["self"]) fun _ _ _ _ _ _ us hl => match us, hl with | [_], _ => rfl
  have b_Last_label := F_Last_label.binds (ps := ["self"]) fun _ _ _ _ _ _ us hl => match us, hl with | [_], _ => rfl
  have b_Less_call := F_Less_call.binds (ps := ["self", "held", "came"]) fun _ _ _ _ _ _ us hl => match us, hl with | [_, _, _], _ => rfl
  have b_Less_eq := F_Less_eq.binds (ps := ["self", "other"]) fun _ _ _ _ _ _ us hl => match us, hl with | [_, _], _ => rfl
  have b_Less_neg := F_Less_neg.binds (ps := ["self"]) fun _ _ _ _ _ _ us hl => match us, hl with | [_], _ => rfl
  have b_Less_label := F_Less_label.binds (ps := ["self"]) fun _ _ _ _ _ _ us hl => match us, hl with | [_], _ => rfl
  have b_Greater_call := F_Greater_call.binds (ps := ["self", "held", "came"]) fun _ _ _ _ _ _ us hl => match us, hl with | [_, _, _], _ => rfl
  have b_Greater_eq := F_Greater_eq.binds (ps := ["self", "other"]) fun _ _ _ _ _ _ us hl => match us, hl with | [_, _], _ => rfl
  have b_Greater_neg := F_Greater_neg.binds (ps := ["self"]) fun _ _ _ _ _ _ us hl => match us, hl with | [_], _ => rfl
  have b_Greater_label := F_Greater_label.binds (ps := ["self"]) fun _ _ _ _ _ _ us hl => match us, hl with | [_], _ => rfl
  have b_Near_init := F_Near_init.binds (ps := ["self", "mark"]) fun _ _ _ _ _ _ us hl => match us, hl with | [_, _], _ => rfl
  have b_Near_call := F_Near_call.binds (ps := ["self", "held", "came"]) fun _ _ _ _ _ _ us hl => match us, hl with | [_, _, _], _ => rfl
  have b_Near_eq := F_Near_eq.binds (ps := ["self", "other"]) fun _ _ _ _ _ _ us hl => match us, hl with | [_, _], _ => rfl
  have b_Near_neg := F_Near_neg.binds (ps := ["self"]) fun _ _ _ _ _ _ us hl => match us, hl with | [_], _ => rfl
  have b_Near_label := F_Near_label.binds (ps := ["self"]) fun _ _ _ _ _ _ us hl => match us, hl with | [_], _ => rfl
  have b_near_of := F_near_of.binds (ps := ["word"]) fun _ _ _ _ _ _ us hl => match us, hl with | [_], _ => rfl
  have b_cell_of := F_cell_of.binds (ps := ["word"]) fun _ _ _ _ _ _ us hl => match us, hl with | [_], _ => rfl
  have b_Chain_parse := F_Chain_parse.binds (ps := ["cls", "text"]) fun _ _ _ _ _ _ us hl => match us, hl with | [_, _], _ => rfl
  have b_Chain_text := F_Chain_text.binds (ps := ["self"]) fun _ _ _ _ _ _ us hl => match us, hl with | [_], _ => rfl
  have b_Chain_empty := F_Chain_empty.binds (ps := ["self"]) fun _ _ _ _ _ _ us hl => match us, hl with | [_], _ => rfl
  have b_Chain_step := F_Chain_step.binds (ps := ["self", "held", "came"]) fun _ _ _ _ _ _ us hl => match us, hl with | [_, _, _], _ => rfl
  have b_Chain_call := F_Chain_call.binds (ps := ["self", "row"]) fun _ _ _ _ _ _ us hl => match us, hl with | [_, _], _ => rfl
  have b_Chain_len := F_Chain_len.binds (ps := ["self"]) fun _ _ _ _ _ _ us hl => match us, hl with | [_], _ => rfl
  have b_Chain_getitem := F_Chain_getitem.binds (ps := ["self", "index"]) fun _ _ _ _ _ _ us hl => match us, hl with | [_, _], _ => rfl
  have b_Chain_rshift := F_Chain_rshift.binds (ps := ["self", "other"]) fun _ _ _ _ _ _ us hl => match us, hl with | [_, _], _ => rfl
  have b_Chain_neg := F_Chain_neg.binds (ps := ["self"]) fun _ _ _ _ _ _ us hl => match us, hl with | [_], _ => rfl
  have b_Chain_eq := F_Chain_eq.binds (ps := ["self", "other"]) fun _ _ _ _ _ _ us hl => match us, hl with | [_, _], _ => rfl
  have b_is_out := F_is_out.binds (ps := ["value"]) fun _ _ _ _ _ _ us hl => match us, hl with | [_], _ => rfl
  have b_check_held := F_check_held.binds (ps := ["held", "many"]) fun _ _ _ _ _ _ us hl => match us, hl with | [_, _], _ => rfl
  have b_cell_before := F_cell_before.binds (ps := ["cell", "kept", "passed"]) fun _ _ _ _ _ _ us hl => match us, hl with | [_, _, _], _ => rfl
  have b_ways_back := F_ways_back.binds (ps := ["chain", "held", "out", "fits"]) fun _ _ _ _ _ _ us hl => match us, hl with | [_, _, _, _], _ => rfl
  have b_earlier := F_earlier.binds (ps := ["chain", "held", "out"]) fun _ _ _ _ _ _ us hl => match us, hl with | [_, _, _], _ => rfl
  have b__law_random := F__law_random.binds (ps := ["_law_script", "_law_salt"]) fun _ _ _ _ _ _ us hl => match us, hl with | [_, _], _ => rfl
  have b__law_below := F__law_below.binds (ps := ["_law_d", "_law_limit"]) fun _ _ _ _ _ _ us hl => match us, hl with | [_, _], _ => rfl
  have b__law_labels := F__law_labels.binds (ps := ["_law_d", "_law_most"]) fun _ _ _ _ _ _ us hl => match us, hl with | [_, _], _ => rfl
  have b__law_row := F__law_row.binds (ps := ["_law_d", "_law_most"]) fun _ _ _ _ _ _ us hl => match us, hl with | [_, _], _ => rfl
  have b__law_chain := F__law_chain.binds (ps := ["_law_labels_here"]) fun _ _ _ _ _ _ us hl => match us, hl with | [_], _ => rfl
  have b__law_opposite := F__law_opposite.binds (ps := ["_law_label"]) fun _ _ _ _ _ _ us hl => match us, hl with | [_], _ => rfl
  have b__law_some_tick := F__law_some_tick.binds (ps := ["_law_d"]) fun _ _ _ _ _ _ us hl => match us, hl with | [_], _ => rfl
  have g_is_within := He.glo_ok X G (c.fact _ (List.mem_of_getElem? (l := fxs) (i := 20) rfl))
  have g_is_number := He.glo_ok X G (c.fact _ (List.mem_of_getElem? (l := fxs) (i := 21) rfl))
  have g_check_number := He.glo_ok X G (c.fact _ (List.mem_of_getElem? (l := fxs) (i := 22) rfl))
  have g_check_index := He.glo_ok X G (c.fact _ (List.mem_of_getElem? (l := fxs) (i := 23) rfl))
  have g_check_row := He.glo_ok X G (c.fact _ (List.mem_of_getElem? (l := fxs) (i := 24) rfl))
  have g_check_some := He.glo_ok X G (c.fact _ (List.mem_of_getElem? (l := fxs) (i := 25) rfl))
  have g_check_count := He.glo_ok X G (c.fact _ (List.mem_of_getElem? (l := fxs) (i := 26) rfl))
  have g_run_until_repeat := He.glo_ok X G (c.fact _ (List.mem_of_getElem? (l := fxs) (i := 27) rfl))
  have g_same_tick := He.glo_ok X G (c.fact _ (List.mem_of_getElem? (l := fxs) (i := 28) rfl))
  have g_times_until := He.glo_ok X G (c.fact _ (List.mem_of_getElem? (l := fxs) (i := 29) rfl))
  have g_nth_out := He.glo_ok X G (c.fact _ (List.mem_of_getElem? (l := fxs) (i := 30) rfl))
  have g_held_after := He.glo_ok X G (c.fact _ (List.mem_of_getElem? (l := fxs) (i := 31) rfl))
  have g_find_cycle := He.glo_ok X G (c.fact _ (List.mem_of_getElem? (l := fxs) (i := 32) rfl))
  have g_count_out := He.glo_ok X G (c.fact _ (List.mem_of_getElem? (l := fxs) (i := 33) rfl))
  have g_near_of := He.glo_ok X G (c.fact _ (List.mem_of_getElem? (l := fxs) (i := 34) rfl))
  have g_cell_of := He.glo_ok X G (c.fact _ (List.mem_of_getElem? (l := fxs) (i := 35) rfl))
  have g_is_out := He.glo_ok X G (c.fact _ (List.mem_of_getElem? (l := fxs) (i := 36) rfl))
  have g_check_held := He.glo_ok X G (c.fact _ (List.mem_of_getElem? (l := fxs) (i := 37) rfl))
  have g_cell_before := He.glo_ok X G (c.fact _ (List.mem_of_getElem? (l := fxs) (i := 38) rfl))
  have g_ways_back := He.glo_ok X G (c.fact _ (List.mem_of_getElem? (l := fxs) (i := 39) rfl))
  have g_earlier := He.glo_ok X G (c.fact _ (List.mem_of_getElem? (l := fxs) (i := 40) rfl))
  have g__law_random := He.glo_ok X G (c.fact _ (List.mem_of_getElem? (l := fxs) (i := 41) rfl))
  have g__law_below := He.glo_ok X G (c.fact _ (List.mem_of_getElem? (l := fxs) (i := 42) rfl))
  have g__law_labels := He.glo_ok X G (c.fact _ (List.mem_of_getElem? (l := fxs) (i := 43) rfl))
  have g__law_row := He.glo_ok X G (c.fact _ (List.mem_of_getElem? (l := fxs) (i := 44) rfl))
  have g__law_chain := He.glo_ok X G (c.fact _ (List.mem_of_getElem? (l := fxs) (i := 45) rfl))
  have g__law_opposite := He.glo_ok X G (c.fact _ (List.mem_of_getElem? (l := fxs) (i := 46) rfl))
  have g__law_some_tick := He.glo_ok X G (c.fact _ (List.mem_of_getElem? (l := fxs) (i := 47) rfl))
  have g_law := He.glo_ok X G (c.fact _ (List.mem_of_getElem? (l := fxs) (i := 48) rfl))
  refine ⟨fd_law, [He.cT K ("earlier", none)], spLaw K, fun p hp => ?_, fun p hp => ?_, fun p hp => ?_, fun s u => ?_, fun H a ns hl _ hT hS => ?_, fun base _ _ TB => ?_⟩
  · rw [List.mem_singleton.mp hp]
    exact c.empty ("earlier", none) (List.mem_of_getElem? (l := tfs) (i := 1) rfl)
  · rw [List.mem_singleton.mp hp]
    exact c.out ("earlier", none) (List.mem_of_getElem? (l := tfs) (i := 1) rfl)
  · rw [List.mem_singleton.mp hp]
    exact PySem.W.codeHd_of_K X (c.hd ("earlier", none) (List.mem_of_getElem? (l := tfs) (i := 1) rfl))
  · obtain ⟨⟨oc, od, kV, doc, pm, an, cdv, ct, osl, e, _⟩, _⟩ := F_law
    rw [e]
    exact .of_eq rfl
  · exact ⟨a, ns, rfl, hS, hl, hT _ (List.mem_of_getElem? (i := 0) rfl), fun _ => rfl⟩
  · have LB : LabelsOk PySem.Challenge.rw_siftchain_k32_whole_opposite_rows.prog w K mg base 1 := by
      intro k
      cases k with
      | first => exact ⟨_, _, ok_Cell_label F_Cell_label TC, b_Cell_label⟩
      | last => exact ⟨_, _, ok_Last_label F_Last_label TC, b_Last_label⟩
      | less => exact ⟨_, _, ok_Less_label F_Less_label TC, b_Less_label⟩
      | greater => exact ⟨_, _, ok_Greater_label F_Greater_label TC, b_Greater_label⟩
      | near => exact ⟨_, _, ok_Near_label F_Near_label TC, b_Near_label⟩
    have GI := ok_within (P := PySem.Challenge.rw_siftchain_k32_whole_opposite_rows.prog) (w := w) (base := base) F_is_within B
    have GW := ok_number (P := PySem.Challenge.rw_siftchain_k32_whole_opposite_rows.prog) (w := w) (base := base) F_is_number F_is_within B g_is_within c_LIMIT
    have GCN := ok_checknum F_check_number GW b_is_number F_is_number.kp g_is_number E0_InvalidNumber
    have GN := ok_ninit F_Near_init GCN b_check_number F_check_number.kp g_check_number TC
    have CO : CellsOk PySem.Challenge.rw_siftchain_k32_whole_opposite_rows.prog w K mg base 6 := by
      refine ⟨TC, fun k => ?_, fun k => ?_, fun k => ?_⟩
      · cases k with
        | first => exact (fnR_of (ok_Cell_call F_Cell_call B TC) b_Cell_call).mono (by decide)
        | last => exact (fnR_of (ok_Last_call F_Last_call B TC) b_Last_call).mono (by decide)
        | less => exact (fnR_of (ok_Less_call F_Less_call B TC) b_Less_call).mono (by decide)
        | greater => exact (fnR_of (ok_Greater_call F_Greater_call B TC) b_Greater_call).mono (by decide)
        | near => exact (fnR_of (ok_Near_call F_Near_call B TC) b_Near_call).mono (by decide)
      · cases k with
        | first => exact (fnR_of (ok_Cell_eq F_Cell_eq B TC LB) b_Cell_eq).mono (by decide)
        | last => exact (fnR_of (ok_Last_eq F_Last_eq B TC LB) b_Last_eq).mono (by decide)
        | less => exact (fnR_of (ok_Less_eq F_Less_eq B TC LB) b_Less_eq).mono (by decide)
        | greater => exact (fnR_of (ok_Greater_eq F_Greater_eq B TC LB) b_Greater_eq).mono (by decide)
        | near => exact (fnR_of (ok_Near_eq F_Near_eq B TC LB) b_Near_eq).mono (by decide)
      · cases k with
        | first => exact (fnR_of (ok_Cell_neg F_Cell_neg TC) b_Cell_neg).mono (by decide)
        | last => exact (fnR_of (ok_Last_neg F_Last_neg TC) b_Last_neg).mono (by decide)
        | less => exact (fnR_of (ok_Less_neg F_Less_neg TC) b_Less_neg).mono (by decide)
        | greater => exact (fnR_of (ok_Greater_neg F_Greater_neg TC) b_Greater_neg).mono (by decide)
        | near => exact (fnR_of (ok_Near_neg F_Near_neg TC GN b_Near_init) b_Near_neg).mono (by decide)
    have GB := ok_below (P := PySem.Challenge.rw_siftchain_k32_whole_opposite_rows.prog) (w := w) (base := base) F__law_below B
    have GR := ok_random (P := PySem.Challenge.rw_siftchain_k32_whole_opposite_rows.prog) (w := w) (base := base) F__law_random B
    have NO := ok_near F_near_of B TC GW b_is_number F_is_number.kp g_is_number GN b_Near_init c_NEAR_START c_MOST_DIGITS
    have CE := ok_cellof F_cell_of TC TCC NO b_near_of F_near_of.kp g_near_of c_NEAR_START
    have CK := ok_check F_check_row B h_enumerate GW b_is_number F_is_number.kp g_is_number
    have GCI := ok_checkidx F_check_index GI b_is_within F_is_within.kp g_is_within E0_UnknownCell
    have CI := ok_cinit (P := PySem.Challenge.rw_siftchain_k32_whole_opposite_rows.prog) (w := w) (base := base) F_Chain_init B h_enumerate TC CH
    have CS := ok_step F_Chain_step B h_zip CO CH
    have CEm := ok_empty (P := PySem.Challenge.rw_siftchain_k32_whole_opposite_rows.prog) (w := w) (base := base) F_Chain_empty B CH
    have CC : ChainOk PySem.Challenge.rw_siftchain_k32_whole_opposite_rows.prog w K mg base 10 := by
      refine ⟨CH, ⟨_, _, (ok_text F_Chain_text TC CH LB).mono (by decide), b_Chain_text⟩, ⟨_, _, CEm.mono (by decide), b_Chain_empty⟩, ?_, ?_, ?_, ?_, ?_, ?_⟩
      · exact (fnR_of (ok_ccall F_Chain_call CH (by decide) CK b_check_row F_check_row.kp g_check_row c_LONGEST_ROW CS b_Chain_step CEm b_Chain_empty) b_Chain_call).mono (by decide)
      · exact (fnR_of (ok_clen F_Chain_len B CH) b_Chain_len).mono (by decide)
      · exact (fnR_of (ok_citem F_Chain_getitem B CH GCI b_check_index F_check_index.kp g_check_index) b_Chain_getitem).mono (by decide)
      · exact (fnR_of (ok_shift F_Chain_rshift B CH CI) b_Chain_rshift).mono (by decide)
      · exact (fnR_of (ok_cneg (by decide) F_Chain_neg CO CH CI) b_Chain_neg).mono (by decide)
      · exact (fnR_of (ok_ceq F_Chain_eq B CO CH) b_Chain_eq).mono (by decide)
    have CP := (fnR_of (ok_parse F_Chain_parse B h_enumerate TC CH CI CE b_cell_of F_cell_of.kp g_cell_of) b_Chain_parse).mono (by decide : _ ≤ 10)
    have GC := ok_chainof F__law_chain CC CP
    have GL := ok_labels F__law_labels B GB b__law_below F__law_below.kp g__law_below
    have GRw := ok_row F__law_row B GB b__law_below F__law_below.kp g__law_below
    have GSM := ok_some F_check_some CK b_check_row F_check_row.kp g_check_row
    have CEmK := ok_emptyK (P := PySem.Challenge.rw_siftchain_k32_whole_opposite_rows.prog) (w := w) (base := base) F_Chain_empty B CH
    have CSK := ok_stepK F_Chain_step B h_zip CO CH
    have CCK := (fnR_of (ok_ccallK F_Chain_call CH (by decide) CK b_check_row F_check_row.kp g_check_row c_LONGEST_ROW CSK b_Chain_step CEmK b_Chain_empty) b_Chain_call).mono (by decide : _ ≤ 10)
    have GOp := ok_opp (P := PySem.Challenge.rw_siftchain_k32_whole_opposite_rows.prog) (w := w) (base := base) (mg := mg) F__law_opposite B
    have U_law_opposite := Fu.mk GOp b__law_opposite F__law_opposite.kp g__law_opposite
    have GTk := Fu.mk (ok_tick F__law_some_tick (Fu.mk GB b__law_below F__law_below.kp g__law_below)) b__law_some_tick F__law_some_tick.kp g__law_some_tick
    have USM := Fu.mk GSM b_check_some F_check_some.kp g_check_some
    have GRP := (ok_rep (by decide) F_run_until_repeat B CH CSK b_Chain_step CEmK b_Chain_empty).mono (by decide : _ ≤ 12)
    have URP := Fu.mk GRP b_run_until_repeat F_run_until_repeat.kp g_run_until_repeat
    have GCO := ok_count (P := PySem.Challenge.rw_siftchain_k32_whole_opposite_rows.prog) (w := w) (base := base) F_check_count c_MOST_TICKS GI b_is_within F_is_within.kp g_is_within
    have UCO := Fu.mk GCO b_check_count F_check_count.kp g_check_count
    have GST := ok_same (P := PySem.Challenge.rw_siftchain_k32_whole_opposite_rows.prog) (w := w) (base := base) (mg := mg) F_same_tick
    have UST := Fu.mk GST b_same_tick F_same_tick.kp g_same_tick
    have GTU := ok_tim (P := PySem.Challenge.rw_siftchain_k32_whole_opposite_rows.prog) (w := w) (base := base) (mg := mg) F_times_until
    have UTU := Fu.mk GTU b_times_until F_times_until.kp g_times_until
    have GFC := ok_cyc (by decide) F_find_cycle B c_LONGEST_REPEATED USM URP
    have UFC := Fu.mk GFC b_find_cycle F_find_cycle.kp g_find_cycle
    have GNO := ok_nth (by decide) F_nth_out B CC c_LONGEST_REPEATED USM UCO UST URP
    have UNO := Fu.mk GNO b_nth_out F_nth_out.kp g_nth_out
    have GHA := ok_heldA (by decide) F_held_after B c_LONGEST_REPEATED USM UCO UST URP
    have UHA := Fu.mk GHA b_held_after F_held_after.kp g_held_after
    have GCT := ok_cnt (by decide) F_count_out B h_enumerate h_sorted c_LONGEST_REPEATED USM UCO UTU URP
    have UCT := Fu.mk GCT b_count_out F_count_out.kp g_count_out
    have GIO := ok_isout F_is_out (Fu.mk GW b_is_number F_is_number.kp g_is_number)
    have UIO := Fu.mk GIO b_is_out F_is_out.kp g_is_out
    have GCHd := ok_checkheld F_check_held B h_enumerate UIO
    have UCHd := Fu.mk GCHd b_check_held F_check_held.kp g_check_held
    have GCB := (ok_cb F_cell_before CO).mono (by decide : _ ≤ 10)
    have UCB := Fu.mk GCB b_cell_before F_cell_before.kp g_cell_before
    have GWB := ok_wb (k0 := 10) (by decide) F_ways_back B h_reversed CC UCB
    have GEA := ok_ear (T := TL1 K) (by decide) F_earlier rfl B h_sorted CC UCHd GWB b_ways_back F_ways_back.kp g_ways_back (TB _ (List.mem_of_getElem? (i := 0) rfl)) (List.mem_of_getElem? (i := 0) rfl) (fun p hp _ => by rw [List.mem_singleton.mp hp])
    have UEA := Fu.mk GEA b_earlier F_earlier.kp g_earlier
    have U_law_random := Fu.mk GR b__law_random F__law_random.kp g__law_random
    have U_law_below := Fu.mk GB b__law_below F__law_below.kp g__law_below
    have U_law_labels := Fu.mk GL b__law_labels F__law_labels.kp g__law_labels
    have U_law_row := Fu.mk GRw b__law_row F__law_row.kp g__law_row
    have U_law_chain := Fu.mk GC b__law_chain F__law_chain.kp g__law_chain
    exact ok_law F_law B CC CCK U_law_random U_law_below U_law_labels U_law_row U_law_chain U_law_opposite GTk UFC UCT UNO UHA UEA
end SC
open PySem PySem.W PySem.Calls PyProof.Rows
set_option maxRecDepth 100000 in
set_option maxHeartbeats 0 in
theorem PySem.Challenge.cw_siftchain_k32_whole_opposite_rows_holds : PySem.Challenge.rw_siftchain_k32_whole_opposite_rows.Holds := by
  w_on; o_law
  refine HandSHeadRun.head_any (r := SC.R) (q := view SC.R.prog [52]) (H := SC.hk) (ob := SC.ob) (M := 12000) (loose := SC.loose) (d := HandSHeadRun.topDef SC.R.prog 52) (kwd := []) SC.ob_eq
    (by kernel_rfl) (fun s => by kernel_rfl) SC.run (by kernel_rfl) (by kernel_rfl) (by kernel_rfl) (by rfl) (by first | assumption | decide +kernel) (by decide +kernel) ⟨rfl, rfl, rfl, rfl, rfl, by decide +kernel⟩ ?hw ?hc
  case hw => w_witness2
  case hc =>
    refine LamX.walk_ofTsE (l := PySem.Challenge.rw_siftchain_k32_whole_opposite_rows) (n := 63) (k := 20) (x := "_law_script") (CX := fun _ => L2.CX0) rfl (by decide) (by kernel_rfl) ⟨rfl, by decide, by decide⟩ ?F (fun _ _ _ _ _ z => z)
    intro w mg fa h Y G hmg0
    obtain ⟨K, KX, c⟩ := Y
    have en : (HandSHeadRun.topDef SC.R.prog 52).name = ("law" : PySem.Str) := by kernel_rfl
    rw [en] at hmg0
    exact ⟨K, KX, SC.lawAt w K h mg fa KX G hmg0 c⟩
