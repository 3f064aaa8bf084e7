import PyProof.Rows.All
import Wide.All
import OpenK.AllK
import Wide.FinOn
import KE.KStateDown
import HandS.ForMost
import HandS.ForExc
import HandS.Lambda
import HandS.EndTab
import HandS.HeadWalk
import HandS.Head0
import HandS.Head1
import HandS.Head2
import HandS.HeadHook1
import HandS.HeadHook2
import HandS.HeadHook3
import HandS.HeadHook4
import HandS.Property
import HandS.OwnEq
import HandS.Star
import HandS.ClsMeth
import HandS.IsInst
import HandS.ExcIs
import HandS.ExcField
import HandS.ExcOwn
import HandS.FStr
import HandS.Wide
import HandS.StrMore
import HandS.TupMul
import HandS.Codes
import KE.GoesMore
import KE.GoesEnum
import HandS.Zip
import HandS.TupAny
import HandS.SlotsOwn
import HandS.NoneIn
import HandS.SortInts
import HandS.Style
import PySem.Challenge.RW_siftchain_k01_cells_and_labels
set_option Elab.async false
set_option linter.all false
set_option maxRecDepth 100000
set_option maxHeartbeats 2000000
/-! # Siftchain: what all rows share. Part A: the head's facts by names -/
namespace SC
open PySem PySem.Spec PyProof.Rows L2
/-! ### where defs stand -/
/-- the getter of a property of a class, the def of a classmethod -/
def recA (K : PySem.W.Frag) (p : Addr) (T : String) : Addr := match PySem.W.recIn K p T with
  | some (.ref g :: _) => g
  | _ => 0
def pgA (K : PySem.W.Frag) (C f : Str) : Addr := recA K (He.ma K (He.ga K C) f) "property"
def cmP (K : PySem.W.Frag) (C f : Str) : Addr := match PySem.W.findCls K (.ref (He.ga K C)) (.type "type") f with
  | some (.get _ (.ref p) _ _) => p
  | _ => 0
def cgA (K : PySem.W.Frag) (C f : Str) : Addr := recA K (cmP K C f) "classmethod"
structure DP where
  adr : PySem.W.Frag → Addr
  nm : Str
  qn : Str
  st : Stmt
abbrev Seen : Type := Option (Str × Str × Arguments × FuncBody × Scope × Addr × List (Str × Addr) × Value × Addr)
def seen (K : PySem.W.Frag) (a : Addr) : Seen := match K.lookup a with
  | some ob => (match ob.data with
    | .func q => some (q.name, q.qualname, q.params, q.body, q.scope, q.globals, q.closure, q.defaults, q.builtins)
    | _ => none)
  | none => none
def DP.want (d : DP) : Seen := some (d.nm, d.qn, defArgs d.st, .stmts (defBody d.st), defScope d.st, mainGlobals, [], .none, builtinsNs)
def DP.good (K : PySem.W.Frag) (d : DP) : Bool := match K.lookup (d.adr K) with
  | some ob => (match ob.data with
    | .func q => PySem.W.codeIn K q.code d.qn
    | _ => false)
  | none => false
theorem DP.toFun {K : PySem.W.Frag} {d : DP} (e : seen K (d.adr K) = d.want) (c : d.good K = true) : ∃ fd, Fun K d.nm d.qn d.st (d.adr K) fd := by
  unfold seen at e
  unfold DP.good at c
  cases q : K.lookup (d.adr K) with
  | none =>
    rw [q] at c
    cases c
  | some ob =>
    obtain ⟨oc, od, dt, sl⟩ := ob
    rw [q] at c e
    cases dt with
    | func fd =>
      obtain ⟨n1, n2, n3, n4, n5, n6, n7, n8, n9, n10, n11, n12, n13, n14, n15⟩ := fd
      simp only [DP.want, Option.some.injEq, Prod.mk.injEq] at e
      obtain ⟨h1, h2, h3, h4, h5, h6, h7, h8, h9⟩ := e
      subst h1 h2 h3 h4 h5 h6 h7 h8 h9
      refine ⟨_, ⟨oc, od, n9, n10, n11, n12, n13, n14, sl, rfl, q, c⟩, ?_⟩
      unfold PySem.W.keepIn
      dsimp only
      rw [q]
    | _ => cases c
/-! ### facts -/
/-- a class: an own one by its name, a built-in one -/
inductive Cn where
  | g (x : Str)
  | t (n : String)
def Cn.v (K : PySem.W.Frag) : Cn → Value
  | .g x => .ref (He.ga K x)
  | .t n => .type n
inductive Fx where
  | fa (f : He.Fa)
  | prop (C f : Str)
  | con (C f : Str) (v : He.Dv)
  | mk0 (C : Str)
  | spec (C m : Str)
  | none_ (C m : Str) (id : String)
  | kit (a b : Cn) (r : Bool)
  | sub (a b : Cn) (r : Bool)
  | isi (C : Str)
  | cls (C : Str)
  | exk (D : Str)
  | cstr (C f z : Str)
  | cint (C f : Str) (i : Int)
  | cmet (C m : Str)
  | slf (C : Str)
def Fx.ok (K : PySem.W.Frag) : Fx → Bool
  | .fa f => f.ok K
  | .prop C f => He.eqO (PySem.W.findIn K (.ref (He.ga K C)) f) (some (some (.ref (He.ma K (He.ga K C) f)))) && (He.eqO (PySem.W.specialIn K (.ref (He.ma K (He.ga K C) f)) "__get__") (some (some (.builtin "property.__get__"))) &&
      (decide (PySem.W.takesIn K (.ref (He.ma K (He.ga K C) f)) = some true) && (match PySem.W.recIn K (He.ma K (He.ga K C) f) "property" with
        | some (.ref g :: _) => decide (g = pgA K C f)
        | _ => false)))
  | .con C f v => He.conB K C f v
  | .mk0 C => PySem.W.makesIn K (He.ga K C) && (He.eqO (PySem.W.findIn K (.ref (He.ga K C)) "__init__") (some (some (.builtin "object.__init__"))) && PySem.W.keepIn K (.ref (He.ga K C)))
  | .spec C m => He.eqO (PySem.W.findIn K (.ref (He.ga K C)) m) (some (some (.ref (He.ma K (He.ga K C) m)))) && (PySem.W.isFn K (.ref (He.ma K (He.ga K C) m)) && PySem.W.fnIn K (He.ma K (He.ga K C) m))
  | .none_ C m id => He.eqO (PySem.W.findIn K (.ref (He.ga K C)) m) (some (some (.builtin id)))
  | .kit a b r => decide (PySem.W.kitOne K (a.v K) (b.v K) = some r)
  | .sub a b r => decide (PySem.W.subIn K (a.v K) (b.v K) = some r)
  | .isi C => He.eqO (PySem.W.findIn K (.ref (He.ga K C)) "__class__") (some (some (.builtin "object.__class__"))) && (He.eqO (PySem.W.specialIn K (.builtin "object.__class__") "__get__") (some (some (.builtin "getset_descriptor.__get__"))) &&
      (decide (PySem.W.takesIn K (.builtin "object.__class__") = some true) && decide (PySem.W.mroIn K (He.ga K C) (.type "object") = some true)))
  | .cls C => PySem.W.readsIn K (He.ga K C) (.type "type") && He.eqO (PySem.W.specialIn K (.ref (He.ga K C)) "__getattribute__") (some (some (.builtin "type.__getattribute__")))
  | .exk D => He.eqO (PySem.W.findIn K (.ref (He.ga K D)) "__getattribute__") (some (some (.builtin "BaseException.__getattribute__"))) && (He.eqO (PySem.W.findIn K (.ref (He.ga K D)) "__getattr__") (some none) &&
      (decide (PySem.W.subIn K (.ref (He.ga K D)) (.type "BaseException") = some true) && PySem.W.hasDictIn K (He.ga K D)))
  | .cstr C f z => (match PySem.W.findCls K (.ref (He.ga K C)) (.type "type") f with
      | some (.val (.str y _)) => decide (y = z)
      | _ => false)
  | .cint C f i => (match PySem.W.findCls K (.ref (He.ga K C)) (.type "type") f with
      | some (.val (.int j _)) => decide (j = i)
      | _ => false)
  | .cmet C m => (match PySem.W.findCls K (.ref (He.ga K C)) (.type "type") m with
      | some (.get g (.ref p) o c) => decide (g = .builtin "classmethod.__get__" ∧ p = cmP K C m ∧ o = .none ∧ c = .ref (He.ga K C))
      | _ => false) && ((match PySem.W.recIn K (cmP K C m) "classmethod" with
      | some (.ref g :: _) => decide (g = cgA K C m)
      | _ => false) && PySem.W.fnIn K (cgA K C m))
  | .slf C => PySem.W.selfFirst K (He.ga K C)
section
variable {K : PySem.W.Frag}
open He (ba eqO_ok)
theorem fx_prop {C f : Str} (h : (Fx.prop C f).ok K = true) : PropOf K (He.ga K C) f (He.ma K (He.ga K C) f) (pgA K C f) := by
  obtain ⟨h1, h⟩ := ba h
  obtain ⟨h2, h⟩ := ba h
  obtain ⟨h3, h4⟩ := ba h
  refine ⟨eqO_ok h1, eqO_ok h2, of_decide_eq_true h3, ?_⟩
  split at h4
  · rename_i g r e
    exact ⟨r, by rw [e, of_decide_eq_true h4]⟩
  · cases h4
theorem fx_con {C f : Str} {v : He.Dv} (h : (Fx.con C f v).ok K = true) (hc : PySem.W.copiedNames.contains f = false := by decide) : ∃ u, Con K (He.ga K C) f (v.v K) u := He.conB_ok h hc
theorem fx_cls {C : Str} (h : (Fx.cls C).ok K = true) : ClX.CRead K (He.ga K C) (.type "type") := by
  obtain ⟨h1, h2⟩ := ba h
  exact ⟨h1, eqO_ok h2⟩
theorem fx_cstr {C f z : Str} (h : (Fx.cstr C f z).ok K = true) : ∃ u, ClX.CVal K (He.ga K C) (.type "type") f (.str z) u := by
  have h : (match PySem.W.findCls K (.ref (He.ga K C)) (.type "type") f with
      | some (.val (.str y _)) => decide (y = z)
      | _ => false) = true := h
  split at h
  · rename_i y t e
    rw [of_decide_eq_true h] at e
    exact ⟨_, e, t, rfl⟩
  · cases h
theorem fx_cint {C f : Str} {i : Int} (h : (Fx.cint C f i).ok K = true) : ∃ u, ClX.CVal K (He.ga K C) (.type "type") f (.int i) u := by
  have h : (match PySem.W.findCls K (.ref (He.ga K C)) (.type "type") f with
      | some (.val (.int j _)) => decide (j = i)
      | _ => false) = true := h
  split at h
  · rename_i y t e
    rw [of_decide_eq_true h] at e
    exact ⟨_, e, t, rfl⟩
  · cases h
theorem fx_cmet {C m : Str} (h : (Fx.cmet C m).ok K = true) : ClX.CMet K (He.ga K C) (.type "type") m (cmP K C m) (cgA K C m) := by
  obtain ⟨h1, h⟩ := ba h
  obtain ⟨h2, h3⟩ := ba h
  refine ⟨?_, ?_, h3⟩
  · split at h1
    · rename_i g p o c e
      obtain ⟨e1, e2, e3, e4⟩ := of_decide_eq_true h1
      rw [e, e1, e2, e3, e4]
    · cases h1
  · split at h2
    · rename_i g r e
      exact ⟨r, by rw [e, of_decide_eq_true h2]⟩
    · cases h2
theorem fx_slf {C : Str} (h : (Fx.slf C).ok K = true) : PySem.W.selfFirst K (He.ga K C) = true := h
/-- a class without an __init__ of its own -/
structure Mk0 (K : PySem.W.Frag) (C : Addr) : Prop where
  makes : PySem.W.makesIn K C = true
  init : PySem.W.findIn K (.ref C) "__init__" = some (some (.builtin "object.__init__"))
  kp : PySem.W.keepIn K (.ref C) = true
theorem fx_mk0 {C : Str} (h : (Fx.mk0 C).ok K = true) : Mk0 K (He.ga K C) := by
  obtain ⟨h1, h⟩ := ba h
  obtain ⟨h2, h3⟩ := ba h
  exact ⟨h1, eqO_ok h2, h3⟩
/-- a special method -/
structure Spec (K : PySem.W.Frag) (C : Addr) (m : Str) (f : Addr) : Prop where
  at_ : PySem.W.findIn K (.ref C) m = some (some (.ref f))
  fn : PySem.W.isFn K (.ref f) = true
  fi : PySem.W.fnIn K f = true
theorem fx_spec {C m : Str} (h : (Fx.spec C m).ok K = true) : Spec K (He.ga K C) m (He.ma K (He.ga K C) m) := by
  obtain ⟨h1, h⟩ := ba h
  obtain ⟨h2, h3⟩ := ba h
  exact ⟨eqO_ok h1, h2, h3⟩
theorem fx_none {C m : Str} {id : String} (h : (Fx.none_ C m id).ok K = true) : PySem.W.findIn K (.ref (He.ga K C)) m = some (some (.builtin id)) := eqO_ok h
theorem fx_kit {a b : Cn} {r : Bool} (h : (Fx.kit a b r).ok K = true) : PySem.W.kitOne K (a.v K) (b.v K) = some r := of_decide_eq_true h
theorem fx_sub {a b : Cn} {r : Bool} (h : (Fx.sub a b r).ok K = true) : PySem.W.subIn K (a.v K) (b.v K) = some r := of_decide_eq_true h
/-- what isinstance asks of an instance's class -/
structure Isi (K : PySem.W.Frag) (C : Addr) : Prop where
  ha : PySem.W.findIn K (.ref C) "__class__" = some (some (.builtin "object.__class__"))
  hn : PySem.W.specialIn K (.builtin "object.__class__") "__get__" = some (some (.builtin "getset_descriptor.__get__"))
  ht : PySem.W.takesIn K (.builtin "object.__class__") = some true
  hm : PySem.W.mroIn K C (.type "object") = some true
theorem fx_isi {C : Str} (h : (Fx.isi C).ok K = true) : Isi K (He.ga K C) := by
  obtain ⟨h1, h⟩ := ba h
  obtain ⟨h2, h⟩ := ba h
  obtain ⟨h3, h4⟩ := ba h
  exact ⟨eqO_ok h1, eqO_ok h2, of_decide_eq_true h3, of_decide_eq_true h4⟩
theorem fx_exk {D : Str} (h : (Fx.exk D).ok K = true) (i : (Fx.isi D).ok K = true) : ExcC K (He.ga K D) := by
  obtain ⟨h1, h⟩ := ba h
  obtain ⟨h2, h⟩ := ba h
  obtain ⟨h3, h4⟩ := ba h
  have q := fx_isi i
  exact ⟨eqO_ok h1, eqO_ok h2, of_decide_eq_true h3, h4, q.ha, q.hn, q.ht, q.hm⟩
end
/-! ### the Hook -/
def tabGood (g : Addr → Option Obj) (K : PySem.W.Frag) (tf : List He.Defn) : Bool := He.tabsB g tf K
/-- what the names reach in n steps, and the interpreter's own statics (a class's reading looks there) -/
def asC (g : Addr → Option Obj) (n : Nat) : List Addr := He.asD g n ++ [cStatics]
abbrev Look : Type := List Seen × Bool
def look (n : Nat) (ds : List DP) (fs : List Fx) (tf : List He.Defn) (g : Addr → Option Obj) : Look :=
  (ds.map fun d => seen (He.frT g (asC g n)) (d.adr (He.frT g (asC g n))),
   (ds.all fun d => d.good (He.frT g (asC g n))) && ((fs.all fun f => f.ok (He.frT g (asC g n))) && He.tabsB g tf (He.frT g (asC g n))))
def lookWant (ds : List DP) : Look := (ds.map DP.want, true)
/-- what the head tells: the defs, the facts, the tables (empty, not in K) -/
structure Says (ds : List DP) (fs : List Fx) (tf : List He.Defn) (h : Heap) (K : PySem.W.Frag) : Prop where
  defs : ∀ d ∈ ds, ∃ fd, Fun K d.nm d.qn d.st (d.adr K) fd
  fact : ∀ f ∈ fs, f.ok K = true
  hd : ∀ p ∈ tf, PySem.W.codeHdIn K (He.cT K p).1 (He.cT K p).2 = true
  out : ∀ p ∈ tf, K.lookup (He.cT K p).2 = none
  empty : ∀ p ∈ tf, h.get? (He.cT K p).2 = some { cls := .none, data := .fields #[] }
theorem map_get {α β : Type} {f g : α → β} : ∀ {l : List α}, l.map f = l.map g → ∀ x ∈ l, f x = g x
  | [], _, _, h => by cases h
  | a :: r, e, x, h => by
    rw [List.map_cons, List.map_cons] at e
    injection e with e1 e2
    rcases List.mem_cons.mp h with q | q
    · rw [q]
      exact e1
    · exact map_get e2 x q
theorem says_of {n : Nat} {ds : List DP} {fs : List Fx} {tf : List He.Defn} {h : Heap} (e : look n ds fs tf h.get? = lookWant ds) : Says ds fs tf h (He.frT h.get? (asC h.get? n)) := by
  have e1 : ds.map (fun d => seen (He.frT h.get? (asC h.get? n)) (d.adr (He.frT h.get? (asC h.get? n)))) = ds.map DP.want := congrArg (fun z : Look => z.1) e
  have e2 : ((ds.all fun d => d.good (He.frT h.get? (asC h.get? n))) && ((fs.all fun f => f.ok (He.frT h.get? (asC h.get? n))) && He.tabsB h.get? tf (He.frT h.get? (asC h.get? n)))) = true := congrArg (fun z : Look => z.2) e
  obtain ⟨h1, h2⟩ := He.ba e2
  obtain ⟨h3, h4⟩ := He.ba h2
  generalize asC h.get? n = as at *
  have key : ∀ p ∈ tf, PySem.W.codeHdIn (He.frT h.get? as) (He.cT (He.frT h.get? as) p).1 (He.cT (He.frT h.get? as) p).2 = true ∧ ∃ o, h.get? (He.cT (He.frT h.get? as) p).2 = some o ∧ He.emptyTab o = true := fun p hp => by
    obtain ⟨k1, k2⟩ := He.ba (List.all_eq_true.mp h4 p hp)
    refine ⟨k1, ?_⟩
    cases q : h.get? (He.cT (He.frT h.get? as) p).2 with
    | none =>
      rw [q] at k2
      cases k2
    | some o =>
      rw [q] at k2
      exact ⟨o, rfl, k2⟩
  refine ⟨fun d hd => DP.toFun (map_get e1 d hd) (List.all_eq_true.mp h1 d hd), fun f hf => List.all_eq_true.mp h3 f hf, fun p hp => (key p hp).1, fun p hp => ?_, fun p hp => ?_⟩
  · obtain ⟨_, o, q, z⟩ := key p hp
    exact He.frT_none q z
  · obtain ⟨_, o, q, z⟩ := key p hp
    rw [q, He.emptyTab_eq z]
def hook (n : Nat) (ds : List DP) (fs : List Fx) (tf : List He.Defn) : PySem.W.Hook where
  α := Look
  obs := fun s => look n ds fs tf s.heap.get?
  val := fun _ => lookWant ds
  says := fun _ h => ∃ K : PySem.W.Frag, K.In h ∧ Says ds fs tf h K
  of := fun _ _ e => ⟨_, He.frT_in, says_of e⟩
  keeps := fun _ _ _ ⟨K, hK, c⟩ k => ⟨K, PySem.W.Frag.In.keeps hK k, ⟨c.defs, c.fact, c.hd, c.out, fun p hp => k _ _ (c.empty p hp)⟩⟩
theorem look_eq {n : Nat} {ds : List DP} {fs : List Fx} {tf : List He.Defn} {g : Addr → Option Obj} {s : Shared} (h : ∀ a, g a = s.heap.get? a) : look n ds fs tf g = (hook n ds fs tf).obs s := by
  have e : g = s.heap.get? := funext h
  rw [e] <;> rfl
end SC
set_option maxRecDepth 100000
set_option maxHeartbeats 2000000
/-! # Part B: rules of our own: objects without an __init__, cells of five kinds through one rule each -/
namespace SC
open PySem PySem.Spec PyProof.Rows L2
/-! ### C() without an __init__ -/
def tMk0 (C : Addr) : TE := fun _ H Q => ∀ x dx, H x = none → H dx = none → dx ≠ x → Q (.ref x) (upd (upd H dx (.own x)) x (.ins C dx []))
theorem pe_mk0 {X : Cx} {C : Addr} {x : Str} {p pos : Pos} (M : Mk0 X.K C) (hg : Gl X x) (hm : X.mg x = some (.ref C)) (hdb : (x == ("__debug__" : Str)) = false := by decide) : PE X (.Call (.Name x p) [] [] pos) (tMk0 C) := by
  refine ⟨fun pins s σ H Q I h => ?_⟩
  refine wpAny_Call_Name_kw (ld_glob I hg hm ?_ hdb)
  refine PySem.W.callWith_K0 I.kIn M.kp (wpAny_call ?_)
  have J := Inv.made (C := C) I
  have hq := h (s.heap.objs.size + 1) s.heap.objs.size (I.hok.fresh (Nat.le_succ _)) (I.hok.fresh (Nat.le_refl _)) (Nat.ne_of_lt (Nat.lt_succ_self _))
  have at1 : ((s.heap.push PySem.W.emptyDict).push (PySem.W.instObj C s.heap.objs.size)).get? (s.heap.objs.size + 1) = some (PySem.W.instObj C s.heap.objs.size) := by
    have z := Heap.get?_push_size (s.heap.push PySem.W.emptyDict) (o := PySem.W.instObj C s.heap.objs.size) rfl
    rwa [Heap.size_push] at z
  have Y := PySem.W.makes_of (M := model X.prog X.w) I.kIn M.makes
  refine make_map0 I.kIn M.makes M.init (fun self => PySem.W.Looks.of_pure (PySem.W.oi_bind self)) ?_
  have ty : PySem.W.Looks (model X.prog X.w) ((s.heap.push PySem.W.emptyDict).push (PySem.W.instObj C s.heap.objs.size)) (typeOf (.ref (s.heap.objs.size + 1))) (.ref C) := (PySem.W.Looks.ld at1).andThen .now
  have isO : PySem.W.Looks (model X.prog X.w) ((s.heap.push PySem.W.emptyDict).push (PySem.W.instObj C s.heap.objs.size)) (isInstance (.ref (s.heap.objs.size + 1)) (.type "object")) true :=
    ty.andThen (Y.top.keeps fun b o e => Heap.get?_push_of_some _ (Heap.get?_push_of_some _ e))
  refine codeAny_call_builtin PySem.W.oi_plain PySem.W.entry_oi (@PySem.W.check_slot (model X.prog X.w) _ _ _ "object.__init__" "object" "__init__" (.ref (s.heap.objs.size + 1)) [] [] _ PySem.W.oi_kind PySem.W.oi_split isO (PySem.W.oi_args _) ?_)
  rw [PySem.W.oi_run]
  exact wpAny_pure ⟨rfl, .ref (s.heap.objs.size + 1), _, J, rfl, hq⟩
/-! ### rules -/
inductive Kd where
  | first | last | less | greater | near
  deriving DecidableEq
def Kd.cn : Kd → Str
  | .first => "Cell"
  | .last => "Last"
  | .less => "Less"
  | .greater => "Greater"
  | .near => "Near"
def Kd.word : Kd → Str
  | .first => "first"
  | .last => "last"
  | .less => "less"
  | .greater => "greater"
  | .near => "near"
inductive Rule where
  | first | last | less | greater | near (m : Int)
  deriving DecidableEq
def Rule.kd : Rule → Kd
  | .first => .first
  | .last => .last
  | .less => .less
  | .greater => .greater
  | .near _ => .near
def Rule.fs : Rule → List (Str × V)
  | .near m => [("mark", .int m)]
  | _ => []
def Rule.ok : Rule → Prop
  | .near m => -1000000000 ≤ m ∧ m ≤ 1000000000
  | _ => True
def numS (m : Int) : Str := Str.ofString (toString m)
def Rule.label : Rule → Str
  | .near m => ("near:" : Str) ++ numS m
  | r => r.kd.word
def absI (i : Int) : Int := if i < 0 then -i else i
def Rule.keep (r : Rule) (h c : Int) : Int × Int := match r with
  | .first => (h, c)
  | .last => (c, h)
  | .less => if c < h then (c, h) else (h, c)
  | .greater => if h < c then (c, h) else (h, c)
  | .near m => if absI (c - m) < absI (h - m) then (c, h) else (h, c)
def Rule.neg : Rule → Rule
  | .less => .greater
  | .greater => .less
  | .near m => .near (-m)
  | r => r
theorem Rule.neg_ok {r : Rule} (h : r.ok) : r.neg.ok := by
  cases r with
  | near m =>
    obtain ⟨h1, h2⟩ := h
    constructor <;> omega
  | _ => trivial
theorem Rule.neg_neg (r : Rule) : r.neg.neg = r := by
  cases r with
  | near m => show Rule.near (- -m) = Rule.near m; rw [Int.neg_neg]
  | _ => rfl
/-- at a stands a cell of the rule r -/
def CellAt (K : PySem.W.Frag) (H : Hp) (a : Addr) (r : Rule) : Prop := r.ok ∧ ∃ dx, H a = some (.ins (He.ga K r.kd.cn) dx r.fs)
theorem CellAt.same {K : PySem.W.Frag} {H H' : Hp} {a : Addr} {r : Rule} (c : CellAt K H a r) (s : Same H H') : CellAt K H' a r := by
  obtain ⟨h1, dx, h2⟩ := c
  exact ⟨h1, dx, s _ _ h2⟩
theorem CellAt.keep {K : PySem.W.Frag} {H H' : Hp} {a : Addr} {r : Rule} (c : CellAt K H a r) (s : ∀ o, H a = some o → H' a = some o) : CellAt K H' a r := by
  obtain ⟨h1, dx, h2⟩ := c
  exact ⟨h1, dx, s _ h2⟩
/-! ### what each method of a kind promises -/
def spCall (K : PySem.W.Frag) (k : Kd) : Sp := fun vs H Q _ => ∃ (a : Addr) (r : Rule) (h c : Int), vs = [.ref a, .int h, .int c] ∧ r.kd = k ∧ CellAt K H a r ∧ ∀ p, H p = none → Q (.ref p) (upd H p (.tup [.int (r.keep h c).1, .int (r.keep h c).2]))
def spLabel (K : PySem.W.Frag) (k : Kd) : Sp := fun vs H Q _ => ∃ (a : Addr) (r : Rule), vs = [.ref a] ∧ r.kd = k ∧ CellAt K H a r ∧ Q (.str r.label) H
def spNeg (K : PySem.W.Frag) (k : Kd) : Sp := fun vs H Q _ => ∃ (a : Addr) (r : Rule), vs = [.ref a] ∧ r.kd = k ∧ CellAt K H a r ∧ ∀ p H', H p = none → Same H H' → CellAt K H' p r.neg → Q (.ref p) H'
def spEq (K : PySem.W.Frag) (k : Kd) : Sp := fun vs H Q _ => ∃ (a : Addr) (r : Rule) (y : V), vs = [.ref a, y] ∧ r.kd = k ∧ CellAt K H a r ∧
  ((∃ (b : Addr) (r' : Rule), y = .ref b ∧ CellAt K H b r' ∧ Q (.bl (decide (r.label = r'.label))) H) ∨ ∃ z : Str, y = .str z ∧ Q (.bl false) H)
/-- what the written part says of the cells' classes -/
structure Cells (K : PySem.W.Frag) (mg : Str → Option Value) : Prop where
  cls : ∀ k : Kd, Cls K (He.ga K k.cn)
  isi : ∀ k : Kd, Isi K (He.ga K k.cn)
  glo : ∀ k : Kd, mg k.cn = some (.ref (He.ga K k.cn))
  call : ∀ k : Kd, Spec K (He.ga K k.cn) "__call__" (He.ma K (He.ga K k.cn) "__call__")
  eq : ∀ k : Kd, Spec K (He.ga K k.cn) "__eq__" (He.ma K (He.ga K k.cn) "__eq__")
  neg : ∀ k : Kd, Spec K (He.ga K k.cn) "__neg__" (He.ma K (He.ga K k.cn) "__neg__")
  ne : ∀ k : Kd, PySem.W.findIn K (.ref (He.ga K k.cn)) "__ne__" = some (some (.builtin "object.__ne__"))
  prop : ∀ k : Kd, PropOf K (He.ga K k.cn) "label" (He.ma K (He.ga K k.cn) "label") (pgA K k.cn "label")
  kind : ∀ k : Kd, ∃ u, Con K (He.ga K k.cn) "KIND" (.str k.word) u
  sub : ∀ k l : Kd, PySem.W.subIn K (.ref (He.ga K k.cn)) (.ref (He.ga K l.cn)) = some (decide (k = l) || decide (l = .first))
  subS : ∀ k : Kd, PySem.W.subIn K (.type "str") (.ref (He.ga K k.cn)) = some false
  kit : ∀ k : Kd, PySem.W.kitOne K (.ref (He.ga K k.cn)) (.ref (He.ga K "Cell")) = some true
  kitS : PySem.W.kitOne K (.type "str") (.ref (He.ga K "Cell")) = some false
  mk0 : ∀ k : Kd, k ≠ .near → Mk0 K (He.ga K k.cn)
  mkN : Mk K (He.ga K "Near") (He.ma K (He.ga K "Near") "__init__")
  noM : NoAttr K (He.ga K "Near") "mark"
theorem Cells.inj {K : PySem.W.Frag} {mg : Str → Option Value} (T : Cells K mg) {k l : Kd} (e : He.ga K k.cn = He.ga K l.cn) : k = l := by
  have h1 := T.sub k l
  have h2 := T.sub l k
  have h3 := T.sub l l
  have h4 := T.sub k k
  rw [e] at h1 h2 h4
  rw [h3] at h1 h2
  cases k <;> cases l <;> first | rfl | (revert h1 h2; decide)
/-- an instance of a cell's class, by its type -/
theorem CellAt.ty {K : PySem.W.Frag} {mg : Str → Option Value} {H : Hp} {a : Addr} {r : Rule} (T : Cells K mg) (c : CellAt K H a r) : TyX K H (.ref a) (.ref (He.ga K r.kd.cn)) := by
  obtain ⟨_, dx, h⟩ := c
  have q := T.isi r.kd
  exact .base (.ins h (T.cls _) q.ha q.hn q.ht q.hm)
/-- how the methods keep their promises, at level n -/
structure CellsOk (P : Program) (w : World) (K : PySem.W.Frag) (mg : Str → Option Value) (base : Heap) (n : Nat) : Prop where
  t : Cells K mg
  call : ∀ k : Kd, FnR P w K mg base CX0 n (He.ma K (He.ga K k.cn) "__call__") (spCall K k)
  eq : ∀ k : Kd, FnR P w K mg base CX0 n (He.ma K (He.ga K k.cn) "__eq__") (spEq K k)
  neg : ∀ k : Kd, FnR P w K mg base CX0 n (He.ma K (He.ga K k.cn) "__neg__") (spNeg K k)
/-- .. the labels alone (what __eq__ itself leans on) -/
def LabelsOk (P : Program) (w : World) (K : PySem.W.Frag) (mg : Str → Option Value) (base : Heap) (n : Nat) : Prop :=
  ∀ k : Kd, ∃ fd ps, FnOk P w K mg base CX0 n (pgA K k.cn "label") fd ps (spLabel K k) ∧ Binds K fd ps []
section
variable {X : Cx} {n : Nat}
/-! ### e.label -/
def tLabel (K : PySem.W.Frag) (ta : TE) : TE := fun σ H Q => ta σ H fun x H1 => ∃ (a : Addr) (r : Rule), x = .ref a ∧ CellAt K H1 a r ∧ Q (.str r.label) H1
theorem pe_label {e : Expr} {ta : TE} {pos : Pos} (T : Cells X.K X.mg) (L : LabelsOk X.prog X.w X.K X.mg X.base n) (hr : Room (n + 1) X.A) (he : PE X e ta) (hab : attributeBase e "label" X.env (eval e X.env) = eval e X.env := by rfl) :
    PE X (.Attribute e "label" pos) (tLabel X.K ta) := by
  refine ⟨fun pins s σ H Q I h => attr_of hab (thn (he.run pins s σ H _ I h) fun u s1 hh => ?_)⟩
  obtain ⟨x, H1, I1, rx, a, r, ex, ca, q⟩ := hh
  subst ex
  obtain rfl : u = Value.ref a := rx
  obtain ⟨fd, ps, F, hb⟩ := L r.kd
  obtain ⟨hok, dx, ea⟩ := id ca
  exact getprop_ok (dvs := []) (E := E0) I1 ea (T.cls r.kd) (T.prop r.kd) F hr hb .nil pass0 ⟨a, r, rfl, rfl, ca, q⟩
/-! ### e.KIND -/
def tKind (K : PySem.W.Frag) (ta : TE) : TE := fun σ H Q => ta σ H fun x H1 => ∃ (a : Addr) (r : Rule), x = .ref a ∧ CellAt K H1 a r ∧ Q (.str r.kd.word) H1
theorem fs_kind (r : Rule) : r.fs.lookup ("KIND" : Str) = none := by
  cases r with
  | near m =>
    have hk : (("KIND" : Str) == "mark") = false := by decide +kernel
    show List.lookup ("KIND" : Str) [(("mark" : Str), V.int m)] = none
    simp [List.lookup, hk]
  | _ => rfl
theorem pe_kind {e : Expr} {ta : TE} {pos : Pos} (T : Cells X.K X.mg) (he : PE X e ta) (hab : attributeBase e "KIND" X.env (eval e X.env) = eval e X.env := by rfl) : PE X (.Attribute e "KIND" pos) (tKind X.K ta) := by
  refine ⟨fun pins s σ H Q I h => attr_of hab (thn (he.run pins s σ H _ I h) fun u s1 hh => ?_)⟩
  obtain ⟨x, H1, I1, rx, a, r, ex, ⟨_, dx, ea⟩, q⟩ := hh
  subst ex
  obtain rfl : u = Value.ref a := rx
  obtain ⟨u0, k⟩ := T.kind r.kd
  exact getcon_ok I1 ea (T.cls r.kd) k (fs_kind r) fun s2 I2 => ⟨_, H1, I2, k.rel, q⟩
/-! ### e(h, c) -/
def tCellCall (K : PySem.W.Frag) (tf : TE) (t : TA) : TE := fun σ H Q => tf σ H fun y H1 => ∃ a : Addr, y = .ref a ∧ t σ H1 fun vs H2 => ∃ (r : Rule) (h c : Int), vs = [.int h, .int c] ∧ CellAt K H2 a r ∧
  ∀ p, H2 p = none → Q (.ref p) (upd H2 p (.tup [.int (r.keep h c).1, .int (r.keep h c).2]))
theorem pe_cellCall {fe e : Expr} {es : List Expr} {tf : TE} {t : TA} {pos : Pos} (hf : PE X fe tf) (T : CellsOk X.prog X.w X.K X.mg X.base n) (hr : Room n X.A) (ha : PA X (e :: es) t)
    (ht : eval (.Call fe (e :: es) [] pos) X.env = (do callWith pos (← eval fe X.env) [] (backTo pos (starEach (e :: es) X.env)) (backToKw pos (keywordEach [] X.env))) := by rfl)
    (he : starEach (e :: es) X.env = (false, eval e X.env) :: starEach es X.env := by rfl) (hpl : (backTo pos (starEach es X.env)).any (·.1) = false := by rfl) : PE X (.Call fe (e :: es) [] pos) (tCellCall X.K tf t) := by
  refine ⟨fun pins s σ H Q I h => Call_ (thn (hf.run pins s σ H _ I h) fun u s1 hh => ?_) ht⟩
  obtain ⟨y, H1, I1, ry, a, ey, q⟩ := hh
  subst ey
  obtain rfl : u = Value.ref a := ry
  refine StX.callO_with (thn (ha.run pos pins s1 σ H1 _ I1 q) fun us s2 hh2 => ?_) he hpl
  obtain ⟨vs, H2, I2, rv, r, h1, c1, ev, ca, q2⟩ := hh2
  subst ev
  obtain ⟨_, dx, ha2⟩ := id ca
  have hi : StX.InsC X H2 a (He.ga X.K r.kd.cn) := .inr ⟨dx, _, ha2⟩
  obtain ⟨ox, od, J, hd⟩ := StX.insC_at I2 hi
  have sc := T.t.call r.kd
  exact ⟨⟨_, ox, od, J, hd⟩, StX.run_callO (E := E0) ⟨sc.at_, sc.fn, sc.fi⟩ (T.call r.kd) hr pass0 I2 hi rv ⟨a, r, h1, c1, rfl, rfl, ca, q2⟩⟩
/-! ### -e -/
def rNegCell (K : PySem.W.Frag) : V → Hp → VK → Prop := fun x H Q => ∃ (a : Addr) (r : Rule), x = .ref a ∧ CellAt K H a r ∧ ∀ p H', H p = none → Same H H' → CellAt K H' p r.neg → Q (.ref p) H'
theorem un_negCell (T : CellsOk X.prog X.w X.K X.mg X.base n) (hr : Room n X.A) : UnR X (unaryOp .USub) (rNegCell X.K) := by
  intro pins s σ H x v Q I rx h
  obtain ⟨a, r, ex, ca, q⟩ := h
  subst ex
  obtain rfl : v = Value.ref a := rx
  obtain ⟨_, dx, ha⟩ := id ca
  obtain ⟨mA, O, _⟩ := ins_get I.hok ha
  obtain ⟨od, J, _⟩ := O.look
  obtain ⟨m, hF⟩ := I.fr
  have sc := T.t.neg r.kd
  exact PySem.W.ksp_neg hF I.ok.mod.kin J sc.at_ sc.fn (wpAny_call (run_fnR (E := E0) (us := [.ref a]) (vs := [.ref a]) (T.neg r.kd) hr pass0 I (.cons rfl .nil) ⟨a, r, rfl, rfl, ca, q⟩))
end
/-! ### x == y where the right one's class is over the left one's: it is asked first -/
section
open PySem.W
variable {prog : Program} {w : World} {A : Around} {E : Value → Shared → Prop} {s : Shared} {K : Frag} {x y C D L f : Addr} {h₀ : Heap} {m : Str → Option Value} {ox oy : Obj} {od oe : Option Obj} {Q : Value → Shared → Prop}
theorem eq_right (hu : A.units < cLine) (X : K.In s.heap) (I : InstAt s.heap x ox C od) (J : InstAt s.heap y oy D oe) (hne : C ≠ D) (hsub : subIn K (.ref D) (.ref C) = some true)
    (hs : findIn K (.ref D) "__eq__" = some (some (.ref f))) (hf : isFn K (.ref f) = true) (h : wpAny (model prog w) A (call (.ref f) [.ref y, .ref x]) (PySem.W.CmpBack Q) E s) :
    wpAny (model prog w) A (richCompare .Eq (.ref x) (.ref y)) Q E s := by
  have one : wpAny (model prog w) A (tryCompare (.ref y) "__eq__" (.ref x)) (fun r s' => ∃ v, r = some v ∧ Q v s') E s := by
    unfold tryCompare
    refine wpAny_bind (ifBound_K X J hs hf (wpAny_mono h (fun v s1 hv => ?_) fun _ _ e => e))
    cases v <;> first | exact hv.elim | exact wpAny_pure ⟨_, rfl, hv⟩
  have hb : (Value.ref C != Value.ref D) = true := by
    simp only [bne_iff_ne, ne_eq]
    intro z
    exact hne (Value.ref.inj z)
  unfold richCompare
  simp only [oneThing_ref]
  refine wpAny_holding (wpAny_bind (wpAny_cRoomFor hu ?_))
  refine wpAny_bind (I.type.here (wpAny_bind (J.type.here ?_)))
  rw [hb]
  simp only [if_true]
  refine wpAny_bind ((looks_subIn X hsub).here ?_)
  simp only [if_true]
  refine wpAny_bind (wpAny_mono one (fun r s1 z => ?_) fun _ _ e => e)
  obtain ⟨v, rfl, hq⟩ := z
  dsimp only
  first
    | exact wpAny_bind (wpAny_rule (wpAny_pure hq))
    | (wp_walk; exact hq)
/-- x != y by object's own, over the class's == -/
theorem ne_bind (self : Value) : bindSpecial (.builtin "object.__ne__") self = pure (.builtin "object.__ne__", [self]) := PySem.F.cmp_object.ne.bind self
theorem ne_plain : plainId "object.__ne__" = true := PySem.F.cmp_object.ne.plain
theorem ne_own (hu : A.units + 1 < cLine) (X : K.In s.heap) (I : InstAt s.heap x ox C od) (J : InstAt s.heap y oy C oe) (hm : mroIn K C (.type "object") = some true)
    (hn : findIn K (.ref C) "__ne__" = some (some (.builtin "object.__ne__"))) (hs : findIn K (.ref C) "__eq__" = some (some (.ref f))) (hf : isFn K (.ref f) = true)
    (h : wpAny (model prog w) A.in1 (call (.ref f) [.ref x, .ref y]) (fun v s' => ∃ b, v = .bool b ∧ Q (.bool (!b)) s') E s) :
    wpAny (model prog w) A (richCompare .NotEq (.ref x) (.ref y)) Q E s := by
  have inner : wpAny (model prog w) A.in1 (Builtin.«object.__ne__» ⟨[.ref x, .ref y], []⟩) (fun fin s' => ∃ b, fin = .done (.ret (.bool (!b))) ∧ Q (.bool (!b)) s') E s := by
    unfold Builtin.«object.__ne__»
    refine wpAny_bind (wpAny_of_eq (a := ((Value.ref x : Value), [Value.ref y])) (by first | rfl | (simp only [slotArgs]; rfl)) ?_)
    refine wpAny_bind (wpAny_cRoomFor hu ?_)
    refine wpAny_bind (ifBound_K X I hs hf (wpAny_mono h (fun v s1 hv => ?_) fun _ _ e => e))
    obtain ⟨b, rfl, q⟩ := hv
    refine wpAny_bind (wpAny_truthy_bool ?_)
    exact wpAny_pure ⟨b, rfl, q⟩
  have isO : Looks (model prog w) s.heap (isInstance (.ref x) (.type "object")) true := I.type.andThen (looks_mroIn X hm)
  have called : wpAny (model prog w) A (call (.builtin "object.__ne__") [.ref x, .ref y]) (fun v s' => ∃ b, v = .bool (!b) ∧ Q (.bool (!b)) s') E s := by
    refine wpAny_call (codeAny_call_builtin ne_plain PySem.F.cmpEntry_ne (@check_slot (model prog w) _ _ _ "object.__ne__" "object" "__ne__" (.ref x) [.ref y] [] _ PySem.F.cmpKind_ne PySem.F.cmpSplit_ne isO (PySem.F.cmpArgs_ne _ _) ?_))
    refine wpAny_mono inner (fun fin s1 z => ?_) fun _ _ e => e
    obtain ⟨b, rfl, q⟩ := z
    exact ⟨b, rfl, q⟩
  have bound : wpAny (model prog w) A (callSpecialIfBound? (.ref x) "__ne__" [.ref y]) (fun r s' => ∃ b, r = some (.bool (!b)) ∧ Q (.bool (!b)) s') E s := by
    simp only [callSpecialIfBound?, bindSpecialIfBound?]
    refine wpAny_holding (wpAny_bind (wpAny_bind (wpAny_bind (I.type.here ((looks_findIn X hn).here ?_)))))
    refine wpAny_bind (wpAny_askSetting (wpAny_ite ?_))
    have fin : wpAny (model prog w) A (call (.builtin "object.__ne__") ([.ref x] ++ [.ref y]) >>= fun v => pure (some v)) (fun r s' => ∃ b, r = some (.bool (!b)) ∧ Q (.bool (!b)) s') E s :=
      wpAny_bind (wpAny_mono called (fun v s1 z => wpAny_pure (by obtain ⟨b, rfl, q⟩ := z; exact ⟨b, rfl, q⟩)) fun _ _ e => e)
    have lk : Looks (model prog w) s.heap (bindSpecial (.builtin "object.__ne__") (.ref x)) (.builtin "object.__ne__", [.ref x]) := Looks.of_pure (ne_bind _)
    split
    · exact wpAny_bind (lk.here (wpAny_pure (by exact fin)))
    · exact wpAny_tryCatch (wpAny_bind (lk.here (wpAny_pure (by exact fin))))
  unfold richCompare
  simp only [oneThing_ref]
  refine wpAny_holding (wpAny_bind (wpAny_cRoomFor (Nat.lt_of_succ_lt hu) ?_))
  refine wpAny_bind (I.type.here (wpAny_bind (J.type.here ?_)))
  rw [show (Value.ref C != Value.ref C) = false from by simp]
  simp only [Bool.false_eq_true, if_false]
  refine wpAny_bind (wpAny_pure ?_)
  simp only [Bool.false_eq_true, if_false]
  refine wpAny_bind ?_
  unfold tryCompare
  refine wpAny_bind (wpAny_mono bound (fun r s1 z => ?_) fun _ _ e => e)
  obtain ⟨b, rfl, q⟩ := z
  exact wpAny_pure (wpAny_pure q)
end
section
variable {X : Cx} {n : Nat}
/-! ### x == y, x != y of cells -/
def rEqCell (K : PySem.W.Frag) : R2 := fun x y H Q => ∃ (a : Addr) (r : Rule), x = .ref a ∧ CellAt K H a r ∧
  ((∃ (b : Addr) (r' : Rule), y = .ref b ∧ CellAt K H b r' ∧ Q (.bl (decide (r.label = r'.label))) H) ∨ ∃ z : Str, y = .str z ∧ Q (.bl false) H)
def rNeCell (K : PySem.W.Frag) : R2 := fun x y H Q => ∃ (a : Addr) (r : Rule) (b : Addr) (r' : Rule), x = .ref a ∧ y = .ref b ∧ r.kd = r'.kd ∧ CellAt K H a r ∧ CellAt K H b r' ∧ Q (.bl (!decide (r.label = r'.label))) H
theorem cell_inst {pins : List (Addr × Obj)} {σ : L2.St} {H : Hp} {s : Shared} {a : Addr} {r : Rule} (I : Inv X pins σ H s) (c : CellAt X.K H a r) : ∃ ox od, PySem.W.InstAt s.heap a ox (He.ga X.K r.kd.cn) od := by
  obtain ⟨_, dx, ha⟩ := c
  obtain ⟨mA, O, _⟩ := ins_get I.hok ha
  obtain ⟨od, J, _⟩ := O.look
  exact ⟨_, _, J⟩
/-- a bool comes back -/
theorem back_of {pins : List (Addr × Obj)} {σ : L2.St} {H : Hp} {s : Shared} {f : Addr} {sp : Sp} {us : List Value} {vs : List V} {Q : VK} (F : FnR X.prog X.w X.K X.mg X.base CX0 n f sp) (hr : Room n X.A) (I : Inv X pins σ H s) (rv : Vals vs us)
    (h : sp vs H (fun v H' => ∃ b, v = .bl b ∧ Q v H') E0) : wpAny (model X.prog X.w) X.A (call (.ref f) us) (fun v s' => ∃ b, v = .bool b ∧ EP X pins σ Q (.bool b) s') X.xe s := by
  refine wpAny_mono (wpAny_call (run_fnR (E := E0) F hr pass0 I rv h)) (fun v s1 z => ?_) fun _ _ e => e
  obtain ⟨y, H1, I1, r1, b, ey, q⟩ := z
  subst ey
  obtain rfl : v = Value.bool b := r1
  exact ⟨b, rfl, .bl b, H1, I1, rfl, q⟩
theorem op_eqCell (T : CellsOk X.prog X.w X.K X.mg X.base n) (hr : Room n X.A) : OpR X (compareOp .Eq) (rEqCell X.K) := by
  intro pins s σ H x y u v Q I rx ry h
  obtain ⟨a, r, ex, ca, h⟩ := h
  subst ex
  obtain rfl : u = Value.ref a := rx
  obtain ⟨ox, od, J⟩ := cell_inst I ca
  obtain ⟨m, hF⟩ := I.fr
  show wpAny (model X.prog X.w) X.A (richCompare .Eq (.ref a) v) (EP X pins σ Q) X.xe s
  rcases h with ⟨b, r', ey, cb, q⟩ | ⟨z, ey, q⟩
  · subst ey
    obtain rfl : v = Value.ref b := ry
    obtain ⟨oy, oe, J'⟩ := cell_inst I cb
    have left : wpAny (model X.prog X.w) X.A (call (.ref (He.ma X.K (He.ga X.K r.kd.cn) "__eq__")) [.ref a, .ref b]) (PySem.W.CmpBack (EP X pins σ Q)) X.xe s := by
      refine wpAny_mono (back_of (Q := Q) (us := [.ref a, .ref b]) (vs := [.ref a, .ref b]) (T.eq r.kd) hr I (.cons rfl (.cons rfl .nil)) ⟨a, r, .ref b, rfl, rfl, ca, .inl ⟨b, r', rfl, cb, _, rfl, q⟩⟩) (fun v s1 z => ?_) fun _ _ e => e
      obtain ⟨b, rfl, z⟩ := z
      exact z
    have right : wpAny (model X.prog X.w) X.A (call (.ref (He.ma X.K (He.ga X.K r'.kd.cn) "__eq__")) [.ref b, .ref a]) (PySem.W.CmpBack (EP X pins σ Q)) X.xe s := by
      have e : decide (r'.label = r.label) = decide (r.label = r'.label) := by
        by_cases e : r.label = r'.label
        · rw [decide_eq_true e, decide_eq_true e.symm]
        · rw [decide_eq_false e, decide_eq_false (fun z => e z.symm)]
      refine wpAny_mono (back_of (Q := Q) (us := [.ref b, .ref a]) (vs := [.ref b, .ref a]) (T.eq r'.kd) hr I (.cons rfl (.cons rfl .nil)) ⟨b, r', .ref a, rfl, rfl, cb, .inl ⟨a, r, rfl, ca, _, rfl, by rw [e]; exact q⟩⟩) (fun v s1 z => ?_) fun _ _ e => e
      obtain ⟨b, rfl, z⟩ := z
      exact z
    have sc := T.t.eq r.kd
    have sd := T.t.eq r'.kd
    by_cases hk : r.kd = r'.kd
    · refine PySem.W.cmp_K (op := .Eq) (tb := .ref (He.ga X.K r'.kd.cn)) hr.units0 hF I.ok.mod.kin J J'.type (by rw [hk]; simp [PySem.W.notFirst]) sc.at_ sc.fn left
    · by_cases h1 : r.kd = .first
      · refine eq_right hr.units0 I.kIn J J' (fun z => hk (T.t.inj z)) ?_ sd.at_ sd.fn right
        have z := T.t.sub r'.kd r.kd
        rw [decide_eq_true h1, Bool.or_true] at z
        exact z
      · refine PySem.W.cmp_K (op := .Eq) (tb := .ref (He.ga X.K r'.kd.cn)) hr.units0 hF I.ok.mod.kin J J'.type ?_ sc.at_ sc.fn left
        have z := T.t.sub r'.kd r.kd
        rw [decide_eq_false (fun e => hk e.symm), decide_eq_false h1] at z
        unfold PySem.W.notFirst
        rw [z]
        simp
  · subst ey
    obtain ⟨t, rfl⟩ := ry
    have left : wpAny (model X.prog X.w) X.A (call (.ref (He.ma X.K (He.ga X.K r.kd.cn) "__eq__")) [.ref a, .str z t]) (PySem.W.CmpBack (EP X pins σ Q)) X.xe s := by
      refine wpAny_mono (back_of (Q := Q) (us := [.ref a, .str z t]) (vs := [.ref a, .str z]) (T.eq r.kd) hr I (.cons rfl (.cons ⟨t, rfl⟩ .nil)) ⟨a, r, .str z, rfl, rfl, ca, .inr ⟨z, rfl, _, rfl, q⟩⟩) (fun v s1 z => ?_) fun _ _ e => e
      obtain ⟨b, rfl, z⟩ := z
      exact z
    have sc := T.t.eq r.kd
    refine PySem.W.cmp_K (op := .Eq) (tb := .type "str") hr.units0 hF I.ok.mod.kin J (PySem.W.Looks.of_pure rfl) ?_ sc.at_ sc.fn left
    unfold PySem.W.notFirst
    rw [T.t.subS r.kd]
    simp
theorem op_neCell (T : CellsOk X.prog X.w X.K X.mg X.base n) (hr : Room (n + 1) X.A) : OpR X (compareOp .NotEq) (rNeCell X.K) := by
  intro pins s σ H x y u v Q I rx ry h
  obtain ⟨a, r, b, r', ex, ey, hk, ca, cb, q⟩ := h
  subst ex ey
  obtain rfl : u = Value.ref a := rx
  obtain rfl : v = Value.ref b := ry
  obtain ⟨ox, od, J⟩ := cell_inst I ca
  obtain ⟨oy, oe, J'⟩ := cell_inst I cb
  rw [← hk] at J'
  have sc := T.t.eq r.kd
  show wpAny (model X.prog X.w) X.A (richCompare .NotEq (.ref a) (.ref b)) (EP X pins σ Q) X.xe s
  refine ne_own (Nat.lt_of_le_of_lt (Nat.add_le_add_left (by decide : 1 ≤ 64) _) hr.units) I.kIn J J' (T.t.isi r.kd).hm (T.t.ne r.kd) sc.at_ sc.fn ?_
  have I1 := I.env0
  have hsp : spEq X.K r.kd [.ref a, .ref b] H (fun v H' => ∃ b, v = .bl b ∧ Q (.bl (!b)) H') E0 := ⟨a, r, .ref b, rfl, rfl, ca, .inl ⟨b, r', rfl, cb, _, rfl, q⟩⟩
  refine wpAny_call (codeAny_mono (T.eq r.kd X.A.in1 X.stack s H [.ref a, .ref b] [.ref a, .ref b] _ E0 hr.in1 I1.in1 (.cons rfl (.cons rfl .nil)) hsp) fun res s1 hq => ?_)
  cases res with
  | error e => exact False.elim hq
  | ok fl =>
    cases fl with
    | ret u =>
      obtain ⟨v, H1, J1, r1, bb, ev, q1⟩ := I.after hq
      subst ev
      obtain rfl : u = Value.bool bb := r1
      exact ⟨bb, rfl, .bl (!bb), H1, J1, rfl, q1⟩
    | next => exact False.elim hq
    | brk => exact False.elim hq
    | cont => exact False.elim hq
end
end SC
set_option maxRecDepth 100000
set_option maxHeartbeats 2000000
/-! # Part C: built-in names, small values, promises of the program's own helpers -/
namespace SC
open PySem PySem.Spec PyProof.Rows L2
/-- the built-in names are still built-in -/
structure Bln (mg : Str → Option Value) : Prop where
  isinstance : mg "isinstance" = none
  int : mg "int" = none
  bool : mg "bool" = none
  abs : mg "abs" = none
  str : mg "str" = none
  len : mg "len" = none
  range : mg "range" = none
  min : mg "min" = none
  max : mg "max" = none
  all : mg "all" = none
  list : mg "list" = none
  tuple : mg "tuple" = none
theorem boot_isinstance' : bootBuiltins "isinstance" = some (.builtin "isinstance") := by decide +kernel
theorem boot_int' : bootBuiltins "int" = some (.type "int") := by decide +kernel
theorem boot_bool' : bootBuiltins "bool" = some (.type "bool") := by decide +kernel
theorem boot_str' : bootBuiltins "str" = some (.type "str") := by decide +kernel
theorem boot_list' : bootBuiltins "list" = some (.type "list") := by decide +kernel
theorem boot_tuple' : bootBuiltins "tuple" = some (.type "tuple") := by decide +kernel
theorem boot_abs' : bootBuiltins "abs" = some (.builtin "abs") := by decide +kernel
theorem boot_len' : bootBuiltins "len" = some (.builtin "len") := by decide +kernel
theorem boot_min' : bootBuiltins "min" = some (.builtin "min") := by decide +kernel
theorem boot_max' : bootBuiltins "max" = some (.builtin "max") := by decide +kernel
theorem boot_all' : bootBuiltins "all" = some (.builtin "all") := by decide +kernel
/-- a value that is no int, by its type's name -/
def oddT : List String := ["bool", "NoneType", "str", "tuple", "list"]
theorem odd_int {K : PySem.W.Frag} {T : String} (h : T ∈ oddT) (hb : T ≠ "bool") : PySem.W.kitOne K (.type T) (.type "int") = some false := by
  simp only [oddT, List.mem_cons, List.mem_singleton, List.not_mem_nil, or_false] at h
  rcases h with rfl | rfl | rfl | rfl | rfl
  · exact absurd rfl hb
  all_goals exact kit_ty (by decide +kernel)
/-- is_within's promise -/
def spWithin (K : PySem.W.Frag) : Sp := fun vs H Q _ => ∃ (v : V) (lo hi : Int), vs = [v, .int lo, .int hi] ∧
  ((∃ i : Int, v = .int i ∧ Q (.bl (decide (lo ≤ i) && decide (i ≤ hi))) H) ∨ ∃ T : String, T ∈ oddT ∧ TyX K H v (.type T) ∧ Q (.bl false) H)
def spNumber (K : PySem.W.Frag) : Sp := fun vs H Q _ => ∃ v : V, vs = [v] ∧
  ((∃ i : Int, v = .int i ∧ Q (.bl (decide (-1000000000 ≤ i) && decide (i ≤ 1000000000))) H) ∨ ∃ T : String, T ∈ oddT ∧ TyX K H v (.type T) ∧ Q (.bl false) H)
/-- Near.__init__ -/
def numOk (i : Int) : Prop := -1000000000 ≤ i ∧ i ≤ 1000000000
def spNearInit (K : PySem.W.Frag) : Sp := fun vs H Q E => ∃ (a dx : Addr) (v : V), vs = [.ref a, v] ∧ H a = some (.ins (He.ga K "Near") dx []) ∧
  ((∃ i : Int, v = .int i ∧ (numOk i → Q .non (upd H a (.ins (He.ga K "Near") dx [("mark", .int i)]))) ∧ (¬ numOk i → E (.ref (He.ga K "InvalidNumber")) none H)) ∨
    ∃ T : String, T ∈ oddT ∧ TyX K H v (.type T) ∧ E (.ref (He.ga K "InvalidNumber")) none H)
/-- check_number, check_index -/
def spCheckNum (K : PySem.W.Frag) : Sp := fun vs H Q E => ∃ v : V, vs = [v] ∧
  ((∃ i : Int, v = .int i ∧ (numOk i → Q .non H) ∧ (¬ numOk i → E (.ref (He.ga K "InvalidNumber")) none H)) ∨ ∃ T : String, T ∈ oddT ∧ TyX K H v (.type T) ∧ E (.ref (He.ga K "InvalidNumber")) none H)
def spCheckIdx (K : PySem.W.Frag) : Sp := fun vs H Q E => ∃ (v : V) (n : Int), vs = [v, .int n] ∧
  ((∃ i : Int, v = .int i ∧ (0 ≤ i ∧ i < n → Q .non H) ∧ (¬ (0 ≤ i ∧ i < n) → E (.ref (He.ga K "UnknownCell")) none H)) ∨ ∃ T : String, T ∈ oddT ∧ TyX K H v (.type T) ∧ E (.ref (He.ga K "UnknownCell")) none H)
/-- what the written part says of an own error without an __init__ -/
structure Err0 (K : PySem.W.Frag) (mg : Str → Option Value) (x : Str) : Prop where
  ex : PySem.W.excIn K (He.ga K x) He.veBase "ValueError.__new__" = true
  kp : PySem.W.keepIn K (.ref (He.ga K x)) = true
  sb : PySem.W.subIn K (.ref (He.ga K x)) (.type "BaseException") = some true
  ty : PySem.W.typeIn K (.ref (He.ga K x)) = some (.type "type")
  gl : mg x = some (.ref (He.ga K x))
end SC
set_option maxRecDepth 100000
set_option maxHeartbeats 2000000
/-! # Part M: numbers as texts -/
namespace SC
open PySem PySem.Spec PyProof.Rows L2 TL
/-- the signs of a number's text -/
def numZ (m : Int) : List Nat := if m < 0 then 45 :: numL m.natAbs else numL m.natAbs
theorem numS_tl (m : Int) : tl (numS m) = numZ m := by
  cases m with
  | ofNat n =>
    have h : ¬ (Int.ofNat n < 0) := by
      have : (0 : Int) ≤ Int.ofNat n := Int.natCast_nonneg n
      omega
    unfold numZ
    rw [if_neg h]
    exact tl_num n
  | negSucc n =>
    have h : Int.negSucc n < 0 := Int.negSucc_lt_zero n
    unfold numZ
    rw [if_pos h]
    unfold numS
    rw [tl_ofString]
    show (("-" ++ Nat.repr (n + 1)) : String).toList.map Char.toNat = 45 :: numL (n + 1)
    rw [String.toList_append, List.map_append, Nat.toList_repr]
    rfl
theorem numZ_len {m : Int} (h : numOk m) : (numZ m).length ≤ 11 := by
  obtain ⟨h1, h2⟩ := h
  have hn : m.natAbs < 10 ^ 10 := by
    have : m.natAbs ≤ 1000000000 := by omega
    omega
  have l := numL_len (k := 10) (by decide) hn
  unfold numZ
  split
  · rw [List.length_cons]
    omega
  · omega
theorem numS_len {m : Int} (h : numOk m) : (numS m).length ≤ 11 := by
  rw [len_tl, numS_tl]
  exact numZ_len h
theorem numS_log {m : Int} (h : numOk m) : m.natAbs.log2 < 1920 := by
  obtain ⟨h1, h2⟩ := h
  have hn : m.natAbs < 2 ^ 1920 := Nat.lt_of_le_of_lt (show m.natAbs ≤ 2 ^ 30 by omega) (Nat.pow_lt_pow_right (by decide) (by decide))
  exact PySem.Flt.log2_lt_of (by decide) hn
theorem numS_read {m : Int} (h : numOk m) : PySem.intText? (numS m) = some m := by
  have hl := numS_len h
  by_cases hm : m < 0
  · have e : (numS m).cps.toList = 45 :: numL m.natAbs := by
      have z := numS_tl m
      unfold numZ at z
      rw [if_pos hm] at z
      exact z
    rw [intText_neg e (numL_digits _) (numL_ne _) (by omega), numL_val]
    congr 1
    omega
  · have e : (numS m).cps.toList = numL m.natAbs := by
      have z := numS_tl m
      unfold numZ at z
      rw [if_neg hm] at z
      exact z
    rw [intText_digits (by rw [e]; exact numL_digits _) (by rw [e]; exact numL_ne _) (by omega), e, numL_val]
    congr 1
    omega
theorem numS_inj {m n : Int} (hm : numOk m) (hn : numOk n) (e : numS m = numS n) : m = n := by
  have h1 := numS_read hm
  rw [e, numS_read hn] at h1
  exact (Option.some.inj h1).symm
/-! ### labels -/
theorem near_tl (m : Int) : tl (("near:" : Str) ++ numS m) = [110, 101, 97, 114, 58] ++ numZ m := by
  rw [tl_append, numS_tl]
  rfl
theorem label_len {r : Rule} (h : r.ok) : r.label.length ≤ 16 := by
  cases r with
  | near m =>
    show (("near:" : Str) ++ numS m).length ≤ 16
    rw [len_tl, near_tl, List.length_append]
    have := numZ_len (m := m) h
    simp only [List.length_cons, List.length_nil]
    omega
  | _ => decide +kernel
theorem label_inj {r r' : Rule} (h : r.ok) (h' : r'.ok) (e : r.label = r'.label) : r = r' := by
  have key : ∀ (m : Int) (k : Kd), k ≠ .near → ("near:" : Str) ++ numS m ≠ k.word := fun m k hk z => by
    have z2 := congrArg tl z
    rw [near_tl] at z2
    cases k <;> first | exact absurd rfl hk | (have z3 := congrArg (fun l => l[0]?) z2; revert z3; simp [Kd.word]; decide +kernel)
  cases r with
  | near m =>
    cases r' with
    | near n =>
      have z : tl (("near:" : Str) ++ numS m) = tl (("near:" : Str) ++ numS n) := congrArg tl e
      rw [near_tl, near_tl] at z
      have z2 := List.append_cancel_left z
      rw [← numS_tl, ← numS_tl] at z2
      rw [numS_inj h h' (ext_tl z2)]
    | first => exact absurd e (key m .first (by decide))
    | last => exact absurd e (key m .last (by decide))
    | less => exact absurd e (key m .less (by decide))
    | greater => exact absurd e (key m .greater (by decide))
  | first =>
    cases r' with
    | near n => exact absurd e.symm (key n .first (by decide))
    | first => rfl
    | last => revert e; decide +kernel
    | less => revert e; decide +kernel
    | greater => revert e; decide +kernel
  | last =>
    cases r' with
    | near n => exact absurd e.symm (key n .last (by decide))
    | last => rfl
    | first => revert e; decide +kernel
    | less => revert e; decide +kernel
    | greater => revert e; decide +kernel
  | less =>
    cases r' with
    | near n => exact absurd e.symm (key n .less (by decide))
    | less => rfl
    | first => revert e; decide +kernel
    | last => revert e; decide +kernel
    | greater => revert e; decide +kernel
  | greater =>
    cases r' with
    | near n => exact absurd e.symm (key n .greater (by decide))
    | greater => rfl
    | first => revert e; decide +kernel
    | last => revert e; decide +kernel
    | less => revert e; decide +kernel
end SC
set_option maxRecDepth 100000
set_option maxHeartbeats 2000000
/-! # Part D: what the laws' own helpers promise -/
namespace SC
open PySem PySem.Spec PyProof.Rows L2 TL
/-- a source of numbers -/
def DOk (ds : List Int) : Prop := ∃ (s b : Int) (rest : List Int), ds = s :: b :: rest ∧ 0 ≤ s ∧ s < 2147483647 ∧ 0 ≤ b ∧ (∀ z ∈ rest, 0 ≤ z) ∧ rest.length ≤ 63
def spRandom (K : PySem.W.Frag) : Sp := fun vs H Q _ => ∃ (a : Addr) (ns : List Int) (salt : Int), vs = [.ref a, .int salt] ∧ SqL K H a (ns.map V.int) ∧ ns.length ≤ 63 ∧ 0 ≤ salt ∧ salt < 2147483647 ∧
  ∀ (p : Addr) (H' : Hp) (ds : List Int), H p = none → Same H H' → DOk ds → H' p = some (.lst (ds.map V.int)) → Q (.ref p) H'
def spBelow : Sp := fun vs H Q _ => ∃ (a : Addr) (L : Int) (ds : List Int), vs = [.ref a, .int L] ∧ 0 < L ∧ L < 18446744073709551616 ∧ H a = some (.lst (ds.map V.int)) ∧ DOk ds ∧
  ∀ (i : Int) (ds' : List Int), 0 ≤ i → i < L → DOk ds' → Q (.int i) (upd H a (.lst (ds'.map V.int)))
theorem lim_div {i L : Int} (h : 0 < L) (h2 : L < 18446744073709551616) : CDivW i L := wide_div (b := 64) h (by omega) (by decide) (by decide)
theorem iteD1 {c A B : Prop} [Decidable c] (hc : c) (h : A) : if decide c = true then A else B := by
  rw [if_pos (decide_eq_true hc)]
  exact h
theorem iteD0 {c A B : Prop} [Decidable c] (hc : ¬ c) (h : B) : if decide c = true then A else B := by
  rw [if_neg (fun z => hc (of_decide_eq_true z))]
  exact h
theorem ixN_at {n j : Nat} (h : j < n) : ixN n (j : Int) = some j := by
  unfold ixN
  rw [if_pos (Int.natCast_nonneg j), if_pos (by omega)]
  rfl
theorem sx_at {n j : Nat} (h : j < n) : seqIndex? (j : Int) n = some j := (ixN_seq (ixN_at h)).1
theorem map_int_at {ns : List Int} {i : Nat} {y : V} (h : (ns.map V.int)[i]? = some y) : ∃ z, ns[i]? = some z ∧ y = V.int z := by
  rw [List.getElem?_map] at h
  cases e : ns[i]? with
  | none =>
    rw [e] at h
    cases h
  | some z =>
    rw [e] at h
    exact ⟨z, rfl, (Option.some.inj h).symm⟩
theorem same_new {H : Hp} {p : Addr} {o : HO} (h : H p = none) : Same H (upd H p o) := fun b u e => by
  rw [upd_ne (ne_of_none e h)]
  exact e
theorem Same.upd {H H' : Hp} {p : Addr} {o : HO} (s : Same H H') (h : H p = none) : Same H (L2.upd H' p o) := fun b u e => by
  rw [upd_ne (ne_of_none e h)]
  exact s b u e
theorem take_more {α : Type} {l : List α} {i : Nat} {z : α} (h : l[i]? = some z) : l.take (i + 1) = l.take i ++ [z] := by
  rw [List.take_succ, h]
  rfl
/-- all but a is as it was -/
def Fr1 (a : Addr) (H H' : Hp) : Prop := ∀ b o, H b = some o → b ≠ a → H' b = some o
theorem Fr1.refl {a : Addr} {H : Hp} : Fr1 a H H := fun _ _ h _ => h
theorem Fr1.trans {a : Addr} {H H1 H2 : Hp} (x : Fr1 a H H1) (y : Fr1 a H1 H2) : Fr1 a H H2 := fun b o h n => y b o (x b o h n) n
theorem Fr1.at {a : Addr} {H : Hp} {o : HO} : Fr1 a H (L2.upd H a o) := fun b u h n => by
  rw [upd_ne n]
  exact h
theorem Fr1.of {a : Addr} {H H' : Hp} (s : Same H H') : Fr1 a H H' := fun b o h _ => s b o h
theorem Fr1.new {a p : Addr} {H H' : Hp} {o : HO} (x : Fr1 a H H') (h : H' p = none) : Fr1 a H (L2.upd H' p o) := x.trans (Fr1.of (same_new h))
theorem Fr1.upd {a p : Addr} {H H' : Hp} {o : HO} (x : Fr1 a H H') (h : H p = none) : Fr1 a H (L2.upd H' p o) := fun b u e n => by
  rw [upd_ne (ne_of_none e h)]
  exact x b u e n
theorem Fr1.free {a p : Addr} {H H' : Hp} {o : HO} (x : Fr1 a H H') (ha : H' a = some o) (h : H' p = none) : H p = none := by
  cases q : H p with
  | none => rfl
  | some u =>
    by_cases e : p = a
    · rw [e, ha] at h
      cases h
    · rw [x p u q e] at h
      cases h
def spRow : Sp := fun vs H Q _ => ∃ (a : Addr) (M : Int) (ds : List Int), vs = [.ref a, .int M] ∧ 0 ≤ M ∧ M ≤ 10000 ∧ H a = some (.lst (ds.map V.int)) ∧ DOk ds ∧
  ∀ (p : Addr) (H' : Hp) (ns ds' : List Int), H p = none → Fr1 a H H' → DOk ds' → H' a = some (.lst (ds'.map V.int)) → H' p = some (.lst (ns.map V.int)) → (ns.length : Int) ≤ M → (∀ z ∈ ns, numOk z) → Q (.ref p) H'
/-! ### equal data, level by level -/
def EqN (K : PySem.W.Frag) : Nat → Hp → V → V → Prop
  | 0, _, x, y => x = y ∧ flatV x = true
  | n + 1, H, x, y => (x = y ∧ flatV x = true) ∨ ∃ (a b : Addr) (xs ys : List V), x = .ref a ∧ y = .ref b ∧ ((H a = some (.lst xs) ∧ H b = some (.lst ys)) ∨ (H a = some (.tup xs) ∧ H b = some (.tup ys))) ∧
      xs.length = ys.length ∧ xs.length ≤ 100000 ∧ ∀ (i : Nat) (u v : V), xs[i]? = some u → ys[i]? = some v → EqN K n H u v
theorem EqN.same {K : PySem.W.Frag} : ∀ {n : Nat} {H H' : Hp} {x y : V}, EqN K n H x y → Same H H' → EqN K n H' x y
  | 0, _, _, _, _, h, _ => h
  | n + 1, H, H', x, y, h, s => by
    rcases h with h | ⟨a, b, xs, ys, h1, h2, h3, h4, h5, h6⟩
    · exact .inl h
    · refine .inr ⟨a, b, xs, ys, h1, h2, ?_, h4, h5, fun i u v hu hv => EqN.same (h6 i u v hu hv) s⟩
      rcases h3 with ⟨h3, h7⟩ | ⟨h3, h7⟩
      · exact .inl ⟨s _ _ h3, s _ _ h7⟩
      · exact .inr ⟨s _ _ h3, s _ _ h7⟩
theorem EqN.succ {K : PySem.W.Frag} : ∀ {n : Nat} {H : Hp} {x y : V}, EqN K n H x y → EqN K (n + 1) H x y
  | 0, _, _, _, h => .inl h
  | n + 1, H, x, y, h => by
    rcases h with h | ⟨a, b, xs, ys, h1, h2, h3, h4, h5, h6⟩
    · exact .inl h
    · exact .inr ⟨a, b, xs, ys, h1, h2, h3, h4, h5, fun i u v hu hv => EqN.succ (h6 i u v hu hv)⟩
theorem eq0 {K : PySem.W.Frag} {n : Nat} {H : Hp} {x : V} (h : flatV x = true := by rfl) : EqN K n H x x := by
  cases n with
  | zero => exact ⟨rfl, h⟩
  | succ n => exact .inl ⟨rfl, h⟩
def spEqual (K : PySem.W.Frag) (n : Nat) : Sp := fun vs H Q _ => ∃ x y : V, vs = [x, y] ∧ EqN K n H x y ∧ ∀ H', Same H H' → Q (.bl true) H'
/-- an item of a list or a tuple -/
def rIxLT (K : PySem.W.Frag) : R2 := fun x y H Q => rIxL K x y H Q ∨ rIxT K x y H Q
theorem ix_lt {X : Cx} : IxR X (rIxLT X.K) := by
  intro value slice pins s σ H x y v u Q I rx ry h hs
  rcases h with h | h
  · exact ix_list value slice pins s σ H x y v u Q I rx ry h hs
  · exact ix_tup value slice pins s σ H x y v u Q I rx ry h hs
theorem cut_near (m : Int) : cutS (("near:" : Str) ++ numS m) (some 5) none = numS m := by
  apply ext_tl
  have e5 : (some (5 : Int)) = some ((5 : Nat) : Int) := rfl
  have hl : (("near:" : Str) ++ numS m).length = 5 + (numZ m).length := by
    rw [len_tl, near_tl, List.length_append]
    rfl
  show ((tl (("near:" : Str) ++ numS m)).drop _).take _ = tl (numS m)
  rw [e5, HT.sIx_nat, HT.sIx_none, hl, near_tl, Nat.min_eq_left (Nat.le_add_right 5 _), numS_tl]
  show (numZ m).take _ = numZ m
  rw [List.take_of_length_le]
  omega
def spKept : Sp := fun vs H Q _ => ∃ (r : Rule) (h c : Int), vs = [.str r.label, .int h, .int c] ∧ r.ok ∧ ∀ (p : Addr) (H' : Hp), H p = none → Same H H' → H' p = some (.tup [.int (r.keep h c).1, .int (r.keep h c).2]) → Q (.ref p) H'
theorem label_is {r r' : Rule} (h : r.ok) (h' : r'.ok) : decide (V.str r.label = V.str r'.label) = decide (r = r') := by
  by_cases e : r = r'
  · subst e
    rw [decide_eq_true rfl, decide_eq_true rfl]
  · rw [decide_eq_false e]
    exact decide_eq_false fun z => e (label_inj h h' (V.str.inj z))
theorem iteN1 {c A B : Prop} [Decidable c] (hc : ¬ c) (h : A) : if (!decide c) = true then A else B := by
  rw [decide_eq_false hc]
  exact iteT h
theorem near_ne (m : Int) {k : Kd} (hk : k ≠ .near) : ¬ V.str (Rule.near m).label = V.str k.word := fun z => by
  have z2 := congrArg tl (V.str.inj z)
  have z3 : tl (("near:" : Str) ++ numS m) = tl k.word := z2
  rw [near_tl] at z3
  cases k <;> first | exact absurd rfl hk | (have z4 := congrArg (fun l => l[0]?) z3; revert z4; simp [Kd.word]; decide +kernel)
theorem min2 {a b m : Int} (hm : m ∈ [a, b]) (hy : ∀ y ∈ [a, b], m ≤ y) : (a ≤ b → m = a) ∧ (b ≤ a → m = b) := by
  have h1 := hy a (by simp)
  have h3 := hy b (by simp)
  have h2 : m = a ∨ m = b := by simpa using hm
  constructor <;> intro h <;> omega
theorem max2 {a b m : Int} (hm : m ∈ [a, b]) (hy : ∀ y ∈ [a, b], y ≤ m) : (a ≤ b → m = b) ∧ (b ≤ a → m = a) := by
  have h1 := hy a (by simp)
  have h3 := hy b (by simp)
  have h2 : m = a ∨ m = b := by simpa using hm
  constructor <;> intro h <;> omega
end SC
set_option maxRecDepth 100000
set_option maxHeartbeats 2000000
/-! # Part E: errors that are caught and told -/
namespace SC
open PySem PySem.Spec PyProof.Rows L2 TL
theorem pe_never {X : Cx} {e : Expr} : PE X e (fun _ _ _ => False) := ⟨fun _ _ _ _ _ _ h => h.elim⟩
/-- the same rule, its reading said by hand -/
theorem peC {X : Cx} {e : Expr} {t : TE} (t' : TE) (h : PE X e t) (q : t = t' := by rfl) : PE X e t' := q ▸ h
theorem ptC {X : Cx} {e : Expr} {t : TT} (t' : TT) (h : PT X e t) (q : t = t' := by rfl) : PT X e t' := q ▸ h
/-- an error in the air of X stands over X's own slots: their number is known -/
theorem takes_len {X : Cx} {W : WX} (t : Takes X W) : Takes X (fun c d σ H => σ.length = X.N.length → W c d σ H) := fun u s' x => by
  obtain ⟨a, B, sI, pins, σ, H, cls, d, e, I, nb, up, sky, na, os, ag, w⟩ := x
  exact t u s' ⟨a, B, sI, pins, σ, H, cls, d, e, I, nb, up, sky, na, os, ag, w I.len⟩
theorem five {α : Type} {l : List α} (h : l.length = 5) : ∃ a b c d e, l = [a, b, c, d, e] := by
  match l, h with
  | [a, b, c, d, e], _ => exact ⟨a, b, c, d, e, rfl⟩
/-! ### xs.count(y), flat items -/
def rCountF (K : PySem.W.Frag) : V → List V → Hp → VK → Prop := fun x xs H Q => ∃ (a : Addr) (ys : List V) (y : V), x = .ref a ∧ xs = [y] ∧ SqL K H a ys ∧ flatV y = true ∧ ys.all flatV = true ∧ Q (.int ((ys.countP fun z => eqV z y : Nat) : Int)) H
theorem count_vals {y : V} : ∀ {ys : List V} {us : List Value}, Vals ys us → ys.all flatV = true → us.countP (eqU y) = ys.countP fun z => eqV z y
  | [], _, .nil, _ => rfl
  | z :: ys, _, .cons r t, h => by
    rw [List.all_cons] at h
    obtain ⟨h1, h2⟩ := He.ba h
    rw [List.countP_cons, List.countP_cons, count_vals t h2, eqU_of r h1]
theorem mt_countF {X : Cx} : MtR X "list.count" (rCountF X.K) := by
  intro pins s σ H x xs v us Q I rx rxs h
  obtain ⟨a, ys, y, ex, exs, hs, fy, fys, q⟩ := h
  subst ex exs
  obtain rfl : v = Value.ref a := rx
  obtain ⟨uy, eu, ry⟩ := rxs.one
  subst eu
  obtain ⟨its, rv, ⟨⟨cls, dd, data, sl⟩, n, ho, hc, hdn, hd⟩, hlen⟩ := I.list hs
  simp only at hc hd
  subst hc hd
  have ec : its.toArray.toList.countP (eqU y) = ys.countP fun z => eqV z y := count_vals rv fys
  refine call_meets PySem.F.slot_list_count ⟨_, ho, rfl⟩ PySem.F.entry_list_count (PySem.F.args_list_count_2 _ _) (SeqAt.list_countAt a its.toArray n dd sl uy (eqU y)) ⟨ho, fun u' hu' => mem_eqAt ry fy rv fys u' (by simpa using hu'), ?_⟩
  refine ⟨.int ((ys.countP fun z => eqV z y : Nat) : Int), H, I.tok _, ⟨s.toks, ?_⟩, q⟩
  rw [← ec]
/-! ### isinstance(e, c), e the caught error, whatever its class -/
def rIsEP (K : PySem.W.Frag) (a : Addr) (cls : Value) (d : Option Addr) : List V → Hp → VK → Prop := fun xs H Q => ∃ (D : Addr) (c : V) (cv : Value) (b : Bool), cls = .ref D ∧ d = none ∧ ExcC K D ∧ xs = [.ref a, c] ∧ (∀ u, RelV c u → u = cv) ∧ PySem.W.kitOne K (.ref D) cv = some b ∧ Q (.bl b) H
theorem call_isEP {X : Cx} {a : Addr} {oe : Obj} {cls : Value} {d : Option Addr} {pn : List (Addr × Obj)} (hz : Zc cls d oe) (hf : ∃ vs, oe.data = .fields vs) : CallR (X.suite a ((a, oe) :: pn)) (.builtin "isinstance") (rIsEP X.K a cls d) := by
  intro pins s σ H xs us Q I r h
  obtain ⟨D, c, cv, b, ec, ed, C, h⟩ := h
  subst ec ed
  exact call_isE C hz hf pins s σ H xs us Q I r ⟨c, cv, b, h⟩
/-- the errors, their classes and the laws' words for them -/
inductive Er where
  | number | chain | cell | row | text | many | contradiction | name | unknown | operation
  deriving DecidableEq
def Er.cn : Er → Str
  | .number => "InvalidNumber"
  | .chain => "InvalidChain"
  | .cell => "UnknownCell"
  | .row => "InvalidRow"
  | .text => "InvalidText"
  | .many => "TooMany"
  | .contradiction => "Contradiction"
  | .name => "InvalidName"
  | .unknown => "UnknownName"
  | .operation => "InvalidOperation"
def Er.word : Er → Str
  | .number => "number"
  | .chain => "chain"
  | .cell => "cell"
  | .row => "row"
  | .text => "text"
  | .many => "many"
  | .contradiction => "contradiction"
  | .name => "name"
  | .unknown => "unknown"
  | .operation => "operation"
def Er.ix : Er → Nat
  | .number => 0
  | .chain => 1
  | .cell => 2
  | .row => 3
  | .text => 4
  | .many => 5
  | .contradiction => 6
  | .name => 7
  | .unknown => 8
  | .operation => 9
def erBs (e : Er) : List V := [.bl (decide (Er.number = e)), .bl (decide (Er.chain = e)), .bl (decide (Er.cell = e)), .bl (decide (Er.row = e)), .bl (decide (Er.text = e)), .bl (decide (Er.many = e)), .bl (decide (Er.contradiction = e)), .bl (decide (Er.name = e)), .bl (decide (Er.unknown = e)), .bl (decide (Er.operation = e))]
def erWs : List V := [.str "number", .str "chain", .str "cell", .str "row", .str "text", .str "many", .str "contradiction", .str "name", .str "unknown", .str "operation"]
theorem er_at (e : Er) : (erBs e)[e.ix]? = some (.bl true) := by cases e <;> rfl
theorem er_word (e : Er) : erWs[e.ix]? = some (.str e.word) := by cases e <;> rfl
theorem er_first (e : Er) (m : Nat) (z : V) (hm : m < e.ix) (hz : (erBs e)[m]? = some z) : eqV z (.bl true) = false := by
  have q : ((List.range e.ix).all fun m => match (erBs e)[m]? with | some z => !eqV z (.bl true) | none => true) = true := by cases e <;> rfl
  have q2 := List.all_eq_true.mp q m (List.mem_range.mpr hm)
  rw [hz] at q2
  simpa using q2
/-- without a field -/
def Er.bare : Er → Bool
  | .chain | .row | .text | .operation => false
  | _ => true
/-- what _law_error_of makes of a call: its error's word and 0 as a new tuple, None where it goes through (errors without a field) -/
def TErr0 (K : PySem.W.Frag) (S : List Er) : (XK → Hp → VK → Prop) → Hp → VK → Prop := fun tl H Q =>
  tl (fun cls d H' => ∃ e : Er, e ∈ S ∧ e.bare = true ∧ cls = .ref (He.ga K e.cn) ∧ d = none ∧ ∀ (p : Addr) (H'' : Hp), H' p = none → Same H' H'' → H'' p = some (.tup [.str e.word, .int 0]) → Q (.ref p) H'') H (fun _ H' => Q .non H')
/-- what the written part says of the errors -/
structure Errs (K : PySem.W.Frag) (mg : Str → Option Value) : Prop where
  glo : ∀ e : Er, mg e.cn = some (.ref (He.ga K e.cn))
  sift : mg "SiftError" = some (.ref (He.ga K "SiftError"))
  ve : mg "ValueError" = none
/-- .. and of one of them without a field -/
structure ErrT (K : PySem.W.Frag) (e : Er) : Prop where
  exm : PySem.W.exmOne K (.ref (He.ga K e.cn)) (.ref (He.ga K "SiftError")) = some true
  exk : ExcC K (He.ga K e.cn)
  kit : ∀ y : Er, PySem.W.kitOne K (.ref (He.ga K e.cn)) (.ref (He.ga K y.cn)) = some (decide (y = e))
  kitV : PySem.W.kitOne K (.ref (He.ga K e.cn)) (.type "ValueError") = some true
theorem eqLst {K : PySem.W.Frag} {n : Nat} {H : Hp} {a b : Addr} {xs : List V} (h : H a = some (.lst xs)) (h' : H b = some (.lst xs)) (hf : xs.all flatV = true) (hl : xs.length ≤ 100000) : EqN K (n + 1) H (.ref a) (.ref b) := by
  refine .inr ⟨a, b, xs, xs, rfl, rfl, .inl ⟨h, h'⟩, rfl, hl, fun i u v hu hv => ?_⟩
  rw [hu] at hv
  rw [← Option.some.inj hv]
  exact eq0 (List.all_eq_true.mp hf u (List.mem_of_getElem? hu))
theorem eqTup {K : PySem.W.Frag} {n : Nat} {H : Hp} {a b : Addr} {xs : List V} (h : H a = some (.tup xs)) (h' : H b = some (.tup xs)) (hf : xs.all flatV = true) (hl : xs.length ≤ 100000) : EqN K (n + 1) H (.ref a) (.ref b) := by
  refine .inr ⟨a, b, xs, xs, rfl, rfl, .inr ⟨h, h'⟩, rfl, hl, fun i u v hu hv => ?_⟩
  rw [hu] at hv
  rw [← Option.some.inj hv]
  exact eq0 (List.all_eq_true.mp hf u (List.mem_of_getElem? hu))
/-- the tables stand where all but a list is as it was -/
theorem tabs_fr {T : List (Addr × Str)} {d : Addr} {H H' : Hp} {xs : List V} (t : LamX.Tabs T H) (hd : H d = some (.lst xs)) (f : Fr1 d H H') : LamX.Tabs T H' := fun p hp => by
  obtain ⟨ps, h1, h2, h3⟩ := t p hp
  have n1 : p.1 ≠ d := ne_of h1 hd (fun z => by cases z)
  refine ⟨ps, f _ _ h1 n1, h2, fun pos cv hc => ?_⟩
  obtain ⟨c, e1, e2⟩ := h3 pos cv hc
  refine ⟨c, e1, f _ _ e2 (ne_of e2 hd fun z => ?_)⟩
  unfold LamX.CodeO at z
  cases z
theorem CellAt.fr {K : PySem.W.Frag} {H H' : Hp} {a d : Addr} {r : Rule} {xs : List V} (c : CellAt K H a r) (hd : H d = some (.lst xs)) (f : Fr1 d H H') : CellAt K H' a r := by
  obtain ⟨h1, dx, h2⟩ := c
  exact ⟨h1, dx, f _ _ h2 (ne_of h2 hd fun z => by cases z)⟩
theorem made_cell {K : PySem.W.Frag} {H : Hp} {x dx : Addr} {r : Rule} (h : r.ok) : CellAt K (upd (upd H dx (.own x)) x (.ins (He.ga K r.kd.cn) dx r.fs)) x r := ⟨h, dx, upd_same⟩
theorem made_same' {H : Hp} {x dx C : Addr} {fs : List (Str × V)} (h1 : H x = none) (h2 : H dx = none) : Same H (upd (upd H dx (.own x)) x (.ins C dx fs)) := fun b o e => by
  rw [upd_ne (ne_of_none e h1), upd_ne (ne_of_none e h2)]
  exact e
theorem boot_VE : bootBuiltins "ValueError" = some (.type "ValueError") := by decide +kernel
end SC
set_option maxRecDepth 100000
set_option maxHeartbeats 2000000
/-! # Part F: rules of our own for chains: enumerate over tuples, C(*xs), statements that are never reached -/
namespace SC
open PySem PySem.Spec PyProof.Rows L2 TL
/-! ### what is never reached -/
theorem ps_never {X : Cx} {st : Stmt} : PS X st (fun _ _ _ => False) := ⟨fun _ _ _ _ _ _ h => h.elim⟩
theorem pss_never {X : Cx} {b : List Stmt} : PSs X b (fun _ _ _ => False) := ⟨fun _ _ _ _ _ _ h => h.elim⟩
/-! ### enumerate(xs), xs a tuple -/
set_option maxHeartbeats 1000000 in
theorem enumB_meets {v : Value} {ob : Obj} {Hh : Heap → Prop} (B : Begins v ob Hh) : Meets (Builtin.«enumerate.__new__» ⟨[.type "enumerate", v], []⟩) (fun _ R s => Hh s.heap ∧
    R (.ok (.ret (.ref (s.heap.push ob).objs.size))) { s with heap := (s.heap.push ob).push { cls := .type "enumerate", data := .fields #[.none, .bool false, .ref s.heap.objs.size, rawInt 0, .none, .none] } }) :=
  .of_wp fun prog w A R s hin => by
    obtain ⟨hp, g, dd, tk, os⟩ := s
    obtain ⟨hin1, hR⟩ := hin
    have hsub := sub_enumerate
    have qq : ∀ {A' : Around} {E' : Value → Shared → Prop} {Q' : Value → Shared → Prop}, Q' (.ref hp.objs.size) ⟨hp.push ob, g, dd, tk, os⟩ → wpAny (model prog w) A' (pyIter v) Q' E' ⟨hp, g, dd, tk, os⟩ :=
      fun z => B.iter prog w _ _ ⟨hp, g, dd, tk, os⟩ _ hin1 z
    wp_walk using qq
    refine wpAny_stack_any fun stk => wpAny_pure ?_
    split
    · rename_i cc _ _ _ _ _
      cases (cc == Value.type "enumerate") <;> (wp_walk using qq; exact ⟨_, rfl, hR⟩)
    · wp_walk using qq
      exact ⟨_, rfl, hR⟩
theorem call_enumB {prog : Program} {w : World} {A : Around} {E : Value → Shared → Prop} {s : Shared} {v : Value} {ob : Obj} {Hh : Heap → Prop} {Q : Value → Shared → Prop} (B : Begins v ob Hh) (hin : Hh s.heap)
    (hq : ∀ hn, IsEnum hn (s.heap.objs.size + 1) s.heap.objs.size 0 .none → hn.get? s.heap.objs.size = some ob → (∀ b o, s.heap.get? b = some o → hn.get? b = some o) → Q (.ref (s.heap.objs.size + 1)) { s with heap := hn }) :
    wpAny (model prog w) A (call (.type "enumerate") [v]) Q E s := by
  refine callType_new F.called_enumerate (by decide) (F.typeCall_enumerate_1 _) (F.newCall_enumerate_1 _) (fun z => F.args_object_init_2 z _) F.entry_enumerate_new (enumB_meets B) ⟨hin, ?_⟩
  have sz : (s.heap.push ob).objs.size = s.heap.objs.size + 1 := Heap.size_push ..
  show _ ∧ _
  rw [sz]
  have ien : IsEnum ((s.heap.push ob).push { cls := .type "enumerate", data := .fields #[.none, .bool false, .ref s.heap.objs.size, rawInt 0, .none, .none] }) (s.heap.objs.size + 1) s.heap.objs.size 0 .none := by
    have z := Heap.get?_push_size (s.heap.push ob) (o := { cls := .type "enumerate", data := .fields #[.none, .bool false, .ref s.heap.objs.size, rawInt 0, .none, .none] }) rfl
    rw [sz] at z
    exact z
  exact ⟨⟨_, ien, rfl⟩, hq _ ien (Heap.get?_push_of_some _ (Heap.get?_push_size _ B.free)) fun b o z => Heap.get?_push_of_some _ (Heap.get?_push_of_some _ z)⟩
/-- the tuple at a, each item in a new pair -/
def IteT (K : PySem.W.Frag) (a : Addr) : It :=
  ⟨fun i H => ∃ (xs : List V) (x : V), SqT K H a xs ∧ xs[i]? = some x, fun i H v H' => ∃ T x, v = .ref T ∧ H T = none ∧ H' = upd H T (.tup [.int (i : Nat), x]) ∧ ∀ xs, SqT K H a xs → xs[i]? = some x, fun i H => ∃ xs : List V, SqT K H a xs ∧ xs.length = i⟩
theorem turn_enumT {P : Program} {w : World} {K : PySem.W.Frag} {elts : List Expr} {kk : Nat} {tpos : Pos} (a e it : Addr) (hai : a ≠ it) (hae : e ≠ a) :
    Turn P w K (.Tuple elts kk tpos) (IteT K a) [e, it] e (fun i h => (∃ old, IsEnum h e it ((i : Nat) : Int) old) ∧ h.IsTupleIter it a i ∧ e ≠ it) where
  mem := by simp
  obj := fun i h st b hb => by
    obtain ⟨⟨old, ien⟩, ⟨o, ho, hcl, hdt⟩, _⟩ := st
    rcases (show b = e ∨ b = it by simpa using hb) with rfl | rfl
    · exact ⟨_, ien, fun v q => nomatch q⟩
    · refine ⟨o, ho, fun v q => ?_⟩
      rw [hdt] at q
      cases q
  keep := fun i h h' st k => by
    obtain ⟨⟨old, ien⟩, iti, hne⟩ := st
    exact ⟨⟨old, k e (by simp) _ ien⟩, iti.at fun o q => k it (by simp) o q, hne⟩
  item := by
    intro X hP hw hK hc i pins s σ H E I hf st hg
    subst hP hw hK
    obtain ⟨⟨old, ien⟩, iti, hne⟩ := st
    obtain ⟨xs, x, hq, hx⟩ := hg
    obtain ⟨its, rv, tp, _⟩ := I.tuple hq
    obtain ⟨u, hu, ru⟩ := rv.get hx
    have le : e < s.heap.objs.size := Heap.lt_size ien
    have li : it < s.heap.objs.size := by
      obtain ⟨_, q, _⟩ := iti
      exact Heap.lt_size q
    have hiu : its.toArray[i]? = some u := by simpa using hu
    have hlt : i < its.toArray.size := by
      rcases Nat.lt_or_ge i its.toArray.size with z | z
      · exact z
      · rw [Array.getElem?_eq_none z] at hiu
        cases hiu
    refine wpAny_pyNext_enum_itemD (Draws.tuple (show X.A.in1.handled = none from I.ok.hd hc) it a hai its.toArray) ien ⟨iti, tp⟩ hlt hne (by simp [hne, hae]) fun y hn tk hy ieo iti2 hT hsz hk => ?_
    have ey : y = u := by
      rw [hiu] at hy
      exact (Option.some.inj hy).symm
    subst ey
    refine ⟨_, rfl, wpAny_letOwnedTupleGo_enum (s := { s with heap := hn, toks := tk + 1 }) ieo fun hm iem sb => ?_⟩
    have tm : hm.get? s.heap.objs.size = some { cls := .type "tuple", data := .seq #[.int i tk, y] } := (sb.2 _ (Nat.ne_of_gt le)).trans hT
    have new : ObjOk X.prog X.w (upd H s.heap.objs.size (.tup [.int (i : Nat), x])) hm s.heap.objs.size (.tup [.int (i : Nat), x]) :=
      ⟨by show 2 ≤ sizeLine; decide, [.int i tk, y], .cons ⟨_, rfl⟩ (.cons ru .nil), ⟨_, tm, rfl, _, rfl⟩⟩
    have Im : Inv X pins σ (upd H s.heap.objs.size (.tup [.int (i : Nat), x])) { s with heap := hm, toks := tk + 1 } :=
      I.turnedNew (ch := [e, it]) (fun b o hb q => (sb.2 b (fun z => hb (by simp [z]))).trans (hk b o (fun z => hb (by simp [z])) (fun z => hb (by simp [z])) q)) hf (Nat.le_refl _) new
    refine ⟨.ref s.heap.objs.size, _, Im, rfl, ⟨_, x, rfl, I.hok.fresh (Nat.le_refl _), rfl, fun zs hz => by rw [I.tuple_inj hz hq]; exact hx⟩, ⟨⟨y, ?_⟩, iti2.1.at fun o q => (sb.2 it (Ne.symm hne)).trans q, hne⟩, fun b hb => ?_⟩
    · rw [show ((i + 1 : Nat) : Int) = (i : Int) + 1 by omega]
      exact iem
    · have lb : b < s.heap.objs.size := by
        rcases (show b = e ∨ b = it by simpa using hb) with rfl | rfl
        · exact le
        · exact li
      rw [upd_ne (Nat.ne_of_lt lb)]
      exact (hf b hb).1
  done := by
    intro X hP hw hK hc i pins s σ H E I hf st hg
    subst hP hw hK
    obtain ⟨⟨old, ien⟩, iti, hne⟩ := st
    obtain ⟨xs, hq, hx⟩ := hg
    obtain ⟨its, rv, tp, _⟩ := I.tuple hq
    obtain ⟨f0, f1, f2, f3, f4, f5⟩ := hf it (by simp)
    have hl := rv.length
    have D := Draws.tuple (prog := X.prog) (w := X.w) (show X.A.in1.handled = none from I.ok.hd hc) it a hai its.toArray
    have ei : its.toArray.size = i := by
      rw [List.size_toArray]
      omega
    rw [← ei] at iti
    exact wpAny_pyNext_enum_endD D ien ⟨iti, tp⟩ fun hn eb => ⟨rfl, I.turned (t' := s.toks) (fun b o hb q => eb b o hb q) f0 f1 f3 f4 f5⟩
  self := fun A i s Q E st h => by
    obtain ⟨⟨_, ien⟩, _⟩ := st
    exact wpAny_pyIter_enum ien h
def iEnumT (K : PySem.W.Frag) (ta : TA) : TI := fun σ H R => ta σ H fun vs H1 => ∃ a xs, vs = [.ref a] ∧ SqT K H1 a xs ∧ R (IteT K a) H1
theorem pi_enumT {X : Cx} {e : Expr} {ta : TA} {p pos tpos : Pos} {elts : List Expr} {kk : Nat} (hg : Gl X "enumerate") (hm : X.mg "enumerate" = none) (ha : PA X [e] ta) (hs : starEach [e] X.env = [(false, eval e X.env)] := by rfl) :
    PI X (.Tuple elts kk tpos) (.Call (.Name "enumerate" p) [e] [] pos) (iEnumT X.K ta) := by
  refine ⟨fun pins s σ H R I h => Call_ (ld_blt I hg hm boot_enumerate (PyProof.Rows.callWith_type1 (thn (ha.run pos pins s σ H _ I h) fun us s1 hh => ?_) hs rfl))⟩
  obtain ⟨vs, H1, I1, r1, a, xs, ex, hq, q⟩ := hh
  subst ex
  obtain ⟨u, eu, ru⟩ := r1.one
  subst eu
  obtain rfl : u = Value.ref a := ru
  obtain ⟨its, rv, tp, hz⟩ := I1.tuple hq
  have la : a < s1.heap.objs.size := by
    obtain ⟨_, z, _⟩ := id tp
    exact Heap.lt_size z
  refine call_enumB (begins_tuple a its.toArray) tp fun hn ien hit hk => wpAny_pyIter_enum ien ?_
  have I2 : Inv X pins σ H1 { s1 with heap := hn } := I1.kept (t' := s1.toks) hk
  refine ⟨s1.heap.objs.size + 1, [s1.heap.objs.size + 1, s1.heap.objs.size], _, _, H1, rfl, I2, turn_enumT a (s1.heap.objs.size + 1) s1.heap.objs.size (Nat.ne_of_lt la) (Nat.ne_of_gt (Nat.lt_succ_of_lt la)), ⟨⟨.none, ien⟩, ⟨_, hit, rfl, rfl⟩, Nat.succ_ne_self _⟩, fun b hb => ?_, q⟩
  have le : s1.heap.objs.size ≤ b := by
    rcases (show b = s1.heap.objs.size + 1 ∨ b = s1.heap.objs.size by simpa using hb) with z | z
    · rw [z]
      exact Nat.le_add_right _ _
    · rw [z]
      exact Nat.le_refl _
  exact I1.fpOk le (I1.hok.fresh le)
/-- a loop over enumerate of a tuple -/
theorem for_enumT {K : PySem.W.Frag} {a : Addr} {xs : List V} {g : TG} {tb : TS} {D : Ends} {σ : L2.St} {H : Hp} (Pv : Nat → L2.St → Hp → Prop) (h0 : Pv 0 σ H) (hq : ∀ i σ H, Pv i σ H → SqT K H a xs)
    (hs : ∀ (i : Nat) (x : V) (T : Addr) (σ : L2.St) (H : Hp), xs[i]? = some x → Pv i σ H → H T = none → g (.ref T) σ (upd H T (.tup [.int (i : Nat), x])) fun σ2 H2 => tb { D with nx := Pv (i + 1), ct := Pv (i + 1), bk := D.nx } σ2 H2) (hd : ∀ σ H, Pv xs.length σ H → D.nx σ H) :
    ∃ W : Nat → Nat → L2.St → Hp → Prop, (∃ m, W 0 m σ H) ∧ ∀ i m σ H, W i m σ H →
      ((IteT K a).stop i H ∧ D.nx σ H) ∨ ((IteT K a).go i H ∧ ∃ N : L2.St → Hp → Prop, (∀ σ' H', N σ' H' → ∃ m', m' < m ∧ W (i + 1) m' σ' H') ∧ ∀ v H', (IteT K a).yld i H v H' → g v σ H' fun σ2 H2 => tb { D with nx := N, ct := N, bk := D.nx } σ2 H2) := by
  refine ⟨fun i m σ H => m = xs.length - i ∧ i ≤ xs.length ∧ Pv i σ H, ⟨xs.length, rfl, Nat.zero_le _, h0⟩, ?_⟩
  rintro i m σ H ⟨rfl, hi, p⟩
  have qx := hq i σ H p
  by_cases hlt : i < xs.length
  · have hx : xs[i]? = some xs[i] := List.getElem?_eq_getElem hlt
    refine .inr ⟨⟨xs, _, qx, hx⟩, Pv (i + 1), fun σ' H' p' => ⟨xs.length - (i + 1), by omega, rfl, hlt, p'⟩, ?_⟩
    rintro v H' ⟨T, x, rfl, hT, rfl, hy⟩
    exact hs i x T σ H (hy xs qx) p hT
  · have e : i = xs.length := by omega
    subst e
    exact .inl ⟨⟨xs, qx, rfl⟩, hd σ H p⟩
/-- a loop over enumerate of a list -/
theorem for_enumL {K : PySem.W.Frag} {a : Addr} {xs : List V} {g : TG} {tb : TS} {D : Ends} {σ : L2.St} {H : Hp} (Pv : Nat → L2.St → Hp → Prop) (h0 : Pv 0 σ H) (hq : ∀ i σ H, Pv i σ H → SqL K H a xs)
    (hs : ∀ (i : Nat) (x : V) (T : Addr) (σ : L2.St) (H : Hp), xs[i]? = some x → Pv i σ H → H T = none → g (.ref T) σ (upd H T (.tup [.int (i : Nat), x])) fun σ2 H2 => tb { D with nx := Pv (i + 1), ct := Pv (i + 1), bk := D.nx } σ2 H2) (hd : ∀ σ H, Pv xs.length σ H → D.nx σ H) :
    ∃ W : Nat → Nat → L2.St → Hp → Prop, (∃ m, W 0 m σ H) ∧ ∀ i m σ H, W i m σ H →
      ((Ite K a).stop i H ∧ D.nx σ H) ∨ ((Ite K a).go i H ∧ ∃ N : L2.St → Hp → Prop, (∀ σ' H', N σ' H' → ∃ m', m' < m ∧ W (i + 1) m' σ' H') ∧ ∀ v H', (Ite K a).yld i H v H' → g v σ H' fun σ2 H2 => tb { D with nx := N, ct := N, bk := D.nx } σ2 H2) := by
  refine ⟨fun i m σ H => m = xs.length - i ∧ i ≤ xs.length ∧ Pv i σ H, ⟨xs.length, rfl, Nat.zero_le _, h0⟩, ?_⟩
  rintro i m σ H ⟨rfl, hi, p⟩
  have qx := hq i σ H p
  by_cases hlt : i < xs.length
  · have hx : xs[i]? = some xs[i] := List.getElem?_eq_getElem hlt
    refine .inr ⟨⟨xs, _, qx, hx⟩, Pv (i + 1), fun σ' H' p' => ⟨xs.length - (i + 1), by omega, rfl, hlt, p'⟩, ?_⟩
    rintro v H' ⟨T, x, rfl, hT, rfl, hy⟩
    exact hs i x T σ H (hy xs qx) p hT
  · have e : i = xs.length := by omega
    subst e
    exact .inl ⟨⟨xs, qx, Nat.le_refl _⟩, hd σ H p⟩
/-! ### C(*xs) -/
def tMakeS (K : PySem.W.Frag) (C : Addr) (sp : Sp) (E : XK) (te : TE) : TE := fun σ H Q => te σ H fun y H1 => ∃ a xs, y = V.ref a ∧ (SqT K H1 a xs ∨ SqL K H1 a xs) ∧ ∀ x dx, H1 x = Option.none → H1 dx = Option.none → dx ≠ x →
  sp (V.ref x :: xs) (upd (upd H1 dx (.own x)) x (.ins C dx [])) (fun v H2 => v = .non ∧ Q (.ref x) H2) E
theorem pe_makeS {X : Cx} {CX : CXT} {k : Nat} {f C : Addr} {sp : Sp} {E : XK} {x : Str} {e : Expr} {te : TE} {p pos spos : Pos} (M : Mk X.K C f) (F : FnR X.prog X.w X.K X.mg X.base CX k f sp) (hr : Room (k + 1) X.A) (hg : Gl X x) (hm : X.mg x = some (.ref C)) (hx : Passes CX X E) (he : PE X e te)
    (hdb : (x == ("__debug__" : Str)) = false := by decide) (hst : starEach [.Starred e spos] X.env = [(true, eval e X.env)] := by rfl) : PE X (.Call (.Name x p) [.Starred e spos] [] pos) (tMakeS X.K C sp E te) := by
  refine ⟨fun pins s σ H Q I h => wpAny_Call_Name_kw (ld_glob I hg hm ?_ hdb)⟩
  refine PySem.W.callWith_S (h₀ := X.base) I.ok.mod.kin M.kp (thn (he.run pins s σ H _ I h) fun v s1 hh => ?_) hst
  obtain ⟨y, H1, I1, ry, a, xs, ey, hxs, q⟩ := hh
  subst ey
  obtain rfl : v = Value.ref a := ry
  exact StX.star_any I1 hxs fun us s2 I2 rv => ⟨I2.kIn, StX.run_makeR M F hr hx I2 rv q⟩
/-- f(*xs), f an expression that gives the class -/
theorem pe_makeSv {X : Cx} {CX : CXT} {k : Nat} {f C : Addr} {sp : Sp} {E : XK} {fe e : Expr} {tf te : TE} {pos spos : Pos} (M : Mk X.K C f) (F : FnR X.prog X.w X.K X.mg X.base CX k f sp) (hr : Room (k + 1) X.A) (hf : PE X fe tf) (hx : Passes CX X E) (he : PE X e te)
    (ht : eval (.Call fe [.Starred e spos] [] pos) X.env = (do callWith pos (← eval fe X.env) [] (backTo pos (starEach [.Starred e spos] X.env)) (backToKw pos (keywordEach [] X.env))) := by rfl)
    (hst : starEach [.Starred e spos] X.env = [(true, eval e X.env)] := by rfl) : PE X (.Call fe [.Starred e spos] [] pos) (fun σ H Q => tf σ H fun z H1 => z = .ref C ∧ tMakeS X.K C sp E te σ H1 Q) := by
  refine ⟨fun pins s σ H Q I h => Call_ (thn (hf.run pins s σ H _ I h) fun z s1 hz => ?_) ht⟩
  obtain ⟨zv, H1, I1, rz, ez, h1⟩ := hz
  subst ez
  obtain rfl : z = Value.ref C := rz
  refine PySem.W.callWith_S (h₀ := X.base) I1.ok.mod.kin M.kp (thn (he.run pins s1 σ H1 _ I1 h1) fun v s2 hh => ?_) hst
  obtain ⟨y, H2, I2, ry, a, xs, ey, hxs, q⟩ := hh
  subst ey
  obtain rfl : v = Value.ref a := ry
  exact StX.star_any I2 hxs fun us s3 I3 rv => ⟨I3.kIn, StX.run_makeR M F hr hx I3 rv q⟩
end SC
set_option maxRecDepth 100000
set_option maxHeartbeats 2000000
/-! # Part G: chains: what stands in the heap, what they promise -/
namespace SC
open PySem PySem.Spec PyProof.Rows L2 TL
/-! ### (z,) * k -/
theorem tuple_mul1 (l : Addr) (items : Array Value) (n : Nat) (dd : Option Addr) (sl : Array (Option Value)) (u : Tok) :
    Meets (Builtin.«tuple.__mul__» ⟨[.ref l, .int 1 u], []⟩) (fun _ R s => s.heap.get? l = some { cls := .type "tuple", dict := dd, data := .seq items n, slots := sl } ∧ R (.ok (.ret (Value.ref l))) s) :=
  .of_wp fun prog w A R s hin => by
    obtain ⟨hp, g, d, tk, os⟩ := s
    obtain ⟨hl, hR⟩ := hin
    have ii := AutoSeq1.idx_int
    wp_walk using AutoSeq1.wpAny_loadPart' hl
    exact ⟨_, rfl, hR⟩
theorem op_rep1 {X : Cx} : OpR X (binaryOp .Mult) (fun x y H Q => ∃ l xs, x = .ref l ∧ y = .int 1 ∧ SqT X.K H l xs ∧ Q (.ref l) H) := by
  intro pins s σ H x y v u Q I rx ry h
  obtain ⟨l, xs, ex, ey, hT, q⟩ := h
  subst ex ey
  obtain rfl : v = Value.ref l := rx
  obtain ⟨t, rfl⟩ := ry
  obtain ⟨its, r, ⟨⟨cls, dd, data, sl⟩, ho, hc, n, hd⟩, hs⟩ := I.tuple hT
  simp only at hc hd
  subst hc hd
  exact wpAny_binaryOp_repeat_ref (T := "tuple") (U := "int") (by decide) ⟨_, ho, rfl⟩ (fun s' => typeIs_int s' 1 t) noFill_tuple_mul F.fills_int_mul F.slot_int_rmul repeat_tuple F.slot_int_index.lookup
    (call_meets F.slot_int_rmul (typeIs_int s 1 t) F.entry_int_rmul (F.args_int_rmul_2 _ _) (int_rmul_tuple 1 t l its.toArray n dd sl)
      ⟨ho, rfl, ⟨_, ho, rfl⟩, call_meets F.slot_tuple_mul ⟨_, ho, rfl⟩ F.entry_tuple_mul (F.args_tuple_mul_2 _ _) (tuple_mul1 l its.toArray n dd sl t) ⟨ho, .ref l, H, I, rfl, q⟩⟩)
def rRepN (K : PySem.W.Frag) : R2 := fun x y H Q => ∃ l k z, x = .ref l ∧ y = .int k ∧ H l = some (.tup [z]) ∧ 1 ≤ k ∧ k ≤ 1000 ∧ ∀ p H', Same H H' → H' p = some (.tup (List.replicate k.toNat z)) → (p = l ∨ H p = none) → Q (.ref p) H'
theorem op_repN {X : Cx} : OpR X (binaryOp .Mult) (rRepN X.K) := by
  intro pins s σ H x y v u Q I rx ry h
  obtain ⟨l, k, z, ex, ey, hl, h1, h2, q⟩ := h
  by_cases hk : k = 1
  · subst hk
    refine op_rep1 pins s σ H x y v u Q I rx ry ⟨l, [z], ex, ey, SqT.of hl, q l H (fun _ _ h => h) hl (.inl rfl)⟩
  · refine op_repT pins s σ H x y v u Q I rx ry ⟨l, k, [z], ex, ey, SqT.of hl, by simp, by omega, h2, by simp, fun p hp => q p _ (same_new hp) ?_ (.inr hp)⟩
    rw [upd_same]
    congr 2
    generalize k.toNat = m
    induction m with
    | zero => rfl
    | succ m ih => rw [List.replicate_succ, List.replicate_succ, List.flatten_cons, ih]; rfl
/-! ### chains in the heap -/
def Cs (K : PySem.W.Frag) (H : Hp) (as : List Addr) (rs : List Rule) : Prop := as.length = rs.length ∧ ∀ (i : Nat) (a : Addr) (r : Rule), as[i]? = some a → rs[i]? = some r → CellAt K H a r
theorem Cs.same {K : PySem.W.Frag} {H H' : Hp} {as : List Addr} {rs : List Rule} (c : Cs K H as rs) (s : Same H H') : Cs K H' as rs := ⟨c.1, fun i a r h1 h2 => (c.2 i a r h1 h2).same s⟩
theorem Cs.fr {K : PySem.W.Frag} {H H' : Hp} {as : List Addr} {rs : List Rule} {d : Addr} {xs : List V} (c : Cs K H as rs) (hd : H d = some (.lst xs)) (f : Fr1 d H H') : Cs K H' as rs := ⟨c.1, fun i a r h1 h2 => (c.2 i a r h1 h2).fr hd f⟩
theorem Cs.nil {K : PySem.W.Frag} {H : Hp} : Cs K H [] [] := ⟨rfl, fun i a r h _ => by simp at h⟩
theorem Cs.snoc {K : PySem.W.Frag} {H : Hp} {as : List Addr} {rs : List Rule} {a : Addr} {r : Rule} (c : Cs K H as rs) (h : CellAt K H a r) : Cs K H (as ++ [a]) (rs ++ [r]) := by
  refine ⟨by simp [c.1], fun i b q h1 h2 => ?_⟩
  by_cases hi : i < as.length
  · rw [List.getElem?_append_left hi] at h1
    rw [List.getElem?_append_left (by rw [← c.1]; exact hi)] at h2
    exact c.2 i b q h1 h2
  · rw [List.getElem?_append_right (by omega)] at h1
    rw [List.getElem?_append_right (by rw [← c.1]; omega)] at h2
    rw [← c.1] at h2
    cases e : i - as.length with
    | zero =>
      rw [e] at h1 h2
      simp at h1 h2
      subst h1 h2
      exact h
    | succ m =>
      rw [e] at h1
      simp at h1
theorem Cs.app {K : PySem.W.Frag} {H : Hp} {as bs : List Addr} {rs qs : List Rule} (c : Cs K H as rs) (d : Cs K H bs qs) : Cs K H (as ++ bs) (rs ++ qs) := by
  refine ⟨by simp [c.1, d.1], fun i b q h1 h2 => ?_⟩
  by_cases hi : i < as.length
  · rw [List.getElem?_append_left hi] at h1
    rw [List.getElem?_append_left (by rw [← c.1]; exact hi)] at h2
    exact c.2 i b q h1 h2
  · rw [List.getElem?_append_right (by omega)] at h1
    rw [List.getElem?_append_right (by rw [← c.1]; omega), ← c.1] at h2
    exact d.2 _ b q h1 h2
theorem Cs.ok {K : PySem.W.Frag} {H : Hp} {as : List Addr} {rs : List Rule} (c : Cs K H as rs) : ∀ r ∈ rs, r.ok := fun r hr => by
  obtain ⟨i, hi, e⟩ := List.getElem_of_mem hr
  have hi2 : i < as.length := by
    rw [c.1]
    exact hi
  have h1 : as[i]? = some as[i] := List.getElem?_eq_getElem hi2
  exact (c.2 i _ r h1 (by rw [List.getElem?_eq_getElem hi, e])).1
def ChC (K : PySem.W.Frag) : Addr := He.ga K "Chain"
def ChainAt (K : PySem.W.Frag) (H : Hp) (c : Addr) (rs : List Rule) : Prop :=
  ∃ (dx t : Addr) (as : List Addr), H c = some (.ins (ChC K) dx [("cells", .ref t)]) ∧ H t = some (.tup (as.map V.ref)) ∧ Cs K H as rs ∧ 1 ≤ rs.length ∧ rs.length ≤ 8
theorem ChainAt.same {K : PySem.W.Frag} {H H' : Hp} {c : Addr} {rs : List Rule} (x : ChainAt K H c rs) (s : Same H H') : ChainAt K H' c rs := by
  obtain ⟨dx, t, as, h1, h2, h3, h4⟩ := x
  exact ⟨dx, t, as, s _ _ h1, s _ _ h2, h3.same s, h4⟩
theorem ChainAt.fr {K : PySem.W.Frag} {H H' : Hp} {c d : Addr} {xs : List V} {rs : List Rule} (x : ChainAt K H c rs) (hd : H d = some (.lst xs)) (f : Fr1 d H H') : ChainAt K H' c rs := by
  obtain ⟨dx, t, as, h1, h2, h3, h4⟩ := x
  exact ⟨dx, t, as, f _ _ h1 (ne_of h1 hd fun z => by cases z), f _ _ h2 (ne_of h2 hd fun z => by cases z), h3.fr hd f, h4⟩
theorem ChainAt.ok {K : PySem.W.Frag} {H : Hp} {c : Addr} {rs : List Rule} (x : ChainAt K H c rs) : ∀ r ∈ rs, r.ok := by
  obtain ⟨dx, t, as, h1, h2, h3, h4⟩ := x
  exact h3.ok
/-! ### what comes of a number, of a row -/
def ov : Option Int → V
  | none => .non
  | some i => .int i
def stepR : List Rule → List (Option Int) → Option Int → List (Option Int) × Option Int
  | r :: rs, none :: hs, c => ((c :: (stepR rs hs none).1), (stepR rs hs none).2)
  | r :: rs, some h :: hs, some c => ((some (r.keep h c).1 :: (stepR rs hs (some (r.keep h c).2)).1), (stepR rs hs (some (r.keep h c).2)).2)
  | _, hs, c => (hs, c)
def runR (rs : List Rule) : List (Option Int) → List Int → List (Option Int) × List (Option Int)
  | hs, [] => ([], hs)
  | hs, n :: ns => ((stepR rs hs (some n)).2 :: (runR rs (stepR rs hs (some n)).1 ns).1, (runR rs (stepR rs hs (some n)).1 ns).2)
def nones (n : Nat) : List (Option Int) := List.replicate n none
/-- filled from the front -/
def Fill (hs : List (Option Int)) : Prop := ∃ (xs : List Int) (n : Nat), hs = xs.map some ++ nones n
/-! ### what the text's own defs promise -/
def NewCh (K : PySem.W.Frag) (H : Hp) (rs : List Rule) (Q : VK) : Prop := ∀ (x : Addr) (H' : Hp), H x = none → Same H H' → ChainAt K H' x rs → Q (.ref x) H'
def txtOf (rs : List Rule) : Str := Txt.join (" " : Str) (rs.map Rule.label)
def spNear (K : PySem.W.Frag) : Sp := fun vs H Q _ => ∃ m : Int, vs = [.str (Rule.near m).label] ∧ numOk m ∧ ∀ (a : Addr) (H' : Hp), H a = none → Same H H' → CellAt K H' a (.near m) → Q (.ref a) H'
def spCellOf (K : PySem.W.Frag) : Sp := fun vs H Q _ => ∃ r : Rule, vs = [.str r.label] ∧ r.ok ∧ ∀ (a : Addr) (H' : Hp), H a = none → Same H H' → CellAt K H' a r → Q (.ref a) H'
def spCheck (K : PySem.W.Frag) : Sp := fun vs H Q _ => ∃ (a : Addr) (ns : List Int) (L : Int), vs = [.ref a, .int L] ∧ H a = some (.lst (ns.map V.int)) ∧ (ns.length : Int) ≤ L ∧ (∀ z ∈ ns, numOk z) ∧ ∀ H', Same H H' → Q .non H'
def spInitB (K : PySem.W.Frag) : Sp := fun vs H Q _ => ∃ (x dx t : Addr) (as : List Addr) (rs : List Rule), vs = [.ref x, .ref t] ∧ H x = some (.ins (ChC K) dx []) ∧ H t = some (.tup (as.map V.ref)) ∧ Cs K H as rs ∧ x ∉ as ∧ 1 ≤ rs.length ∧ rs.length ≤ 8 ∧ ∀ H', Fr1 x H H' → ChainAt K H' x rs → Q .non H'
def spInit (K : PySem.W.Frag) : Sp := fun vs H Q _ => ∃ (x dx : Addr) (as : List Addr) (rs : List Rule), vs = .ref x :: as.map V.ref ∧ H x = some (.ins (ChC K) dx []) ∧ Cs K H as rs ∧ x ∉ as ∧ 1 ≤ rs.length ∧ rs.length ≤ 8 ∧ ∀ H', Fr1 x H H' → ChainAt K H' x rs → Q .non H'
def spParse (K : PySem.W.Frag) : Sp := fun vs H Q _ => ∃ rs : List Rule, vs = [.ref (ChC K), .str (txtOf rs)] ∧ (∀ r ∈ rs, r.ok) ∧ 1 ≤ rs.length ∧ rs.length ≤ 8 ∧ NewCh K H rs Q
def spText (K : PySem.W.Frag) : Sp := fun vs H Q _ => ∃ (c : Addr) (rs : List Rule), vs = [.ref c] ∧ ChainAt K H c rs ∧ ∀ H', Same H H' → Q (.str (txtOf rs)) H'
def spEmpty (K : PySem.W.Frag) : Sp := fun vs H Q _ => ∃ (c : Addr) (rs : List Rule), vs = [.ref c] ∧ ChainAt K H c rs ∧ ∀ (p : Addr) (H' : Hp), H p = none → Same H H' → H' p = some (.tup ((nones rs.length).map ov)) → Q (.ref p) H'
def spStep (K : PySem.W.Frag) : Sp := fun vs H Q _ => ∃ (c h : Addr) (n : Int) (rs : List Rule) (hs : List (Option Int)), vs = [.ref c, .ref h, .int n] ∧ ChainAt K H c rs ∧ H h = some (.tup (hs.map ov)) ∧ hs.length = rs.length ∧ Fill hs ∧
  ∀ (p k : Addr) (H' : Hp), H p = none → H k = none → p ≠ k → Same H H' → H' p = some (.tup [.ref k, ov (stepR rs hs (some n)).2]) → H' k = some (.tup ((stepR rs hs (some n)).1.map ov)) → Q (.ref p) H'
/-- what a row gives: a new pair of a new list and a new tuple -/
def NewRun (H : Hp) (rs : List Rule) (ns : List Int) (Q : VK) : Prop := ∀ (p o h : Addr) (H' : Hp), H p = none → H o = none → H h = none → Same H H' → H' p = some (.tup [.ref o, .ref h]) →
  H' o = some (.lst ((runR rs (nones rs.length) ns).1.map ov)) → H' h = some (.tup ((runR rs (nones rs.length) ns).2.map ov)) → Q (.ref p) H'
def spChCall (K : PySem.W.Frag) : Sp := fun vs H Q _ => ∃ (c a : Addr) (rs : List Rule) (ns : List Int), vs = [.ref c, .ref a] ∧ ChainAt K H c rs ∧ H a = some (.lst (ns.map V.int)) ∧ ns.length ≤ 1000 ∧ (∀ z ∈ ns, numOk z) ∧ NewRun H rs ns Q
def spLen (K : PySem.W.Frag) : Sp := fun vs H Q _ => ∃ (c : Addr) (rs : List Rule), vs = [.ref c] ∧ ChainAt K H c rs ∧ Q (.int rs.length) H
def spItem (K : PySem.W.Frag) : Sp := fun vs H Q _ => ∃ (c : Addr) (rs : List Rule) (i : Nat) (r : Rule), vs = [.ref c, .int i] ∧ ChainAt K H c rs ∧ rs[i]? = some r ∧ ∀ a, CellAt K H a r → Q (.ref a) H
def spShift (K : PySem.W.Frag) : Sp := fun vs H Q _ => ∃ (c d : Addr) (rs qs : List Rule), vs = [.ref c, .ref d] ∧ ChainAt K H c rs ∧ ChainAt K H d qs ∧ rs.length + qs.length ≤ 8 ∧ NewCh K H (rs ++ qs) Q
def spChNeg (K : PySem.W.Frag) : Sp := fun vs H Q _ => ∃ (c : Addr) (rs : List Rule), vs = [.ref c] ∧ ChainAt K H c rs ∧ NewCh K H (rs.map Rule.neg) Q
def spChEq (K : PySem.W.Frag) : Sp := fun vs H Q _ => ∃ (c d : Addr) (rs qs : List Rule), vs = [.ref c, .ref d] ∧ ChainAt K H c rs ∧ ChainAt K H d qs ∧ Q (.bl (decide (rs = qs))) H
/-- what the written part says of Chain -/
structure Chains (K : PySem.W.Frag) (mg : Str → Option Value) : Prop where
  cls : Cls K (ChC K)
  isi : Isi K (ChC K)
  glo : mg "Chain" = some (.ref (ChC K))
  make : Mk K (ChC K) (He.ma K (ChC K) "__init__")
  noC : NoAttr K (ChC K) "cells"
  maxI : ∃ u, Con K (ChC K) "MAX_CELLS" (.int 8) u
  maxC : ∃ u, ClX.CVal K (ChC K) (.type "type") "MAX_CELLS" (.int 8) u
  rd : ClX.CRead K (ChC K) (.type "type")
  par : ClX.CMet K (ChC K) (.type "type") "parse" (cmP K "Chain" "parse") (cgA K "Chain" "parse")
  slf : PySem.W.selfFirst K (ChC K) = true
  kit : PySem.W.kitOne K (.ref (ChC K)) (.ref (ChC K)) = some true
  text : PropOf K (ChC K) "text" (He.ma K (ChC K) "text") (pgA K "Chain" "text")
  empty : PropOf K (ChC K) "empty" (He.ma K (ChC K) "empty") (pgA K "Chain" "empty")
  step : Meth K (ChC K) "step" (He.ma K (ChC K) "step")
  call : Spec K (ChC K) "__call__" (He.ma K (ChC K) "__call__")
  len : Spec K (ChC K) "__len__" (He.ma K (ChC K) "__len__")
  item : Spec K (ChC K) "__getitem__" (He.ma K (ChC K) "__getitem__")
  shift : Spec K (ChC K) "__rshift__" (He.ma K (ChC K) "__rshift__")
  neg : Spec K (ChC K) "__neg__" (He.ma K (ChC K) "__neg__")
  eq : Spec K (ChC K) "__eq__" (He.ma K (ChC K) "__eq__")
  ne : PySem.W.findIn K (.ref (ChC K)) "__ne__" = some (some (.builtin "object.__ne__"))
theorem ChainAt.ty {K : PySem.W.Frag} {mg : Str → Option Value} {H : Hp} {a : Addr} {rs : List Rule} (T : Chains K mg) (c : ChainAt K H a rs) : TyX K H (.ref a) (.ref (ChC K)) := by
  obtain ⟨dx, t, as, h1, _⟩ := c
  exact .base (.ins h1 T.cls T.isi.ha T.isi.hn T.isi.ht T.isi.hm)
end SC
set_option maxRecDepth 100000
set_option maxHeartbeats 2000000
/-! # Part N: labels read back -/
namespace SC
open PySem PySem.Spec PyProof.Rows L2 TL
theorem rem_hit {x y : Str} {z : List Nat} (e : tl x = tl y ++ z) (hy : tl y ≠ []) : tl (Txt.removeprefix x y) = z := by
  have hs : PySem.Builtin.Str.subAt x y 0 = true := by
    rw [PySem.StrLaws.subAt_eq, List.drop_zero]
    show ((tl x).take y.length == tl y) = true
    rw [e, len_tl y, List.take_left]
    simp
  have l1 : x.length = y.length + z.length := by
    rw [len_tl x, e, List.length_append, len_tl y]
  have l2 : 0 < y.length := by
    rw [len_tl y]
    exact List.length_pos_iff.mpr hy
  have e1 : Txt.removeprefix x y = PySem.Builtin.Str.strSub x y.length x.length := by
    unfold Txt.removeprefix
    rw [if_pos hs]
    unfold Txt.affix
    dsimp only
    rw [if_neg (by simp; omega)]
  rw [e1, tl_strSub_end, e, len_tl y, List.drop_left]
theorem rem_miss {x y : Str} (h : (tl x).take (tl y).length ≠ tl y) : Txt.removeprefix x y = x := by
  have hs : PySem.Builtin.Str.subAt x y 0 = false := by
    rw [PySem.StrLaws.subAt_eq, List.drop_zero]
    show ((tl x).take y.length == tl y) = false
    rw [len_tl y]
    simpa using h
  unfold Txt.removeprefix
  rw [hs]
  rfl
theorem minus_tl : tl ("-" : Str) = [45] := by decide +kernel
theorem nearS_tl : tl ("near:" : Str) = [110, 101, 97, 114, 58] := by decide +kernel
theorem rem_near (m : Int) : Txt.removeprefix (Rule.near m).label ("near:" : Str) = numS m := by
  apply ext_tl
  rw [numS_tl]
  refine rem_hit ?_ (by rw [nearS_tl]; simp)
  rw [nearS_tl]
  exact near_tl m
/-- the digits behind the sign -/
theorem rem_minus (m : Int) : tl (Txt.removeprefix (numS m) ("-" : Str)) = numL m.natAbs := by
  by_cases h : m < 0
  · refine rem_hit ?_ (by rw [minus_tl]; simp)
    rw [minus_tl, numS_tl]
    unfold numZ
    rw [if_pos h]
    rfl
  · have e : numZ m = numL m.natAbs := if_neg h
    rw [rem_miss, numS_tl, e]
    rw [numS_tl, e, minus_tl]
    intro z
    have hd := numL_digits m.natAbs
    have hm : (45 : Nat) ∈ numL m.natAbs := by
      have : (45 : Nat) ∈ (numL m.natAbs).take [45].length := by
        rw [z]
        simp
      exact List.mem_of_mem_take this
    have := hd 45 hm
    omega
theorem digit_all {x : Str} {n : Nat} (e : tl x = numL n) : Txt.isascii x = true ∧ Txt.isdigit x = true := by
  have hd := numL_digits n
  have key : ∀ p : Nat → Bool, (∀ c, 48 ≤ c → c ≤ 57 → p c = true) → x.cps.all p = true := fun p hp => by
    rw [← Array.all_toList]
    show (tl x).all p = true
    rw [e, List.all_eq_true]
    intro c hc
    exact hp c (hd c hc).1 (hd c hc).2
  constructor
  · exact key _ fun c h1 h2 => decide_eq_true (by omega)
  · unfold Txt.isdigit
    rw [key _ fun c h1 h2 => ?_]
    · have hl : 0 < x.length := by
        rw [len_tl x, e]
        exact List.length_pos_iff.mpr (numL_ne n)
      simpa using hl
    · rw [PyProof.Rows.cls_isdigit c (by omega)]
      have : c = 48 ∨ c = 49 ∨ c = 50 ∨ c = 51 ∨ c = 52 ∨ c = 53 ∨ c = 54 ∨ c = 55 ∨ c = 56 ∨ c = 57 := by omega
      rcases this with rfl | rfl | rfl | rfl | rfl | rfl | rfl | rfl | rfl | rfl <;> decide +kernel
theorem digit_len {x : Str} {m : Int} (e : tl x = numL m.natAbs) (h : numOk m) : x.length ≤ 10 := by
  rw [len_tl x, e]
  obtain ⟨h1, h2⟩ := h
  exact numL_len (k := 10) (by decide) (by omega)
theorem starts_near (m : Int) : Txt.startswith (Rule.near m).label ("near:" : Str) = true := by
  have l : (Rule.near m).label.length = 5 + (numZ m).length := by
    show (("near:" : Str) ++ numS m).length = _
    rw [len_tl, near_tl, List.length_append]
    rfl
  have hs : PySem.Builtin.Str.subAt (Rule.near m).label ("near:" : Str) 0 = true := by
    rw [PySem.StrLaws.subAt_eq, List.drop_zero]
    show ((tl (("near:" : Str) ++ numS m)).take ("near:" : Str).length == tl ("near:" : Str)) = true
    rw [near_tl, len_tl ("near:" : Str), nearS_tl]
    simp
  unfold Txt.startswith
  rw [hs, l, len_tl ("near:" : Str), nearS_tl]
  simp
theorem space_tl : tl (" " : Str) = [32] := by decide +kernel
theorem label_free {r : Rule} (h : r.ok) : 32 ∉ tl r.label := by
  cases r with
  | near m =>
    show 32 ∉ tl (("near:" : Str) ++ numS m)
    rw [near_tl]
    intro z
    rcases List.mem_append.mp z with z | z
    · simp at z
    · have hd := numL_digits m.natAbs
      unfold numZ at z
      split at z
      · rcases List.mem_cons.mp z with z | z
        · cases z
        · have := hd 32 z
          omega
      · have := hd 32 z
        omega
  | _ => decide +kernel
theorem split_txt {rs : List Rule} (hn : 1 ≤ rs.length) (h : ∀ r ∈ rs, r.ok) : Txt.split (txtOf rs) (" " : Str) = rs.map Rule.label := by
  unfold txtOf
  refine TL.split_join (s := 32) (S := []) space_tl (by decide +kernel) ?_ ?_
  · intro z
    have z2 : rs = [] := List.map_eq_nil_iff.mp z
    rw [z2] at hn
    simp at hn
  · intro p hp
    obtain ⟨r, hr, rfl⟩ := List.mem_map.mp hp
    exact label_free (h r hr)
end SC
set_option maxRecDepth 100000
set_option maxHeartbeats 2000000
/-! # Part P: what chains do, as plain mathematics -/
namespace SC
open PySem PySem.Spec PyProof.Rows L2 TL
theorem step_none : ∀ (rs : List Rule) (hs : List (Option Int)), stepR rs hs none = (hs, none)
  | [], _ => by unfold stepR; rfl
  | _ :: _, [] => by unfold stepR; rfl
  | r :: rs, none :: hs => by
    unfold stepR
    rw [step_none rs hs]
  | r :: rs, some h :: hs => by unfold stepR; rfl
theorem step_cn {r : Rule} {rs : List Rule} {hs : List (Option Int)} {c : Option Int} : stepR (r :: rs) (none :: hs) c = (c :: hs, none) := by
  show (c :: (stepR rs hs none).1, (stepR rs hs none).2) = _
  rw [step_none]
theorem step_cs {r : Rule} {rs : List Rule} {h : Int} {hs : List (Option Int)} {c : Int} : stepR (r :: rs) (some h :: hs) (some c) = (some (r.keep h c).1 :: (stepR rs hs (some (r.keep h c).2)).1, (stepR rs hs (some (r.keep h c).2)).2) := by
  conv => lhs; unfold stepR
theorem step_nil {hs : List (Option Int)} {c : Option Int} : stepR [] hs c = (hs, c) := by unfold stepR; rfl
theorem step_len : ∀ (rs : List Rule) (hs : List (Option Int)) (c : Option Int), (stepR rs hs c).1.length = hs.length
  | [], hs, c => by rw [step_nil]
  | r :: rs, [], c => by cases c <;> (unfold stepR; rfl)
  | r :: rs, none :: hs, c => by rw [step_cn]; rfl
  | r :: rs, some h :: hs, none => by rw [step_none]
  | r :: rs, some h :: hs, some c => by
    rw [step_cs, List.length_cons, step_len rs hs, List.length_cons]
theorem step_app : ∀ (rs : List Rule) (hs : List (Option Int)) (c : Option Int) (rs' : List Rule) (hs' : List (Option Int)), rs.length = hs.length →
    stepR (rs ++ rs') (hs ++ hs') c = ((stepR rs hs c).1 ++ (stepR rs' hs' (stepR rs hs c).2).1, (stepR rs' hs' (stepR rs hs c).2).2)
  | [], [], c, rs', hs', _ => by rw [step_nil, List.nil_append, List.nil_append]; rfl
  | r :: rs, none :: hs, c, rs', hs', _ => by
    rw [List.cons_append, List.cons_append, step_cn, step_cn, step_none]
    rfl
  | r :: rs, some h :: hs, none, rs', hs', _ => by
    rw [step_none, step_none, step_none]
  | r :: rs, some h :: hs, some c, rs', hs', e => by
    rw [List.cons_append, List.cons_append, step_cs, step_cs, step_app rs hs _ rs' hs' (by simpa using e)]
    rfl
  | [], _ :: _, _, _, _, e => by simp at e
  | _ :: _, [], _, _, _, e => by simp at e
/-- all cells hold a number: one comes out -/
theorem step_full : ∀ (rs : List Rule) (xs : List Int) (c : Int), rs.length = xs.length → ∃ (ys : List Int) (d : Int), stepR rs (xs.map some) (some c) = (ys.map some, some d) ∧ ys.length = xs.length
  | [], [], c, _ => ⟨[], c, step_nil, rfl⟩
  | r :: rs, x :: xs, c, e => by
    obtain ⟨ys, d, e1, e2⟩ := step_full rs xs (r.keep x c).2 (by simpa using e)
    refine ⟨(r.keep x c).1 :: ys, d, ?_, by rw [List.length_cons, e2, List.length_cons]⟩
    rw [List.map_cons, step_cs, e1]
    rfl
  | [], _ :: _, _, e => by simp at e
  | _ :: _, [], _, e => by simp at e
/-- an empty cell behind: none comes out, one more cell holds a number -/
theorem step_more {rs : List Rule} {xs : List Int} {n : Nat} {c : Int} (e : rs.length = xs.length + (n + 1)) : ∃ ys : List Int, stepR rs (xs.map some ++ nones (n + 1)) (some c) = (ys.map some ++ nones n, none) ∧ ys.length = xs.length + 1 := by
  obtain ⟨ys, d, e1, e2⟩ := step_full (rs.take xs.length) xs c (by rw [List.length_take]; omega)
  have er : rs = rs.take xs.length ++ rs.drop xs.length := (List.take_append_drop _ _).symm
  cases ed : rs.drop xs.length with
  | nil =>
    have := congrArg List.length ed
    rw [List.length_drop] at this
    simp at this
    omega
  | cons r rest =>
    rw [ed] at er
    rw [er, step_app _ _ _ _ _ (by rw [List.length_take, List.length_map]; omega), e1]
    refine ⟨ys ++ [d], ?_, by rw [List.length_append, e2]; rfl⟩
    show ((ys.map some) ++ (stepR (r :: rest) (none :: nones n) (some d)).1, (stepR (r :: rest) (none :: nones n) (some d)).2) = _
    rw [step_cn, List.map_append]
    simp
theorem step_fill {rs : List Rule} {hs : List (Option Int)} {c : Int} (f : Fill hs) (e : hs.length = rs.length) : Fill (stepR rs hs (some c)).1 := by
  obtain ⟨xs, n, rfl⟩ := f
  rw [List.length_append, List.length_map, nones, List.length_replicate] at e
  cases n with
  | zero =>
    obtain ⟨ys, d, e1, _⟩ := step_full rs xs c (by omega)
    have e0 : xs.map some ++ nones 0 = xs.map some := List.append_nil _
    rw [e0, e1]
    exact ⟨ys, 0, (List.append_nil _).symm⟩
  | succ n =>
    obtain ⟨ys, e1, _⟩ := step_more (rs := rs) (xs := xs) (n := n) (c := c) (by omega)
    rw [e1]
    exact ⟨ys, n, rfl⟩
theorem fill_nones (n : Nat) : Fill (nones n) := ⟨[], n, rfl⟩
theorem nones_len (n : Nat) : (nones n).length = n := List.length_replicate
theorem run_len (rs : List Rule) : ∀ (ns : List Int) (hs : List (Option Int)), (runR rs hs ns).1.length = ns.length ∧ (runR rs hs ns).2.length = hs.length
  | [], hs => ⟨rfl, rfl⟩
  | n :: ns, hs => by
    obtain ⟨h1, h2⟩ := run_len rs ns (stepR rs hs (some n)).1
    constructor
    · show ((stepR rs hs (some n)).2 :: (runR rs (stepR rs hs (some n)).1 ns).1).length = _
      rw [List.length_cons, h1, List.length_cons]
    · show (runR rs (stepR rs hs (some n)).1 ns).2.length = _
      rw [h2, step_len]
theorem run_app (rs : List Rule) : ∀ (ns ms : List Int) (hs : List (Option Int)), runR rs hs (ns ++ ms) = ((runR rs hs ns).1 ++ (runR rs (runR rs hs ns).2 ms).1, (runR rs (runR rs hs ns).2 ms).2)
  | [], ms, hs => rfl
  | n :: ns, ms, hs => by
    show ((stepR rs hs (some n)).2 :: (runR rs (stepR rs hs (some n)).1 (ns ++ ms)).1, (runR rs (stepR rs hs (some n)).1 (ns ++ ms)).2) = _
    rw [run_app rs ns ms]
    rfl
/-- first nothing comes out, then all -/
theorem run_shape (rs : List Rule) : ∀ (ns : List Int) (xs : List Int) (n : Nat), rs.length = xs.length + n → ∃ ds : List Int, (runR rs (xs.map some ++ nones n) ns).1 = nones (min n ns.length) ++ ds.map some ∧ ds.length = ns.length - n
  | [], xs, n, _ => ⟨[], by rw [List.length_nil, Nat.min_zero]; rfl, by simp⟩
  | m :: ns, xs, 0, e => by
    obtain ⟨ys, d, e1, e2⟩ := step_full rs xs m (by omega)
    obtain ⟨ds, e3, e4⟩ := run_shape rs ns ys 0 (by omega)
    refine ⟨d :: ds, ?_, by simp [e4]⟩
    have e0 : xs.map some ++ nones 0 = xs.map some := List.append_nil _
    have e5 : ys.map some ++ nones 0 = ys.map some := List.append_nil _
    rw [e5] at e3
    rw [e0]
    show (stepR rs (xs.map some) (some m)).2 :: (runR rs (stepR rs (xs.map some) (some m)).1 ns).1 = _
    rw [e1, e3]
    simp [nones]
  | m :: ns, xs, n + 1, e => by
    obtain ⟨ys, e1, e2⟩ := step_more (rs := rs) (xs := xs) (n := n) (c := m) e
    obtain ⟨ds, e3, e4⟩ := run_shape rs ns ys n (by omega)
    refine ⟨ds, ?_, by simp [e4]⟩
    show (stepR rs (xs.map some ++ nones (n + 1)) (some m)).2 :: (runR rs (stepR rs (xs.map some ++ nones (n + 1)) (some m)).1 ns).1 = _
    rw [e1, e3, List.length_cons, Nat.add_min_add_right]
    rfl
/-- what one chain lets out goes into the next one -/
def weave : List (Option Int) → List (Option Int) → List (Option Int)
  | none :: o, q => none :: weave o q
  | some _ :: o, z :: q => z :: weave o q
  | _, _ => []
theorem run_comp (rs qs : List Rule) : ∀ (ns : List Int) (hs ks : List (Option Int)), rs.length = hs.length →
    runR (rs ++ qs) (hs ++ ks) ns = (weave (runR rs hs ns).1 (runR qs ks ((runR rs hs ns).1.filterMap id)).1, (runR rs hs ns).2 ++ (runR qs ks ((runR rs hs ns).1.filterMap id)).2)
  | [], hs, ks, _ => rfl
  | n :: ns, hs, ks, e => by
    show ((stepR (rs ++ qs) (hs ++ ks) (some n)).2 :: (runR (rs ++ qs) (stepR (rs ++ qs) (hs ++ ks) (some n)).1 ns).1, (runR (rs ++ qs) (stepR (rs ++ qs) (hs ++ ks) (some n)).1 ns).2) = _
    have er : (runR rs hs (n :: ns)) = ((stepR rs hs (some n)).2 :: (runR rs (stepR rs hs (some n)).1 ns).1, (runR rs (stepR rs hs (some n)).1 ns).2) := rfl
    rw [step_app rs hs (some n) qs ks e, er]
    have el : rs.length = (stepR rs hs (some n)).1.length := by rw [step_len]; exact e
    cases ed : (stepR rs hs (some n)).2 with
    | none =>
      rw [step_none, run_comp rs qs ns _ _ el]
      rfl
    | some d =>
      rw [run_comp rs qs ns _ _ el]
      rfl
theorem weave_front : ∀ (m : Nat) (ds : List Int) (o : List (Option Int)), o.length = ds.length → weave (nones m ++ ds.map some) o = nones m ++ o
  | 0, [], [], _ => rfl
  | 0, d :: ds, z :: o, e => by
    have h := weave_front 0 ds o (by simpa using e)
    show z :: weave (ds.map some) o = z :: o
    rw [show weave (ds.map some) o = o from h]
  | m + 1, ds, o, e => by
    have h := weave_front m ds o e
    show none :: weave (nones m ++ ds.map some) o = none :: (nones m ++ o)
    rw [h]
  | 0, [], _ :: _, e => by simp at e
  | 0, _ :: _, [], e => by simp at e
theorem filter_front (m : Nat) (ds : List Int) : (nones m ++ ds.map some).filterMap id = ds := by
  rw [List.filterMap_append]
  have h1 : (nones m).filterMap id = [] := by
    induction m with
    | zero => rfl
    | succ m ih =>
      show (none :: nones m).filterMap id = []
      simpa using ih
  have h2 : (ds.map some).filterMap id = ds := by simp
  rw [h1, h2]
  rfl
end SC
set_option maxRecDepth 100000
set_option maxHeartbeats 2000000
/-! # Part Q: tuples of cells, equal or not; a chain's own operators -/
namespace SC
open PySem PySem.Spec PyProof.Rows L2 TL
section
variable {prog : Program} {w : World} {A : Around} {R : Result → Shared → Prop}
/-- == of two tuples, whatever comes out: J i s: the first i items were equal -/
theorem tuple_eqB (l b : Addr) (xs ys : Array Value) (n n2 : Nat) (dd dd2 : Option Addr) (sl sl2 : Array (Option Value)) (J : Nat → Shared → Prop) (Bd : Shared → Prop)
    (turn : ∀ i (h1 : i < xs.size) (h2 : i < ys.size) s, J i s → wpAny (model prog w) A.in1 (eqBool xs[i] ys[i]) (fun r s' => (r = true ∧ J (i + 1) s') ∨ (r = false ∧ Bd s')) (fun e s' => R (.error e) s') s)
    (fin : ∀ s, J (min xs.size ys.size) s → R (.ok (.ret (.bool (xs.size == ys.size)))) s) (bad : ∀ s, Bd s → R (.ok (.ret (.bool false))) s)
    {s : Shared} (hl : s.heap.get? l = some { cls := .type "tuple", dict := dd, data := .seq xs n, slots := sl }) (hb : s.heap.get? b = some { cls := .type "tuple", dict := dd2, data := .seq ys n2, slots := sl2 }) (h : J 0 s) :
    wpAny (model prog w) A.in1 (Builtin.«tuple.__eq__» ⟨[.ref l, .ref b], []⟩) (GQ.FinOf prog w A R) (fun e s' => R (.error e) s') s := by
  have ss := AutoSeq1.sub_tuple_tuple
  have hZ : (xs.toList.zip ys.toList).length = min xs.size ys.size := by simp
  have hJ := h
  obtain ⟨hp, g, d, tk, os⟩ := s
  wp_walk using AutoSeq1.wpAny_loadPart' hl, AutoSeq1.wpAny_loadPart' hb, wpAny_forIn_list _ (fun rest z s' => z.1 = none ∧ ∃ i, rest = (xs.toList.zip ys.toList).drop i ∧ i ≤ min xs.size ys.size ∧ J i s') _
  case turn =>
    rintro ⟨y, x⟩ rest z s' ⟨hz1, i, hz, hi, hI⟩
    have hlt : i < (xs.toList.zip ys.toList).length := by
      rcases Nat.lt_or_ge i (xs.toList.zip ys.toList).length with q | q
      · exact q
      · rw [List.drop_of_length_le q] at hz
        cases hz
    have h1 : i < xs.size := by rw [hZ] at hlt; omega
    have h2 : i < ys.size := by rw [hZ] at hlt; omega
    rw [List.drop_eq_getElem_cons hlt] at hz
    injection hz with hyx hrest
    have hy : y = xs[i] := by simpa using congrArg Prod.fst hyx
    have hx : x = ys[i] := by simpa using congrArg Prod.snd hyx
    subst hy hx
    refine wpAny_bind (wpAny_mono (turn i h1 h2 s' hI) (fun r s2 q2 => ?_) fun _ _ e => e)
    rcases q2 with ⟨hr, q2⟩ | ⟨hr, q2⟩
    · subst hr
      wp_walk
      exact ⟨rfl, i + 1, hrest, by omega, q2⟩
    · subst hr
      wp_walk
      exact bad s2 q2
  case fin =>
    rintro ⟨z1, z2⟩ s' ⟨hz1, i, hz, hi, hI⟩
    simp only at hz1
    subst hz1
    have hge : min xs.size ys.size ≤ i := by
      rcases Nat.lt_or_ge i (xs.toList.zip ys.toList).length with q | q
      · rw [List.drop_eq_getElem_cons q] at hz
        cases hz
      · exact hZ ▸ q
    have ei : i = min xs.size ys.size := by omega
    have hR := fin s' (ei ▸ hI)
    wp_walk
    simpa [Builtin.Tuple.tupleCompareSizes] using hR
  case h => exact ⟨rfl, 0, rfl, Nat.zero_le _, hJ⟩
end
section
variable {X : Cx} {n : Nat}
/-- two cells at one place have one rule -/
theorem CellAt.uniq {K : PySem.W.Frag} {mg : Str → Option Value} {H : Hp} {a : Addr} {r r' : Rule} (T : Cells K mg) (c : CellAt K H a r) (c' : CellAt K H a r') : r = r' := by
  obtain ⟨_, dx, h1⟩ := c
  obtain ⟨_, dy, h2⟩ := c'
  rw [h1] at h2
  have z := Option.some.inj h2
  injection z with z1 z2 z3
  have hk : r.kd = r'.kd := T.inj z1
  cases r with
  | near m =>
    cases r' with
    | near m' =>
      have z4 : [(("mark" : Str), V.int m)] = [(("mark" : Str), V.int m')] := z3
      injection z4 with z5 _
      injection z5 with _ z6
      rw [V.int.inj z6]
    | _ => cases hk
  | _ => cases r' <;> first | rfl | cases hk
theorem env_at {pins : List (Addr × Obj)} {σ : L2.St} {H : Hp} {s : Shared} {A : Around} (sb : Sub X n A) (I : Inv X pins σ H s) : Env0 X.prog X.w X.K X.mg X.base A X.stack s H := by
  have e := I.env0
  exact ⟨by rw [sb.fr]; exact e.frames, e.mod, e.bs, e.bsz, e.funs, e.frf, e.hok, e.bare⟩
/-- == of two cells, below the running body -/
theorem cell_rc {A : Around} {pins : List (Addr × Obj)} {σ : L2.St} {H : Hp} {s : Shared} {a b : Addr} {r r' : Rule} (T : CellsOk X.prog X.w X.K X.mg X.base n) (sb : Sub X n A) (I : Inv X pins σ H s) (ca : CellAt X.K H a r) (cb : CellAt X.K H b r') :
    wpAny (model X.prog X.w) A (richCompare .Eq (.ref a) (.ref b)) (fun v s' => v = .bool (decide (r.label = r'.label)) ∧ Inv X pins σ H s') X.xe s := by
  obtain ⟨ox, od, J⟩ := cell_inst I ca
  obtain ⟨oy, oe, J'⟩ := cell_inst I cb
  obtain ⟨m, hF⟩ := I.fr
  have one : ∀ {x y : Addr} {p q : Rule}, CellAt X.K H x p → CellAt X.K H y q → decide (p.label = q.label) = decide (r.label = r'.label) →
      wpAny (model X.prog X.w) A (call (.ref (He.ma X.K (He.ga X.K p.kd.cn) "__eq__")) [.ref x, .ref y]) (PySem.W.CmpBack (fun v s' => v = .bool (decide (r.label = r'.label)) ∧ Inv X pins σ H s')) X.xe s := fun {x y p q} cx cy e => by
    have hsp : spEq X.K p.kd [.ref x, .ref y] H (fun v H' => v = .bl (decide (p.label = q.label)) ∧ H' = H) E0 := ⟨x, p, .ref y, rfl, rfl, cx, .inl ⟨y, q, rfl, cy, rfl, rfl⟩⟩
    refine wpAny_mono (wpAny_call (SlX.run_at (us := [.ref x, .ref y]) (ws := [.ref x, .ref y]) (T.eq p.kd) sb.room (env_at sb I) pass0 I (.cons rfl (.cons rfl .nil)) hsp)) (fun v s1 z => ?_) fun _ _ e => e
    obtain ⟨yv, H1, I1, r1, ey, eH⟩ := z
    subst ey eH
    obtain rfl : v = Value.bool _ := r1
    rw [e]
    exact ⟨rfl, I1⟩
  have left := one ca cb rfl
  have right := one cb ca (by
    by_cases e : r.label = r'.label
    · rw [decide_eq_true e, decide_eq_true e.symm]
    · rw [decide_eq_false e, decide_eq_false fun z => e z.symm])
  have sc := T.t.eq r.kd
  have sd := T.t.eq r'.kd
  by_cases hk : r.kd = r'.kd
  · exact PySem.W.cmp_K (op := .Eq) (tb := .ref (He.ga X.K r'.kd.cn)) sb.room.units0 hF I.ok.mod.kin J J'.type (by rw [hk]; simp [PySem.W.notFirst]) sc.at_ sc.fn left
  · by_cases h1 : r.kd = .first
    · refine eq_right sb.room.units0 I.kIn J J' (fun z => hk (T.t.inj z)) ?_ sd.at_ sd.fn right
      have z := T.t.sub r'.kd r.kd
      rw [decide_eq_true h1, Bool.or_true] at z
      exact z
    · refine PySem.W.cmp_K (op := .Eq) (tb := .ref (He.ga X.K r'.kd.cn)) sb.room.units0 hF I.ok.mod.kin J J'.type ?_ sc.at_ sc.fn left
      have z := T.t.sub r'.kd r.kd
      rw [decide_eq_false (fun e => hk e.symm), decide_eq_false h1] at z
      unfold PySem.W.notFirst
      rw [z]
      simp
theorem cell_eqB {A : Around} {pins : List (Addr × Obj)} {σ : L2.St} {H : Hp} {s : Shared} {a b : Addr} {r r' : Rule} (T : CellsOk X.prog X.w X.K X.mg X.base n) (sb : Sub X n A) (I : Inv X pins σ H s) (ca : CellAt X.K H a r) (cb : CellAt X.K H b r') :
    wpAny (model X.prog X.w) A (eqBool (.ref a) (.ref b)) (fun v s' => v = decide (r = r') ∧ Inv X pins σ H s') X.xe s := by
  by_cases hab : a = b
  · subst hab
    obtain rfl := ca.uniq T.t cb
    rw [decide_eq_true rfl]
    exact SeqAt.EqAt.same (A := A) (s := s) (.ref a) X.prog X.w X.xe _ ⟨rfl, I⟩
  · refine GQ.eqBool_refG hab (wpAny_mono (cell_rc T sb I ca cb) (fun v s1 z => ?_) fun _ _ e => e)
    obtain ⟨ev, I1⟩ := z
    refine ⟨_, ev, ?_, I1⟩
    by_cases e : r = r'
    · rw [decide_eq_true e, decide_eq_true (by rw [e])]
    · rw [decide_eq_false e, decide_eq_false fun z => e (label_inj ca.1 cb.1 z)]
/-- two tuples of cells -/
def rTupC (K : PySem.W.Frag) : R2 := fun x y H Q => ∃ (t u : Addr) (as bs : List Addr) (rs qs : List Rule), x = .ref t ∧ y = .ref u ∧ H t = some (.tup (as.map V.ref)) ∧ H u = some (.tup (bs.map V.ref)) ∧ Cs K H as rs ∧ Cs K H bs qs ∧ Q (.bl (decide (rs = qs))) H
theorem vals_ref : ∀ {as : List Addr} {us : List Value}, Vals (as.map V.ref) us → us = as.map Value.ref
  | [], _, .nil => rfl
  | a :: as, _, .cons r t => by
    rw [vals_ref t]
    obtain rfl := (show _ = Value.ref a from r)
    rfl
theorem op_eqTC (T : CellsOk X.prog X.w X.K X.mg X.base n) (hr : Room (n + 1) X.A) : OpR X (compareOp .Eq) (rTupC X.K) := by
  intro pins s σ H x y v u Q I rx ry h
  obtain ⟨t, t2, as, bs, rs, qs, ex, ey, ht, hu, ca, cb, q⟩ := h
  subst ex ey
  obtain rfl : v = Value.ref t := rx
  obtain rfl : u = Value.ref t2 := ry
  show wpAny (model X.prog X.w) X.A (richCompare .Eq (.ref t) (.ref t2)) (EP X pins σ Q) X.xe s
  obtain ⟨its, r1, ⟨⟨c1, d1, dt1, l1⟩, ho, hc, n1, hd⟩, _⟩ := I.tuple (SqT.of ht)
  obtain ⟨its2, r2, ⟨⟨c2, d2, dt2, l2⟩, ho2, hc2, n2, hd2⟩, _⟩ := I.tuple (SqT.of hu)
  simp only at hc hd hc2 hd2
  subst hc hd hc2 hd2
  obtain rfl := vals_ref r1
  obtain rfl := vals_ref r2
  have sb : Sub X (n + 1) X.A := ⟨hr, rfl⟩
  refine wpAny_richCompare_same_room (op := .Eq) ⟨_, ho, rfl⟩ ⟨_, ho2, rfl⟩ F.slot_tuple_eq (GQ.call_here F.slot_tuple_eq ⟨_, ho, rfl⟩ F.entry_tuple_eq (F.args_tuple_eq_2 _ _) ?_) sb.room.units0
  refine tuple_eqB (R := wants (fun v s' => v ≠ .notImplemented ∧ EP X pins σ Q v s') X.xe) t t2 _ _ n1 n2 d1 d2 l1 l2 (fun i s' => Inv X pins σ H s' ∧ rs.take i = qs.take i ∧ i ≤ rs.length ∧ i ≤ qs.length) (fun s' => Inv X pins σ H s' ∧ rs ≠ qs) (fun i h1 h2 s1 z => ?_) (fun s1 z => ?_) (fun s1 z => ?_) ho ho2 ⟨I, rfl, Nat.zero_le _, Nat.zero_le _⟩
  · obtain ⟨I1, et, l1, l2⟩ := z
    have k1 : i < as.length := by simpa using h1
    have k2 : i < bs.length := by simpa using h2
    have m1 : as[i]? = some as[i] := List.getElem?_eq_getElem k1
    have m2 : bs[i]? = some bs[i] := List.getElem?_eq_getElem k2
    have j1 : i < rs.length := by rw [← ca.1]; exact k1
    have j2 : i < qs.length := by rw [← cb.1]; exact k2
    have o1 : rs[i]? = some rs[i] := List.getElem?_eq_getElem j1
    have o2 : qs[i]? = some qs[i] := List.getElem?_eq_getElem j2
    have g1 : (as.map Value.ref).toArray[i] = Value.ref as[i] := by simp
    have g2 : (bs.map Value.ref).toArray[i] = Value.ref bs[i] := by simp
    rw [g1, g2]
    refine wpAny_mono (cell_eqB T sb.in1 I1 (ca.2 i _ _ m1 o1) (cb.2 i _ _ m2 o2)) (fun r s2 z => ?_) fun _ _ e => e
    obtain ⟨er, I2⟩ := z
    by_cases e : rs[i] = qs[i]
    · rw [decide_eq_true e] at er
      refine .inl ⟨er, I2, ?_, by omega, by omega⟩
      rw [take_more o1, take_more o2, et, e]
    · rw [decide_eq_false e] at er
      refine .inr ⟨er, I2, fun z => e ?_⟩
      subst z
      rfl
  · obtain ⟨I1, et, l1, l2⟩ := z
    refine ⟨(fun z => nomatch z), .bl _, H, I1, rfl, ?_⟩
    have e : ((as.map Value.ref).toArray.size == (bs.map Value.ref).toArray.size) = decide (rs = qs) := by
      have s1 : (as.map Value.ref).toArray.size = rs.length := by simp [ca.1]
      have s2 : (bs.map Value.ref).toArray.size = qs.length := by simp [cb.1]
      rw [s1, s2] at et l1 l2 ⊢
      by_cases e : rs.length = qs.length
      · rw [e, Nat.min_self] at et
        rw [← e, List.take_length] at et
        rw [e, List.take_length] at et
        rw [et]
        simp
      · rw [decide_eq_false fun z => e (by rw [z])]
        simpa using e
    rw [e]
    exact q
  · obtain ⟨I1, e⟩ := z
    refine ⟨(fun z => nomatch z), .bl false, H, I1, rfl, ?_⟩
    rw [decide_eq_false e] at q
    exact q
/-! ### what a chain's methods promise, at level n; its operators -/
structure ChainOk (P : Program) (w : World) (K : PySem.W.Frag) (mg : Str → Option Value) (base : Heap) (n : Nat) : Prop where
  t : Chains K mg
  parse : FnR P w K mg base CX0 n (cgA K "Chain" "parse") (spParse K)
  text : ∃ fd ps, FnOk P w K mg base CX0 n (pgA K "Chain" "text") fd ps (spText K) ∧ Binds K fd ps []
  empty : ∃ fd ps, FnOk P w K mg base CX0 n (pgA K "Chain" "empty") fd ps (spEmpty K) ∧ Binds K fd ps []
  call : FnR P w K mg base CX0 n (He.ma K (ChC K) "__call__") (spChCall K)
  len : FnR P w K mg base CX0 n (He.ma K (ChC K) "__len__") (spLen K)
  item : FnR P w K mg base CX0 n (He.ma K (ChC K) "__getitem__") (spItem K)
  shift : FnR P w K mg base CX0 n (He.ma K (ChC K) "__rshift__") (spShift K)
  neg : FnR P w K mg base CX0 n (He.ma K (ChC K) "__neg__") (spChNeg K)
  eq : FnR P w K mg base CX0 n (He.ma K (ChC K) "__eq__") (spChEq K)
theorem chain_inst {pins : List (Addr × Obj)} {σ : L2.St} {H : Hp} {s : Shared} {a : Addr} {rs : List Rule} (I : Inv X pins σ H s) (c : ChainAt X.K H a rs) : ∃ ox od, PySem.W.InstAt s.heap a ox (ChC X.K) od := by
  obtain ⟨dx, t, as, ha, _⟩ := c
  obtain ⟨mA, O, _⟩ := ins_get I.hok ha
  obtain ⟨od, J, _⟩ := O.look
  exact ⟨_, _, J⟩
/-- x >> y -/
def rShift (K : PySem.W.Frag) : R2 := fun x y H Q => ∃ (c d : Addr) (rs qs : List Rule), x = .ref c ∧ y = .ref d ∧ ChainAt K H c rs ∧ ChainAt K H d qs ∧ rs.length + qs.length ≤ 8 ∧ NewCh K H (rs ++ qs) Q
theorem op_shift (T : ChainOk X.prog X.w X.K X.mg X.base n) (hr : Room n X.A) : OpR X (binaryOp .RShift) (rShift X.K) := by
  intro pins s σ H x y v u Q I rx ry h
  obtain ⟨c, d, rs, qs, ex, ey, cc, cd, hl, q⟩ := h
  subst ex ey
  obtain rfl : v = Value.ref c := rx
  obtain rfl : u = Value.ref d := ry
  obtain ⟨ox, od, J⟩ := chain_inst I cc
  obtain ⟨oy, oe, J'⟩ := chain_inst I cd
  obtain ⟨m, hF⟩ := I.fr
  refine PySem.W.binop_K (op := .RShift) hF I.ok.mod.kin J J'.type T.t.slf T.t.shift.at_ T.t.shift.fn ?_
  refine wpAny_mono (wpAny_call (run_fnR (E := E0) (us := [.ref c, .ref d]) (vs := [.ref c, .ref d]) T.shift hr pass0 I (.cons rfl (.cons rfl .nil)) ⟨c, d, rs, qs, rfl, cc, cd, hl, q⟩)) (fun v s1 z => ?_) fun _ _ e => e
  obtain ⟨zv, H1, I1, rz, qz⟩ := z
  exact SlX.cmpback rz ⟨zv, H1, I1, rz, qz⟩
/-- -x -/
def rChNeg (K : PySem.W.Frag) : V → Hp → VK → Prop := fun x H Q => ∃ (c : Addr) (rs : List Rule), x = .ref c ∧ ChainAt K H c rs ∧ NewCh K H (rs.map Rule.neg) Q
theorem un_chneg (T : ChainOk X.prog X.w X.K X.mg X.base n) (hr : Room n X.A) : UnR X (unaryOp .USub) (rChNeg X.K) := by
  intro pins s σ H x v Q I rx h
  obtain ⟨c, rs, ex, cc, q⟩ := h
  subst ex
  obtain rfl : v = Value.ref c := rx
  obtain ⟨ox, od, J⟩ := chain_inst I cc
  obtain ⟨m, hF⟩ := I.fr
  exact PySem.W.ksp_neg hF I.ok.mod.kin J T.t.neg.at_ T.t.neg.fn (wpAny_call (run_fnR (E := E0) (us := [.ref c]) (vs := [.ref c]) T.neg hr pass0 I (.cons rfl .nil) ⟨c, rs, rfl, cc, q⟩))
/-- x == y, x != y -/
def rChEq (K : PySem.W.Frag) : R2 := fun x y H Q => ∃ (c d : Addr) (rs qs : List Rule), x = .ref c ∧ y = .ref d ∧ ChainAt K H c rs ∧ ChainAt K H d qs ∧ Q (.bl (decide (rs = qs))) H
theorem op_cheq (T : ChainOk X.prog X.w X.K X.mg X.base n) (hr : Room n X.A) : OpR X (compareOp .Eq) (rChEq X.K) := by
  intro pins s σ H x y v u Q I rx ry h
  obtain ⟨c, d, rs, qs, ex, ey, cc, cd, q⟩ := h
  subst ex ey
  obtain rfl : v = Value.ref c := rx
  obtain rfl : u = Value.ref d := ry
  obtain ⟨ox, od, J⟩ := chain_inst I cc
  obtain ⟨oy, oe, J'⟩ := chain_inst I cd
  obtain ⟨m, hF⟩ := I.fr
  show wpAny (model X.prog X.w) X.A (richCompare .Eq (.ref c) (.ref d)) (EP X pins σ Q) X.xe s
  refine PySem.W.cmp_K (op := .Eq) (tb := .ref (ChC X.K)) hr.units0 hF I.ok.mod.kin J J'.type (by simp [PySem.W.notFirst]) T.t.eq.at_ T.t.eq.fn ?_
  refine wpAny_mono (wpAny_call (run_fnR (E := E0) (us := [.ref c, .ref d]) (vs := [.ref c, .ref d]) T.eq hr pass0 I (.cons rfl (.cons rfl .nil)) ⟨c, d, rs, qs, rfl, cc, cd, q⟩)) (fun v s1 z => ?_) fun _ _ e => e
  obtain ⟨zv, H1, I1, rz, qz⟩ := z
  exact SlX.cmpback rz ⟨zv, H1, I1, rz, qz⟩
def rChNe (K : PySem.W.Frag) : R2 := fun x y H Q => ∃ (c d : Addr) (rs qs : List Rule), x = .ref c ∧ y = .ref d ∧ ChainAt K H c rs ∧ ChainAt K H d qs ∧ Q (.bl (!decide (rs = qs))) H
theorem op_chne (T : ChainOk X.prog X.w X.K X.mg X.base n) (hr : Room (n + 1) X.A) : OpR X (compareOp .NotEq) (rChNe X.K) := by
  intro pins s σ H x y v u Q I rx ry h
  obtain ⟨c, d, rs, qs, ex, ey, cc, cd, q⟩ := h
  subst ex ey
  obtain rfl : v = Value.ref c := rx
  obtain rfl : u = Value.ref d := ry
  obtain ⟨ox, od, J⟩ := chain_inst I cc
  obtain ⟨oy, oe, J'⟩ := chain_inst I cd
  show wpAny (model X.prog X.w) X.A (richCompare .NotEq (.ref c) (.ref d)) (EP X pins σ Q) X.xe s
  refine ne_own (Nat.lt_of_le_of_lt (Nat.add_le_add_left (by decide : 1 ≤ 64) _) hr.units) I.kIn J J' T.t.isi.hm T.t.ne T.t.eq.at_ T.t.eq.fn ?_
  have sb : Sub X n X.A.in1 := ⟨hr.in1, rfl⟩
  have hsp : spChEq X.K [.ref c, .ref d] H (fun v H' => v = .bl (decide (rs = qs)) ∧ Q (.bl (!decide (rs = qs))) H') E0 := ⟨c, d, rs, qs, rfl, cc, cd, rfl, q⟩
  refine wpAny_mono (wpAny_call (SlX.run_at (us := [.ref c, .ref d]) (ws := [.ref c, .ref d]) T.eq sb.room (env_at sb I) pass0 I (.cons rfl (.cons rfl .nil)) hsp)) (fun v s1 z => ?_) fun _ _ e => e
  obtain ⟨yv, H1, I1, r1, ey, qz⟩ := z
  subst ey
  obtain rfl : v = Value.bool _ := r1
  exact ⟨_, rfl, .bl _, H1, I1, rfl, qz⟩
/-- x[i] -/
def rChIx (K : PySem.W.Frag) : R2 := fun x y H Q => ∃ (c : Addr) (rs : List Rule) (i : Nat) (r : Rule), x = .ref c ∧ y = .int i ∧ ChainAt K H c rs ∧ rs[i]? = some r ∧ ∀ a, CellAt K H a r → Q (.ref a) H
theorem pe_ixC {a b : Expr} {ta tb : TE} {pos : Pos} (T : ChainOk X.prog X.w X.K X.mg X.base n) (hr : Room (n + 1) X.A) (ha : PE X a ta) (hb : PE X b tb)
    (hsl : ∀ v u, subscripted b true v u = runValue (.builtin "lifetime.subscript" ⟨[v, u], []⟩) := by intro _ _; with_unfolding_all rfl) : PE X (.Subscript a b pos) (tOp (rChIx X.K) ta tb) := by
  refine ⟨fun pins s0 σ H0 Q I0 h0 => Subscript_ (binT ha hb I0 h0 fun v u s x y H I rx ry h => ?_)⟩
  obtain ⟨c, rs, i, r, ex, ey, cc, hi, q⟩ := h
  subst ex ey
  obtain rfl : v = Value.ref c := rx
  obtain ⟨ox, od, J⟩ := chain_inst I cc
  obtain ⟨m, hF⟩ := I.fr
  have sb : Sub X n X.A.in1 := ⟨hr.in1, rfl⟩
  obtain ⟨tk, rfl⟩ := ry
  refine PySem.W.sub_K hF I.ok.mod.kin J T.t.item.at_ T.t.item.fi T.t.item.fn ?_ (hsl _ _)
  exact wpAny_call (SlX.run_at (us := [.ref c, .int i tk]) (ws := [.ref c, .int i]) T.item sb.room (env_at sb I) pass0 (E := E0) I (.cons rfl (.cons ⟨tk, rfl⟩ .nil)) ⟨c, rs, i, r, rfl, cc, hi, q⟩)
/-- len(x) -/
theorem call_lenC (T : ChainOk X.prog X.w X.K X.mg X.base n) (hr : Room (n + 1) X.A) : CallR X (.builtin "len") (fun xs H Q => ∃ (c : Addr) (rs : List Rule), xs = [.ref c] ∧ ChainAt X.K H c rs ∧ Q (.int rs.length) H) := by
  intro pins s σ H xs us Q I r h
  obtain ⟨c, rs, ex, cc, q⟩ := h
  subst ex
  obtain ⟨u, eu, ru⟩ := r.one
  subst eu
  obtain rfl : u = Value.ref c := ru
  obtain ⟨ox, od, J⟩ := chain_inst I cc
  obtain ⟨m, hF⟩ := I.fr
  have sb : Sub X n X.A.in1 := ⟨hr.in1, rfl⟩
  have h8 : rs.length ≤ 8 := by
    obtain ⟨_, _, _, _, _, _, _, z⟩ := cc
    exact z
  refine PySem.W.len_K hF I.ok.mod.kin J T.t.len.at_ T.t.len.fn ?_
  have hsp : spLen X.K [.ref c] H (fun v H' => v = .int rs.length ∧ Q (.int rs.length) H') E0 := ⟨c, rs, rfl, cc, rfl, q⟩
  refine wpAny_mono (wpAny_call (SlX.run_at (us := [.ref c]) (ws := [.ref c]) T.len sb.room (env_at sb I) pass0 I (.cons rfl .nil) hsp)) (fun v s1 z => ?_) fun _ _ e => e
  obtain ⟨yv, H1, I1, r1, ey, qz⟩ := z
  subst ey
  obtain ⟨tk, rfl⟩ := r1
  exact ⟨⟨by omega, by omega⟩, .int rs.length, H1, I1.tok _, ⟨_, rfl⟩, qz⟩
end
end SC
set_option maxRecDepth 100000
set_option maxHeartbeats 2000000
/-! # Part R: lists and tuples of numbers and None, of labels, compared as data -/
namespace SC
open PySem PySem.Spec PyProof.Rows L2 TL
def oD : Option Int → PyData
  | none => .none
  | some i => .int i
theorem dp_ov {K : PySem.W.Frag} {H : Hp} : ∀ os : List (Option Int), DpAll K H (os.map ov) (os.map oD)
  | [] => .nil
  | none :: os => .cons .non (dp_ov os)
  | some i :: os => .cons (.int i) (dp_ov os)
theorem lay_ov : ∀ os : List (Option Int), PyData.canLayAll0 (os.map oD) = true ∧ PyData.depthAll (os.map oD) = 0
  | [] => ⟨by unfold PyData.canLayAll0; rfl, by unfold PyData.depthAll; rfl⟩
  | o :: os => by
    obtain ⟨h1, h2⟩ := lay_ov os
    have a1 : PyData.canLay0 (oD o) = true := by cases o <;> (unfold oD PyData.canLay0; rfl)
    have a2 : PyData.depth (oD o) = 0 := by cases o <;> (unfold oD PyData.depth; rfl)
    constructor
    · rw [List.map_cons]
      unfold PyData.canLayAll0
      rw [a1, h1]
      rfl
    · rw [List.map_cons]
      unfold PyData.depthAll
      rw [a2, h2]
      rfl
theorem shp_list (os : List (Option Int)) : SeqAt.shaped (.list (os.map oD)) = true := by
  obtain ⟨h1, h2⟩ := lay_ov os
  unfold SeqAt.shaped PyData.canLay0 PyData.depth
  rw [h1, h2]
  rfl
theorem shp_tup (os : List (Option Int)) : SeqAt.shaped (.tuple (os.map oD)) = true := by
  obtain ⟨h1, h2⟩ := lay_ov os
  unfold SeqAt.shaped PyData.canLay0 PyData.depth
  rw [h1, h2]
  rfl
theorem shp_pair (os ps : List (Option Int)) : SeqAt.shaped (.tuple [.list (os.map oD), .tuple (ps.map oD)]) = true := by
  obtain ⟨h1, h2⟩ := lay_ov os
  obtain ⟨h3, h4⟩ := lay_ov ps
  have c : PyData.canLay0 (.tuple [.list (os.map oD), .tuple (ps.map oD)]) = true := by
    simp only [PyData.canLay0, PyData.canLayAll0, h1, h3]
    rfl
  have d : PyData.depth (.tuple [.list (os.map oD), .tuple (ps.map oD)]) = 2 := by
    simp only [PyData.depth, PyData.depthAll, h2, h4]
    rfl
  unfold SeqAt.shaped
  rw [c, d]
  rfl
theorem eqv_self {d : PyData} (h : SeqAt.shaped d = true) : PyData.eqv d d = true := SeqAt.eqv_refl d (SeqAt.canLay_of_shaped h)
/-! ### labels -/
def lD (rs : List Rule) : List PyData := rs.map fun r => .str r.label
theorem dp_lb {K : PySem.W.Frag} {H : Hp} : ∀ rs : List Rule, DpAll K H ((rs.map Rule.label).map V.str) (lD rs)
  | [] => .nil
  | r :: rs => .cons (.str _) (dp_lb rs)
theorem label_small {r : Rule} : PyData.strOk r.label = true := by
  have key : ∀ c ∈ tl r.label, c < 1114112 := by
    cases r with
    | near m =>
      show ∀ c ∈ tl (("near:" : Str) ++ numS m), c < 1114112
      rw [near_tl]
      intro c hc
      rcases List.mem_append.mp hc with z | z
      · simp at z
        omega
      · have hd := numL_digits m.natAbs
        unfold numZ at z
        split at z
        · rcases List.mem_cons.mp z with z | z
          · omega
          · have := hd c z
            omega
        · have := hd c z
          omega
    | _ => decide +kernel
  unfold PyData.strOk
  rw [← Array.all_toList, List.all_eq_true]
  exact fun c hc => decide_eq_true (key c hc)
theorem lay_lb : ∀ rs : List Rule, PyData.canLayAll0 (lD rs) = true ∧ PyData.depthAll (lD rs) = 0
  | [] => ⟨by unfold lD PyData.canLayAll0; rfl, by unfold lD PyData.depthAll; rfl⟩
  | r :: rs => by
    obtain ⟨h1, h2⟩ := lay_lb rs
    constructor
    · show PyData.canLayAll0 (.str r.label :: lD rs) = true
      unfold PyData.canLayAll0 PyData.canLay0
      rw [h1, label_small]
      rfl
    · show PyData.depthAll (.str r.label :: lD rs) = 0
      unfold PyData.depthAll PyData.depth
      rw [h2]
      rfl
theorem shp_lb (rs : List Rule) : SeqAt.shaped (.list (lD rs)) = true := by
  obtain ⟨h1, h2⟩ := lay_lb rs
  unfold SeqAt.shaped PyData.canLay0 PyData.depth
  rw [h1, h2]
  rfl
theorem eqv_lb : ∀ {rs qs : List Rule}, (∀ r ∈ rs, r.ok) → (∀ r ∈ qs, r.ok) → PyData.eqvAll (lD rs) (lD qs) = decide (rs = qs)
  | [], [], _, _ => by unfold lD PyData.eqvAll; rfl
  | [], q :: qs, _, _ => by
    show PyData.eqvAll [] (.str q.label :: lD qs) = _
    unfold PyData.eqvAll
    simp
  | r :: rs, [], _, _ => by
    show PyData.eqvAll (.str r.label :: lD rs) [] = _
    unfold PyData.eqvAll
    simp
  | r :: rs, q :: qs, h, h' => by
    show PyData.eqvAll (.str r.label :: lD rs) (.str q.label :: lD qs) = _
    have ih := eqv_lb (fun z hz => h z (List.mem_cons_of_mem _ hz)) (fun z hz => h' z (List.mem_cons_of_mem _ hz))
    unfold PyData.eqvAll PyData.eqv
    rw [ih]
    by_cases e : r = q
    · subst e
      simp
    · have ne : (r.label == q.label) = false := by
        simp only [beq_eq_false_iff_ne, ne_eq]
        exact fun z => e (label_inj (h r List.mem_cons_self) (h' q List.mem_cons_self) z)
      rw [ne, decide_eq_false fun z => e (List.cons.inj z).1]
      rfl
end SC
set_option maxRecDepth 100000
set_option maxHeartbeats 2000000
/-! # Part S: chains one behind another, as mathematics -/
namespace SC
open PySem PySem.Spec PyProof.Rows L2 TL
/-- the numbers that came out -/
def outsOf (rs : List Rule) (ns : List Int) : List Int := (runR rs (nones rs.length) ns).1.filterMap id
theorem keep_pred {P : Int → Prop} (r : Rule) {h c : Int} (hh : P h) (hc : P c) : P (r.keep h c).1 ∧ P (r.keep h c).2 := by
  cases r with
  | first => exact ⟨hh, hc⟩
  | last => exact ⟨hc, hh⟩
  | less =>
    unfold Rule.keep
    dsimp only
    split
    · exact ⟨hc, hh⟩
    · exact ⟨hh, hc⟩
  | greater =>
    unfold Rule.keep
    dsimp only
    split
    · exact ⟨hc, hh⟩
    · exact ⟨hh, hc⟩
  | near m =>
    unfold Rule.keep
    dsimp only
    split
    · exact ⟨hc, hh⟩
    · exact ⟨hh, hc⟩
theorem step_pred {P : Int → Prop} : ∀ (rs : List Rule) (hs : List (Option Int)) (c : Option Int), (∀ x, some x ∈ hs → P x) → (∀ x, c = some x → P x) →
    (∀ x, some x ∈ (stepR rs hs c).1 → P x) ∧ ∀ x, (stepR rs hs c).2 = some x → P x
  | [], hs, c, h1, h2 => by
    rw [step_nil]
    exact ⟨h1, h2⟩
  | r :: rs, [], c, h1, h2 => by
    have e : stepR (r :: rs) [] c = ([], c) := by cases c <;> (unfold stepR; rfl)
    rw [e]
    exact ⟨h1, h2⟩
  | r :: rs, none :: hs, c, h1, h2 => by
    rw [step_cn]
    refine ⟨fun x hx => ?_, fun x hx => by cases hx⟩
    rcases List.mem_cons.mp hx with z | z
    · exact h2 x z.symm
    · exact h1 x (List.mem_cons_of_mem _ z)
  | r :: rs, some h :: hs, none, h1, h2 => by
    rw [step_none]
    exact ⟨h1, fun x hx => by cases hx⟩
  | r :: rs, some h :: hs, some c, h1, h2 => by
    rw [step_cs]
    have kp := keep_pred (P := P) r (h1 h List.mem_cons_self) (h2 c rfl)
    obtain ⟨a1, a2⟩ := step_pred rs hs (some (r.keep h c).2) (fun x hx => h1 x (List.mem_cons_of_mem _ hx)) (fun x hx => by cases hx; exact kp.2)
    refine ⟨fun x hx => ?_, a2⟩
    rcases List.mem_cons.mp hx with z | z
    · cases z
      exact kp.1
    · exact a1 x z
theorem run_pred {P : Int → Prop} (rs : List Rule) : ∀ (ns : List Int) (hs : List (Option Int)), (∀ x, some x ∈ hs → P x) → (∀ x ∈ ns, P x) → ∀ x, some x ∈ (runR rs hs ns).1 → P x
  | [], hs, _, _, x, hx => by cases hx
  | n :: ns, hs, h1, h2, x, hx => by
    obtain ⟨a1, a2⟩ := step_pred rs hs (some n) h1 (fun y hy => by cases hy; exact h2 n List.mem_cons_self)
    have hx : some x ∈ (stepR rs hs (some n)).2 :: (runR rs (stepR rs hs (some n)).1 ns).1 := hx
    rcases List.mem_cons.mp hx with z | z
    · exact a2 x z.symm
    · exact run_pred rs ns _ a1 (fun y hy => h2 y (List.mem_cons_of_mem _ hy)) x z
theorem outs_num {rs : List Rule} {ns : List Int} (h : ∀ z ∈ ns, numOk z) : ∀ z ∈ outsOf rs ns, numOk z := fun z hz => by
  unfold outsOf at hz
  rw [List.mem_filterMap] at hz
  obtain ⟨o, ho, e⟩ := hz
  have e2 : o = some z := e
  rw [e2] at ho
  refine run_pred (P := numOk) rs ns _ (fun x hx => ?_) h z ho
  unfold nones at hx
  rw [List.mem_replicate] at hx
  cases hx.2
theorem outs_len (rs : List Rule) (ns : List Int) : (outsOf rs ns).length ≤ ns.length := by
  unfold outsOf
  have h := List.length_filterMap_le id (runR rs (nones rs.length) ns).1
  rw [(run_len rs ns (nones rs.length)).1] at h
  exact h
theorem nones_add (m n : Nat) : nones (m + n) = nones m ++ nones n := by
  unfold nones
  rw [List.replicate_append_replicate]
theorem run_join (rs qs : List Rule) (ns : List Int) :
    (runR (rs ++ qs) (nones (rs ++ qs).length) ns).1 = nones (ns.length - (outsOf rs ns).length) ++ (runR qs (nones qs.length) (outsOf rs ns)).1 ∧
    (runR (rs ++ qs) (nones (rs ++ qs).length) ns).2 = (runR rs (nones rs.length) ns).2 ++ (runR qs (nones qs.length) (outsOf rs ns)).2 := by
  obtain ⟨ds, e1, e2⟩ := run_shape rs ns [] rs.length (by simp)
  have e1 : (runR rs (nones rs.length) ns).1 = nones (min rs.length ns.length) ++ ds.map some := e1
  have eo : outsOf rs ns = ds := by
    unfold outsOf
    rw [e1, filter_front]
  have ec := run_comp rs qs ns (nones rs.length) (nones qs.length) (nones_len _).symm
  rw [List.length_append, nones_add, ec]
  have e3 : (runR rs (nones rs.length) ns).1.filterMap id = ds := eo
  rw [e3, eo]
  constructor
  · show weave (runR rs (nones rs.length) ns).1 _ = _
    rw [e1, weave_front _ _ _ (run_len qs ds (nones qs.length)).1, e2]
    congr 2
    omega
  · rfl
theorem run_twice (rs : List Rule) (ns : List Int) : (runR rs (nones rs.length) (ns ++ ns)).1.take ns.length = (runR rs (nones rs.length) ns).1 := by
  rw [run_app]
  have l := (run_len rs ns (nones rs.length)).1
  show ((runR rs (nones rs.length) ns).1 ++ _).take ns.length = _
  rw [← l, List.take_left]
end SC
set_option maxRecDepth 100000
set_option maxHeartbeats 2000000
/-! # Part T: chains of one rule; opposite chains; nothing is lost -/
namespace SC
open PySem PySem.Spec PyProof.Rows L2 TL
/-! ### less: the smallest ones in order -/
def insL (c : Int) : List Int → List Int
  | [] => [c]
  | x :: xs => if c < x then c :: insL x xs else x :: insL c xs
theorem insL_len : ∀ (xs : List Int) (c : Int), (insL c xs).length = xs.length + 1
  | [], c => rfl
  | x :: xs, c => by
    unfold insL
    split
    · rw [List.length_cons, insL_len xs, List.length_cons]
    · rw [List.length_cons, insL_len xs, List.length_cons]
theorem insL_perm : ∀ (xs : List Int) (c : Int), (insL c xs).Perm (c :: xs)
  | [], c => List.Perm.refl _
  | x :: xs, c => by
    unfold insL
    split
    · exact (insL_perm xs x).cons c
    · exact ((insL_perm xs c).cons x).trans (List.Perm.swap c x xs)
theorem insL_low : ∀ (xs : List Int) (c y : Int), y ≤ c → (∀ z ∈ xs, y ≤ z) → ∀ z ∈ insL c xs, y ≤ z := fun xs c y h1 h2 z hz => by
  rcases List.mem_cons.mp ((insL_perm xs c).mem_iff.mp hz) with e | e
  · rw [e]
    exact h1
  · exact h2 z e
theorem insL_rise : ∀ (xs : List Int) (c : Int), xs.Pairwise (· ≤ ·) → (insL c xs).Pairwise (· ≤ ·)
  | [], c, _ => List.pairwise_singleton _ c
  | x :: xs, c, h => by
    obtain ⟨h1, h2⟩ := List.pairwise_cons.mp h
    unfold insL
    split
    · rename_i hc
      exact List.pairwise_cons.mpr ⟨insL_low xs x c (by omega) fun z hz => by have := h1 z hz; omega, insL_rise xs x h2⟩
    · rename_i hc
      exact List.pairwise_cons.mpr ⟨insL_low xs c x (by omega) h1, insL_rise xs c h2⟩
theorem insL_take : ∀ (k : Nat) (xs : List Int) (c : Int), (insL c (xs.take k)).take k = (insL c xs).take k
  | 0, xs, c => by rw [List.take_zero, List.take_zero]
  | k + 1, [], c => rfl
  | k + 1, x :: xs, c => by
    rw [List.take_succ_cons]
    unfold insL
    split
    · rw [List.take_succ_cons, List.take_succ_cons, insL_take k xs x]
    · rw [List.take_succ_cons, List.take_succ_cons, insL_take k xs c]
def heldL (k : Nat) (xs : List Int) : List (Option Int) := (xs.take k).map some ++ nones (k - xs.length)
theorem step_less : ∀ (k : Nat) (xs : List Int) (c : Int), (stepR (List.replicate k Rule.less) (heldL k xs) (some c)).1 = heldL k (insL c xs)
  | 0, xs, c => by
    rw [List.replicate_zero, step_nil]
    unfold heldL
    rw [List.take_zero, List.take_zero, Nat.zero_sub, Nat.zero_sub]
  | k + 1, [], c => by
    have e1 : heldL (k + 1) [] = none :: nones k := rfl
    have e2 : heldL (k + 1) [c] = some c :: nones k := by
      unfold heldL
      simp
    rw [e1, List.replicate_succ, step_cn]
    show some c :: nones k = heldL (k + 1) [c]
    rw [e2]
  | k + 1, x :: xs, c => by
    have e1 : heldL (k + 1) (x :: xs) = some x :: heldL k xs := by
      unfold heldL
      rw [List.take_succ_cons, List.length_cons, Nat.add_sub_add_right]
      rfl
    rw [e1, List.replicate_succ, step_cs]
    unfold insL
    split
    · rename_i hc
      have ek : Rule.less.keep x c = (c, x) := if_pos hc
      rw [ek]
      dsimp only
      rw [step_less k xs x]
      unfold heldL
      rw [List.take_succ_cons, List.length_cons, Nat.add_sub_add_right]
      rfl
    · rename_i hc
      have ek : Rule.less.keep x c = (x, c) := if_neg hc
      rw [ek]
      dsimp only
      rw [step_less k xs c]
      unfold heldL
      rw [List.take_succ_cons, List.length_cons, Nat.add_sub_add_right]
      rfl
def sortL (ns : List Int) : List Int := ns.foldl (fun xs c => insL c xs) []
theorem run_less (k : Nat) : ∀ (ns xs : List Int), (runR (List.replicate k Rule.less) (heldL k xs) ns).2 = heldL k (ns.foldl (fun xs c => insL c xs) xs)
  | [], xs => rfl
  | n :: ns, xs => by
    show (runR _ (stepR (List.replicate k Rule.less) (heldL k xs) (some n)).1 ns).2 = _
    rw [step_less, run_less k ns]
    rfl
theorem sort_perm : ∀ (ns xs : List Int), (ns.foldl (fun xs c => insL c xs) xs).Perm (ns ++ xs)
  | [], xs => List.Perm.refl _
  | n :: ns, xs => by
    show (ns.foldl (fun xs c => insL c xs) (insL n xs)).Perm _
    refine (sort_perm ns (insL n xs)).trans ?_
    refine ((insL_perm xs n).append_left ns).trans ?_
    exact List.perm_middle
theorem sort_rise : ∀ (ns xs : List Int), xs.Pairwise (· ≤ ·) → (ns.foldl (fun xs c => insL c xs) xs).Pairwise (· ≤ ·)
  | [], xs, h => h
  | n :: ns, xs, h => sort_rise ns (insL n xs) (insL_rise xs n h)
/-- two rising lists of the same numbers are one -/
theorem rise_one : ∀ {xs ys : List Int}, xs.Perm ys → xs.Pairwise (· ≤ ·) → ys.Pairwise (· ≤ ·) → xs = ys
  | [], ys, p, _, _ => p.nil_eq
  | x :: xs, [], p, _, _ => by
    have := p.length_eq
    simp at this
  | x :: xs, y :: ys, p, h1, h2 => by
    obtain ⟨a1, a2⟩ := List.pairwise_cons.mp h1
    obtain ⟨b1, b2⟩ := List.pairwise_cons.mp h2
    have e : x = y := by
      have m1 : x ∈ y :: ys := p.mem_iff.mp List.mem_cons_self
      have m2 : y ∈ x :: xs := p.mem_iff.mpr List.mem_cons_self
      rcases List.mem_cons.mp m1 with z | z
      · exact z
      · rcases List.mem_cons.mp m2 with u | u
        · exact u.symm
        · have := b1 x z
          have := a1 y u
          omega
    subst e
    rw [rise_one (p.cons_inv) a2 b2]
/-- a chain of `less` holds the smallest numbers in order -/
theorem less_holds {k : Nat} {ns ms : List Int} (p : ms.Perm ns) (h : ms.Pairwise (· ≤ ·)) : (runR (List.replicate k Rule.less) (nones k) ns).2 = (ms.take k).map some ++ nones (k - ms.length) := by
  have e0 : heldL k [] = nones k := by
    unfold heldL
    simp
  have r := run_less k ns []
  rw [e0] at r
  have q := sort_perm ns []
  rw [List.append_nil] at q
  rw [r, rise_one (q.trans p.symm) (sort_rise ns [] List.Pairwise.nil) h]
  rfl
/-! ### opposite chains -/
def ng : Option Int → Option Int
  | none => none
  | some i => some (-i)
theorem keep_neg (r : Rule) (h c : Int) : r.neg.keep (-h) (-c) = (-(r.keep h c).1, -(r.keep h c).2) := by
  cases r with
  | first => rfl
  | last => rfl
  | less =>
    show (if -h < -c then (-c, -h) else (-h, -c)) = (-(if c < h then (c, h) else (h, c)).1, -(if c < h then (c, h) else (h, c)).2)
    by_cases e : c < h
    · rw [if_pos e, if_pos (by omega)]
    · rw [if_neg e, if_neg (by omega)]
  | greater =>
    show (if -c < -h then (-c, -h) else (-h, -c)) = (-(if h < c then (c, h) else (h, c)).1, -(if h < c then (c, h) else (h, c)).2)
    by_cases e : h < c
    · rw [if_pos e, if_pos (by omega)]
    · rw [if_neg e, if_neg (by omega)]
  | near m =>
    show (if absI (-c - -m) < absI (-h - -m) then (-c, -h) else (-h, -c)) = (-(if absI (c - m) < absI (h - m) then (c, h) else (h, c)).1, -(if absI (c - m) < absI (h - m) then (c, h) else (h, c)).2)
    have ab : ∀ i j : Int, absI (-i - -j) = absI (i - j) := fun i j => by
      unfold absI
      split <;> split <;> omega
    rw [ab, ab]
    by_cases e : absI (c - m) < absI (h - m)
    · rw [if_pos e, if_pos e]
    · rw [if_neg e, if_neg e]
theorem step_neg : ∀ (rs : List Rule) (hs : List (Option Int)) (c : Option Int), stepR (rs.map Rule.neg) (hs.map ng) (ng c) = ((stepR rs hs c).1.map ng, ng (stepR rs hs c).2)
  | [], hs, c => by
    rw [List.map_nil, step_nil, step_nil]
  | r :: rs, [], c => by
    cases c <;> (unfold stepR; rfl)
  | r :: rs, none :: hs, c => by
    rw [List.map_cons, List.map_cons, step_cn]
    show stepR (r.neg :: rs.map Rule.neg) (none :: hs.map ng) (ng c) = _
    rw [step_cn]
    rfl
  | r :: rs, some h :: hs, none => by
    show stepR _ _ none = _
    rw [step_none, step_none]
    rfl
  | r :: rs, some h :: hs, some c => by
    rw [List.map_cons, List.map_cons, step_cs]
    show stepR (r.neg :: rs.map Rule.neg) (some (-h) :: hs.map ng) (some (-c)) = _
    rw [step_cs, keep_neg]
    have ih := step_neg rs hs (some (r.keep h c).2)
    have ih : stepR (rs.map Rule.neg) (hs.map ng) (some (-(r.keep h c).2)) = _ := ih
    dsimp only
    rw [ih]
    rfl
theorem run_neg (rs : List Rule) : ∀ (ns : List Int) (hs : List (Option Int)), runR (rs.map Rule.neg) (hs.map ng) (ns.map fun z => -z) = ((runR rs hs ns).1.map ng, (runR rs hs ns).2.map ng)
  | [], hs => rfl
  | n :: ns, hs => by
    have s := step_neg rs hs (some n)
    have s : stepR (rs.map Rule.neg) (hs.map ng) (some (-n)) = _ := s
    show ((stepR (rs.map Rule.neg) (hs.map ng) (some (-n))).2 :: (runR (rs.map Rule.neg) (stepR (rs.map Rule.neg) (hs.map ng) (some (-n))).1 (ns.map fun z => -z)).1, (runR (rs.map Rule.neg) (stepR (rs.map Rule.neg) (hs.map ng) (some (-n))).1 (ns.map fun z => -z)).2) = _
    rw [s]
    dsimp only
    rw [run_neg rs ns]
    rfl
theorem nones_ng (n : Nat) : (nones n).map ng = nones n := by
  unfold nones
  rw [List.map_replicate]
  rfl
end SC
set_option maxRecDepth 100000
set_option maxHeartbeats 2000000
/-! # Part U: nothing is lost; `greater`, `last` and `first` -/
namespace SC
open PySem PySem.Spec PyProof.Rows L2 TL
/-! ### nothing is lost -/
def opL : Option Int → List Int
  | none => []
  | some i => [i]
def fl (os : List (Option Int)) : List Int := os.filterMap id
theorem fl_cons (o : Option Int) (os : List (Option Int)) : fl (o :: os) = opL o ++ fl os := by
  cases o <;> rfl
theorem fl_app (os ps : List (Option Int)) : fl (os ++ ps) = fl os ++ fl ps := List.filterMap_append
theorem keep_perm (r : Rule) (h c : Int) : [(r.keep h c).1, (r.keep h c).2].Perm [h, c] := by
  have key : r.keep h c = (h, c) ∨ r.keep h c = (c, h) := by
    cases r with
    | first => exact .inl rfl
    | last => exact .inr rfl
    | less =>
      by_cases e : c < h
      · exact .inr (if_pos e)
      · exact .inl (if_neg e)
    | greater =>
      by_cases e : h < c
      · exact .inr (if_pos e)
      · exact .inl (if_neg e)
    | near m =>
      by_cases e : absI (c - m) < absI (h - m)
      · exact .inr (if_pos e)
      · exact .inl (if_neg e)
  rcases key with e | e
  · rw [e]
  · rw [e]
    exact List.Perm.swap h c []
theorem step_perm : ∀ (rs : List Rule) (hs : List (Option Int)) (c : Option Int), (fl (stepR rs hs c).1 ++ opL (stepR rs hs c).2).Perm (fl hs ++ opL c)
  | [], hs, c => by
    rw [step_nil]
  | r :: rs, [], c => by
    have e : stepR (r :: rs) [] c = ([], c) := by cases c <;> (unfold stepR; rfl)
    rw [e]
  | r :: rs, none :: hs, c => by
    rw [step_cn, fl_cons, fl_cons]
    show (opL c ++ fl hs ++ []).Perm ([] ++ fl hs ++ opL c)
    rw [List.append_nil, List.nil_append]
    exact List.perm_append_comm
  | r :: rs, some h :: hs, none => by
    rw [step_none]
  | r :: rs, some h :: hs, some c => by
    rw [step_cs, fl_cons, fl_cons]
    have ih := step_perm rs hs (some (r.keep h c).2)
    show ((r.keep h c).1 :: (fl (stepR rs hs (some (r.keep h c).2)).1 ++ opL (stepR rs hs (some (r.keep h c).2)).2)).Perm (h :: (fl hs ++ [c]))
    refine (ih.cons _).trans ?_
    show ((r.keep h c).1 :: (fl hs ++ [(r.keep h c).2])).Perm (h :: (fl hs ++ [c]))
    have k := keep_perm r h c
    have a1 : ((r.keep h c).1 :: (fl hs ++ [(r.keep h c).2])).Perm ([(r.keep h c).1, (r.keep h c).2] ++ fl hs) := List.Perm.cons _ List.perm_append_comm
    have a2 : ([h, c] ++ fl hs).Perm (h :: (fl hs ++ [c])) := List.Perm.cons _ List.perm_append_comm
    exact (a1.trans (k.append_right _)).trans a2
theorem run_perm (rs : List Rule) : ∀ (ns : List Int) (hs : List (Option Int)), (fl (runR rs hs ns).1 ++ fl (runR rs hs ns).2).Perm (ns ++ fl hs)
  | [], hs => List.Perm.refl _
  | n :: ns, hs => by
    have s := step_perm rs hs (some n)
    have ih := run_perm rs ns (stepR rs hs (some n)).1
    show (fl ((stepR rs hs (some n)).2 :: (runR rs (stepR rs hs (some n)).1 ns).1) ++ fl (runR rs (stepR rs hs (some n)).1 ns).2).Perm (n :: ns ++ fl hs)
    rw [fl_cons, List.append_assoc]
    refine (ih.append_left _).trans ?_
    have b1 : (opL (stepR rs hs (some n)).2 ++ (ns ++ fl (stepR rs hs (some n)).1)).Perm (ns ++ (fl (stepR rs hs (some n)).1 ++ opL (stepR rs hs (some n)).2)) := by
      refine List.perm_append_comm.trans ?_
      rw [List.append_assoc]
    refine b1.trans ((s.append_left ns).trans ?_)
    show (ns ++ (fl hs ++ [n])).Perm (n :: (ns ++ fl hs))
    rw [← List.append_assoc]
    exact List.perm_append_comm
theorem fl_nones (n : Nat) : fl (nones n) = [] := by
  induction n with
  | zero => rfl
  | succ n ih =>
    show fl (none :: nones n) = []
    rw [fl_cons, ih]
    rfl
/-! ### greater -/
theorem neg_ng (os : List (Option Int)) : (os.map ng).map ng = os := by
  rw [List.map_map]
  have e : (ng ∘ ng) = id := funext fun o => by
    cases o with
    | none => rfl
    | some i => show some (- -i) = some i; rw [Int.neg_neg]
  rw [e, List.map_id]
theorem greater_holds {k : Nat} {ns ms : List Int} (p : ms.Perm ns) (h : ms.Pairwise (· ≤ ·)) : (runR (List.replicate k Rule.greater) (nones k) ns).2 = (ms.reverse.take k).map some ++ nones (k - ms.length) := by
  have e1 : (List.replicate k Rule.greater).map Rule.neg = List.replicate k Rule.less := by
    rw [List.map_replicate]
    rfl
  have r := run_neg (List.replicate k Rule.greater) ns (nones k)
  rw [e1, nones_ng] at r
  have pm : (ms.reverse.map fun z => -z).Perm (ns.map fun z => -z) := ((List.reverse_perm ms).trans p).map _
  have hm : (ms.reverse.map fun z => -z).Pairwise (· ≤ ·) := by
    rw [List.pairwise_map, List.pairwise_reverse]
    exact h.imp fun hab => by omega
  have l := less_holds (k := k) pm hm
  rw [r] at l
  have l2 := congrArg (List.map ng) l
  rw [neg_ng] at l2
  rw [l2, List.map_append, nones_ng, ← List.map_take, List.map_map, List.map_map, List.length_map, List.length_reverse]
  congr 1
  refine List.map_congr_left fun z _ => ?_
  show some (- -z) = some z
  rw [Int.neg_neg]
/-! ### last -/
theorem step_last : ∀ (k : Nat) (xs : List Int) (c : Int), 0 < k → stepR (List.replicate k Rule.last) (heldL k xs) (some c) = (heldL k (c :: xs), xs[k - 1]?)
  | 0, _, _, h => by omega
  | k + 1, [], c, _ => by
    have e1 : heldL (k + 1) [] = none :: nones k := rfl
    rw [e1, List.replicate_succ, step_cn]
    unfold heldL
    simp
  | 1, x :: xs, c, _ => by
    have e1 : heldL 1 (x :: xs) = [some x] := by
      unfold heldL
      simp [nones]
    have e2 : heldL 1 (c :: x :: xs) = [some c] := by
      unfold heldL
      simp [nones]
    rw [e1, e2, List.replicate_succ, step_cs]
    show (some c :: (stepR [] [] (some x)).1, (stepR [] [] (some x)).2) = _
    rw [step_nil]
    rfl
  | k + 2, x :: xs, c, _ => by
    have e1 : ∀ ys : List Int, heldL (k + 2) (x :: ys) = some x :: heldL (k + 1) ys := fun ys => by
      unfold heldL
      rw [List.take_succ_cons, List.length_cons, show k + 2 - (ys.length + 1) = k + 1 - ys.length by omega]
      rfl
    have e2 : heldL (k + 2) (c :: x :: xs) = some c :: heldL (k + 1) (x :: xs) := by
      unfold heldL
      rw [List.take_succ_cons, List.length_cons (a := c), show k + 2 - ((x :: xs).length + 1) = k + 1 - (x :: xs).length by omega]
      rfl
    rw [e1, e2, List.replicate_succ, step_cs]
    show (some c :: (stepR (List.replicate (k + 1) Rule.last) (heldL (k + 1) xs) (some x)).1, (stepR (List.replicate (k + 1) Rule.last) (heldL (k + 1) xs) (some x)).2) = _
    rw [step_last (k + 1) xs x (by omega)]
    rfl
theorem heldL_nil (k : Nat) : heldL k [] = nones k := by
  unfold heldL
  simp
theorem run_last {k : Nat} (hk : 0 < k) : ∀ (m : Nat) (ns : List Int), ns.length = m → runR (List.replicate k Rule.last) (nones k) ns = (nones (min k ns.length) ++ (ns.take (ns.length - k)).map some, heldL k ns.reverse)
  | 0, ns, e => by
    have : ns = [] := List.eq_nil_of_length_eq_zero e
    subst this
    show (([] : List (Option Int)), nones k) = _
    rw [List.reverse_nil, heldL_nil]
    simp [nones]
  | m + 1, ns, e => by
    have hne : ns ≠ [] := fun z => by
      rw [z] at e
      simp at e
    have es : ns = ns.dropLast ++ [ns.getLast hne] := (List.dropLast_concat_getLast hne).symm
    generalize hd : ns.dropLast = ds at es
    generalize ns.getLast hne = c at es
    have ld : ds.length = m := by
      rw [← hd, List.length_dropLast, e]
      rfl
    subst es
    rw [run_app, run_last hk m ds ld]
    show (_ ++ [(stepR (List.replicate k Rule.last) (heldL k ds.reverse) (some c)).2], (stepR (List.replicate k Rule.last) (heldL k ds.reverse) (some c)).1) = _
    rw [step_last k ds.reverse c hk]
    have e2 : (ds ++ [c]).reverse = c :: ds.reverse := by simp
    rw [e2]
    congr 1
    show nones (min k ds.length) ++ (ds.take (ds.length - k)).map some ++ [ds.reverse[k - 1]?] = nones (min k (ds ++ [c]).length) ++ ((ds ++ [c]).take ((ds ++ [c]).length - k)).map some
    rw [List.length_append, List.length_singleton]
    by_cases hlt : ds.length < k
    · have a1 : ds.reverse[k - 1]? = none := List.getElem?_eq_none (by rw [List.length_reverse]; omega)
      rw [a1, show ds.length - k = 0 by omega, show ds.length + 1 - k = 0 by omega, List.take_zero, List.take_zero, Nat.min_eq_right (by omega), Nat.min_eq_right (by omega), nones_add]
      simp [nones]
    · have hk1 : ds.length - k < ds.length := by omega
      have a1 : ds.reverse[k - 1]? = some ds[ds.length - k] := by
        rw [List.getElem?_reverse (by omega), show ds.length - 1 - (k - 1) = ds.length - k by omega, List.getElem?_eq_getElem hk1]
      rw [a1, show ds.length + 1 - k = (ds.length - k) + 1 by omega, Nat.min_eq_left (by omega), Nat.min_eq_left (by omega), List.append_assoc]
      congr 1
      rw [List.take_append_of_le_length (by omega), take_more (List.getElem?_eq_getElem hk1), List.map_append]
      rfl
end SC
set_option maxRecDepth 100000
set_option maxHeartbeats 2000000
/-! # Part V: what laws over rows share (K31Law has its own copy of these) -/
namespace SC
open PySem PySem.Spec PyProof.Rows L2 TL
/-- what a row gave: a pair of a list and a tuple -/
def Res (H : Hp) (p : Addr) (rs : List Rule) (ns : List Int) : Prop := ∃ o h : Addr, H p = some (.tup [.ref o, .ref h]) ∧ H o = some (.lst ((runR rs (nones rs.length) ns).1.map ov)) ∧ H h = some (.tup ((runR rs (nones rs.length) ns).2.map ov))
theorem Res.same {H H' : Hp} {p : Addr} {rs : List Rule} {ns : List Int} (r : Res H p rs ns) (s : Same H H') : Res H' p rs ns := by
  obtain ⟨o, h, h1, h2, h3⟩ := r
  exact ⟨o, h, s _ _ h1, s _ _ h2, s _ _ h3⟩
theorem rep_flat {α : Type} (z : α) : ∀ m : Nat, (List.replicate m [z]).flatten = List.replicate m z
  | 0 => rfl
  | m + 1 => by
    rw [List.replicate_succ, List.replicate_succ, List.flatten_cons, rep_flat z m]
    rfl
theorem cut_take (xs : List V) (n : Nat) : cutV xs none (some (n : Int)) = xs.take n := by
  unfold cutV
  rw [HT.sIx_none, HT.sIx_nat, List.drop_zero, Nat.sub_zero, List.take_eq_take_iff]
  omega
theorem ChainAt.ins {X : Cx} {K : PySem.W.Frag} {H : Hp} {c : Addr} {rs : List Rule} (k : ChainAt K H c rs) : StX.InsC X H c (ChC K) := by
  obtain ⟨dx, t, as, h, _⟩ := k
  exact .inr ⟨dx, _, h⟩
theorem filter_take {os : List (Option Int)} {i : Nat} {z : Option Int} (h : os[i]? = some z) : ((os.take (i + 1)).filterMap id) = (os.take i).filterMap id ++ (match z with | some x => [x] | none => []) := by
  rw [take_more h, List.filterMap_append]
  cases z <;> rfl
/-- the shape of what comes out: first nothing, then all -/
theorem outs_shape (rs : List Rule) (ns : List Int) : ∃ ds : List Int, (runR rs (nones rs.length) ns).1 = nones (min rs.length ns.length) ++ ds.map some ∧ ds.length = ns.length - rs.length := run_shape rs ns [] rs.length (by simp)
theorem outs_take (rs : List Rule) (ns : List Int) : (runR rs (nones rs.length) ns).1.take rs.length = nones (min rs.length ns.length) := by
  obtain ⟨ds, e1, e2⟩ := outs_shape rs ns
  rw [e1]
  by_cases h : rs.length ≤ ns.length
  · rw [Nat.min_eq_left h, List.take_append_of_le_length (by rw [nones_len]; omega), List.take_of_length_le (by rw [nones_len]; omega)]
  · have e3 : ds = [] := List.eq_nil_of_length_eq_zero (by omega)
    subst e3
    rw [Nat.min_eq_right (by omega), List.map_nil, List.append_nil, List.take_of_length_le (by rw [nones_len]; omega)]
theorem outs_drop (rs : List Rule) (ns : List Int) : ∃ ds : List Int, (runR rs (nones rs.length) ns).1.drop rs.length = ds.map some := by
  obtain ⟨ds, e1, e2⟩ := outs_shape rs ns
  rw [e1]
  by_cases h : rs.length ≤ ns.length
  · refine ⟨ds, ?_⟩
    rw [Nat.min_eq_left h]
    have := List.drop_left (l₁ := nones rs.length) (l₂ := ds.map some)
    rw [nones_len] at this
    exact this
  · have e3 : ds = [] := List.eq_nil_of_length_eq_zero (by omega)
    subst e3
    refine ⟨[], ?_⟩
    rw [List.map_nil, List.append_nil, List.drop_of_length_le (by rw [nones_len]; omega)]
end SC
set_option maxRecDepth 100000
set_option maxHeartbeats 0
namespace SC
open PySem PySem.Spec PyProof.Rows L2
def top (i : Nat) : Stmt := PySem.Challenge.pw_siftchain_k01_cells_and_labels.main.body.getD i (.Pass ⟨0, 0, 0, 0⟩)
abbrev s_is_within : Stmt := top 14
abbrev s_is_number : Stmt := top 15
abbrev s_check_number : Stmt := top 16
abbrev s_Cell_call : Stmt := inClass (top 18) 1
abbrev s_Cell_eq : Stmt := inClass (top 18) 2
abbrev s_Cell_neg : Stmt := inClass (top 18) 3
abbrev s_Cell_label : Stmt := inClass (top 18) 4
abbrev s_Last_call : Stmt := inClass (top 19) 1
abbrev s_Last_eq : Stmt := inClass (top 19) 2
abbrev s_Last_neg : Stmt := inClass (top 19) 3
abbrev s_Last_label : Stmt := inClass (top 19) 4
abbrev s_Less_call : Stmt := inClass (top 20) 1
abbrev s_Less_eq : Stmt := inClass (top 20) 2
abbrev s_Less_neg : Stmt := inClass (top 20) 3
abbrev s_Less_label : Stmt := inClass (top 20) 4
abbrev s_Greater_call : Stmt := inClass (top 21) 1
abbrev s_Greater_eq : Stmt := inClass (top 21) 2
abbrev s_Greater_neg : Stmt := inClass (top 21) 3
abbrev s_Greater_label : Stmt := inClass (top 21) 4
abbrev s_Near_init : Stmt := inClass (top 22) 1
abbrev s_Near_call : Stmt := inClass (top 22) 2
abbrev s_Near_eq : Stmt := inClass (top 22) 3
abbrev s_Near_neg : Stmt := inClass (top 22) 4
abbrev s_Near_label : Stmt := inClass (top 22) 5
abbrev s__law_random : Stmt := top 24
abbrev s__law_below : Stmt := top 25
abbrev s__law_row : Stmt := top 26
abbrev s__law_equal : Stmt := top 27
abbrev s__law_kept : Stmt := top 28
abbrev s__law_error_of : Stmt := top 29
abbrev s_law : Stmt := top 30
def d_is_within : DP := ⟨(fun K => He.ga K "is_within"), "is_within", "is_within", s_is_within⟩
def d_is_number : DP := ⟨(fun K => He.ga K "is_number"), "is_number", "is_number", s_is_number⟩
def d_check_number : DP := ⟨(fun K => He.ga K "check_number"), "check_number", "check_number", s_check_number⟩
def d_Cell_call : DP := ⟨(fun K => He.ma K (He.ga K "Cell") "__call__"), "__call__", "Cell.__call__", s_Cell_call⟩
def d_Cell_eq : DP := ⟨(fun K => He.ma K (He.ga K "Cell") "__eq__"), "__eq__", "Cell.__eq__", s_Cell_eq⟩
def d_Cell_neg : DP := ⟨(fun K => He.ma K (He.ga K "Cell") "__neg__"), "__neg__", "Cell.__neg__", s_Cell_neg⟩
def d_Cell_label : DP := ⟨(fun K => pgA K "Cell" "label"), "label", "Cell.label", s_Cell_label⟩
def d_Last_call : DP := ⟨(fun K => He.ma K (He.ga K "Last") "__call__"), "__call__", "Last.__call__", s_Last_call⟩
def d_Last_eq : DP := ⟨(fun K => He.ma K (He.ga K "Last") "__eq__"), "__eq__", "Last.__eq__", s_Last_eq⟩
def d_Last_neg : DP := ⟨(fun K => He.ma K (He.ga K "Last") "__neg__"), "__neg__", "Last.__neg__", s_Last_neg⟩
def d_Last_label : DP := ⟨(fun K => pgA K "Last" "label"), "label", "Last.label", s_Last_label⟩
def d_Less_call : DP := ⟨(fun K => He.ma K (He.ga K "Less") "__call__"), "__call__", "Less.__call__", s_Less_call⟩
def d_Less_eq : DP := ⟨(fun K => He.ma K (He.ga K "Less") "__eq__"), "__eq__", "Less.__eq__", s_Less_eq⟩
def d_Less_neg : DP := ⟨(fun K => He.ma K (He.ga K "Less") "__neg__"), "__neg__", "Less.__neg__", s_Less_neg⟩
def d_Less_label : DP := ⟨(fun K => pgA K "Less" "label"), "label", "Less.label", s_Less_label⟩
def d_Greater_call : DP := ⟨(fun K => He.ma K (He.ga K "Greater") "__call__"), "__call__", "Greater.__call__", s_Greater_call⟩
def d_Greater_eq : DP := ⟨(fun K => He.ma K (He.ga K "Greater") "__eq__"), "__eq__", "Greater.__eq__", s_Greater_eq⟩
def d_Greater_neg : DP := ⟨(fun K => He.ma K (He.ga K "Greater") "__neg__"), "__neg__", "Greater.__neg__", s_Greater_neg⟩
def d_Greater_label : DP := ⟨(fun K => pgA K "Greater" "label"), "label", "Greater.label", s_Greater_label⟩
def d_Near_init : DP := ⟨(fun K => He.ma K (He.ga K "Near") "__init__"), "__init__", "Near.__init__", s_Near_init⟩
def d_Near_call : DP := ⟨(fun K => He.ma K (He.ga K "Near") "__call__"), "__call__", "Near.__call__", s_Near_call⟩
def d_Near_eq : DP := ⟨(fun K => He.ma K (He.ga K "Near") "__eq__"), "__eq__", "Near.__eq__", s_Near_eq⟩
def d_Near_neg : DP := ⟨(fun K => He.ma K (He.ga K "Near") "__neg__"), "__neg__", "Near.__neg__", s_Near_neg⟩
def d_Near_label : DP := ⟨(fun K => pgA K "Near" "label"), "label", "Near.label", s_Near_label⟩
def d__law_random : DP := ⟨(fun K => He.ga K "_law_random"), "_law_random", "_law_random", s__law_random⟩
def d__law_below : DP := ⟨(fun K => He.ga K "_law_below"), "_law_below", "_law_below", s__law_below⟩
def d__law_row : DP := ⟨(fun K => He.ga K "_law_row"), "_law_row", "_law_row", s__law_row⟩
def d__law_equal : DP := ⟨(fun K => He.ga K "_law_equal"), "_law_equal", "_law_equal", s__law_equal⟩
def d__law_kept : DP := ⟨(fun K => He.ga K "_law_kept"), "_law_kept", "_law_kept", s__law_kept⟩
def d__law_error_of : DP := ⟨(fun K => He.ga K "_law_error_of"), "_law_error_of", "_law_error_of", s__law_error_of⟩
def d_law : DP := ⟨(fun K => He.ga K "law"), "law", "law", s_law⟩
def dps : List DP := [d_is_within, d_is_number, d_check_number, d_Cell_call, d_Cell_eq, d_Cell_neg, d_Cell_label, d_Last_call, d_Last_eq, d_Last_neg, d_Last_label, d_Less_call, d_Less_eq, d_Less_neg, d_Less_label, d_Greater_call, d_Greater_eq, d_Greater_neg, d_Greater_label, d_Near_init, d_Near_call, d_Near_eq, d_Near_neg, d_Near_label, d__law_random, d__law_below, d__law_row, d__law_equal, d__law_kept, d__law_error_of, d_law]
def fxs : List Fx := [Fx.fa (.free "isinstance"),
  Fx.fa (.free "int"),
  Fx.fa (.free "bool"),
  Fx.fa (.free "abs"),
  Fx.fa (.free "str"),
  Fx.fa (.free "len"),
  Fx.fa (.free "range"),
  Fx.fa (.free "min"),
  Fx.fa (.free "max"),
  Fx.fa (.free "all"),
  Fx.fa (.free "list"),
  Fx.fa (.free "tuple"),
  Fx.fa (.free "ValueError"),
  Fx.fa (.free "enumerate"),
  Fx.fa (.free "zip"),
  Fx.fa (.free "sorted"),
  Fx.fa (.free "sum"),
  Fx.fa (.free "set"),
  Fx.fa (.free "dict"),
  Fx.fa (.free "reversed"),
  Fx.fa (.glo "is_within"),
  Fx.fa (.glo "is_number"),
  Fx.fa (.glo "check_number"),
  Fx.fa (.glo "_law_random"),
  Fx.fa (.glo "_law_below"),
  Fx.fa (.glo "_law_row"),
  Fx.fa (.glo "_law_equal"),
  Fx.fa (.glo "_law_kept"),
  Fx.fa (.glo "_law_error_of"),
  Fx.fa (.glo "law"),
  Fx.fa (.glo "SiftError"),
  Fx.fa (.glo "InvalidNumber"),
  Fx.fa (.glo "InvalidChain"),
  Fx.fa (.glo "UnknownCell"),
  Fx.fa (.glo "InvalidRow"),
  Fx.fa (.glo "InvalidText"),
  Fx.fa (.glo "TooMany"),
  Fx.fa (.glo "Contradiction"),
  Fx.fa (.glo "InvalidName"),
  Fx.fa (.glo "UnknownName"),
  Fx.fa (.glo "InvalidOperation"),
  Fx.fa (.glo "Cell"),
  Fx.fa (.glo "Last"),
  Fx.fa (.glo "Less"),
  Fx.fa (.glo "Greater"),
  Fx.fa (.glo "Near"),
  Fx.fa (.int "LIMIT" 1000000000),
  Fx.fa (.cls "Cell"),
  Fx.fa (.cls "Last"),
  Fx.fa (.cls "Less"),
  Fx.fa (.cls "Greater"),
  Fx.fa (.cls "Near"),
  Fx.prop "Cell" "label",
  Fx.prop "Last" "label",
  Fx.prop "Less" "label",
  Fx.prop "Greater" "label",
  Fx.prop "Near" "label",
  Fx.spec "Cell" "__call__",
  Fx.spec "Last" "__call__",
  Fx.spec "Less" "__call__",
  Fx.spec "Greater" "__call__",
  Fx.spec "Near" "__call__",
  Fx.spec "Cell" "__eq__",
  Fx.spec "Last" "__eq__",
  Fx.spec "Less" "__eq__",
  Fx.spec "Greater" "__eq__",
  Fx.spec "Near" "__eq__",
  Fx.spec "Cell" "__neg__",
  Fx.spec "Last" "__neg__",
  Fx.spec "Less" "__neg__",
  Fx.spec "Greater" "__neg__",
  Fx.spec "Near" "__neg__",
  Fx.none_ "Cell" "__ne__" "object.__ne__",
  Fx.none_ "Last" "__ne__" "object.__ne__",
  Fx.none_ "Less" "__ne__" "object.__ne__",
  Fx.none_ "Greater" "__ne__" "object.__ne__",
  Fx.none_ "Near" "__ne__" "object.__ne__",
  Fx.isi "Cell",
  Fx.isi "Last",
  Fx.isi "Less",
  Fx.isi "Greater",
  Fx.isi "Near",
  Fx.cls "Cell",
  Fx.cls "Last",
  Fx.cls "Less",
  Fx.cls "Greater",
  Fx.cls "Near",
  Fx.kit (.g "Cell") (.g "Cell") true,
  Fx.kit (.g "Last") (.g "Cell") true,
  Fx.kit (.g "Less") (.g "Cell") true,
  Fx.kit (.g "Greater") (.g "Cell") true,
  Fx.kit (.g "Near") (.g "Cell") true,
  Fx.mk0 "Cell",
  Fx.mk0 "Last",
  Fx.mk0 "Less",
  Fx.mk0 "Greater",
  Fx.fa (.mkr "Near"),
  Fx.fa (.noat "Near" "mark"),
  Fx.con "Cell" "KIND" (.str "first"),
  Fx.con "Last" "KIND" (.str "last"),
  Fx.con "Less" "KIND" (.str "less"),
  Fx.con "Greater" "KIND" (.str "greater"),
  Fx.con "Near" "KIND" (.str "near"),
  Fx.cstr "Cell" "KIND" "first",
  Fx.cstr "Last" "KIND" "last",
  Fx.cstr "Less" "KIND" "less",
  Fx.cstr "Greater" "KIND" "greater",
  Fx.kit (.t "str") (.g "Cell") false,
  Fx.sub (.g "Cell") (.g "Cell") true,
  Fx.sub (.g "Cell") (.g "Last") false,
  Fx.sub (.g "Cell") (.g "Less") false,
  Fx.sub (.g "Cell") (.g "Greater") false,
  Fx.sub (.g "Cell") (.g "Near") false,
  Fx.sub (.g "Last") (.g "Cell") true,
  Fx.sub (.g "Last") (.g "Last") true,
  Fx.sub (.g "Last") (.g "Less") false,
  Fx.sub (.g "Last") (.g "Greater") false,
  Fx.sub (.g "Last") (.g "Near") false,
  Fx.sub (.g "Less") (.g "Cell") true,
  Fx.sub (.g "Less") (.g "Last") false,
  Fx.sub (.g "Less") (.g "Less") true,
  Fx.sub (.g "Less") (.g "Greater") false,
  Fx.sub (.g "Less") (.g "Near") false,
  Fx.sub (.g "Greater") (.g "Cell") true,
  Fx.sub (.g "Greater") (.g "Last") false,
  Fx.sub (.g "Greater") (.g "Less") false,
  Fx.sub (.g "Greater") (.g "Greater") true,
  Fx.sub (.g "Greater") (.g "Near") false,
  Fx.sub (.g "Near") (.g "Cell") true,
  Fx.sub (.g "Near") (.g "Last") false,
  Fx.sub (.g "Near") (.g "Less") false,
  Fx.sub (.g "Near") (.g "Greater") false,
  Fx.sub (.g "Near") (.g "Near") true,
  Fx.sub (.t "str") (.g "Cell") false,
  Fx.sub (.t "str") (.g "Last") false,
  Fx.sub (.t "str") (.g "Less") false,
  Fx.sub (.t "str") (.g "Greater") false,
  Fx.sub (.t "str") (.g "Near") false,
  Fx.fa (.exc "InvalidNumber"),
  Fx.fa (.exc "UnknownCell"),
  Fx.fa (.exc "TooMany"),
  Fx.fa (.exc "Contradiction"),
  Fx.fa (.exc "InvalidName"),
  Fx.fa (.exc "UnknownName"),
  Fx.exk "InvalidNumber",
  Fx.isi "InvalidNumber",
  Fx.fa (.exm "InvalidNumber" "SiftError" true),
  Fx.kit (.g "InvalidNumber") (.t "ValueError") true,
  Fx.kit (.g "InvalidNumber") (.g "InvalidNumber") true,
  Fx.kit (.g "InvalidNumber") (.g "InvalidChain") false,
  Fx.kit (.g "InvalidNumber") (.g "UnknownCell") false,
  Fx.kit (.g "InvalidNumber") (.g "InvalidRow") false,
  Fx.kit (.g "InvalidNumber") (.g "InvalidText") false,
  Fx.kit (.g "InvalidNumber") (.g "TooMany") false,
  Fx.kit (.g "InvalidNumber") (.g "Contradiction") false,
  Fx.kit (.g "InvalidNumber") (.g "InvalidName") false,
  Fx.kit (.g "InvalidNumber") (.g "UnknownName") false,
  Fx.kit (.g "InvalidNumber") (.g "InvalidOperation") false,
  Fx.exk "UnknownCell",
  Fx.isi "UnknownCell",
  Fx.fa (.exm "UnknownCell" "SiftError" true),
  Fx.kit (.g "UnknownCell") (.t "ValueError") true,
  Fx.kit (.g "UnknownCell") (.g "InvalidNumber") false,
  Fx.kit (.g "UnknownCell") (.g "InvalidChain") false,
  Fx.kit (.g "UnknownCell") (.g "UnknownCell") true,
  Fx.kit (.g "UnknownCell") (.g "InvalidRow") false,
  Fx.kit (.g "UnknownCell") (.g "InvalidText") false,
  Fx.kit (.g "UnknownCell") (.g "TooMany") false,
  Fx.kit (.g "UnknownCell") (.g "Contradiction") false,
  Fx.kit (.g "UnknownCell") (.g "InvalidName") false,
  Fx.kit (.g "UnknownCell") (.g "UnknownName") false,
  Fx.kit (.g "UnknownCell") (.g "InvalidOperation") false,
  Fx.exk "TooMany",
  Fx.isi "TooMany",
  Fx.fa (.exm "TooMany" "SiftError" true),
  Fx.kit (.g "TooMany") (.t "ValueError") true,
  Fx.kit (.g "TooMany") (.g "InvalidNumber") false,
  Fx.kit (.g "TooMany") (.g "InvalidChain") false,
  Fx.kit (.g "TooMany") (.g "UnknownCell") false,
  Fx.kit (.g "TooMany") (.g "InvalidRow") false,
  Fx.kit (.g "TooMany") (.g "InvalidText") false,
  Fx.kit (.g "TooMany") (.g "TooMany") true,
  Fx.kit (.g "TooMany") (.g "Contradiction") false,
  Fx.kit (.g "TooMany") (.g "InvalidName") false,
  Fx.kit (.g "TooMany") (.g "UnknownName") false,
  Fx.kit (.g "TooMany") (.g "InvalidOperation") false,
  Fx.exk "Contradiction",
  Fx.isi "Contradiction",
  Fx.fa (.exm "Contradiction" "SiftError" true),
  Fx.kit (.g "Contradiction") (.t "ValueError") true,
  Fx.kit (.g "Contradiction") (.g "InvalidNumber") false,
  Fx.kit (.g "Contradiction") (.g "InvalidChain") false,
  Fx.kit (.g "Contradiction") (.g "UnknownCell") false,
  Fx.kit (.g "Contradiction") (.g "InvalidRow") false,
  Fx.kit (.g "Contradiction") (.g "InvalidText") false,
  Fx.kit (.g "Contradiction") (.g "TooMany") false,
  Fx.kit (.g "Contradiction") (.g "Contradiction") true,
  Fx.kit (.g "Contradiction") (.g "InvalidName") false,
  Fx.kit (.g "Contradiction") (.g "UnknownName") false,
  Fx.kit (.g "Contradiction") (.g "InvalidOperation") false,
  Fx.exk "InvalidName",
  Fx.isi "InvalidName",
  Fx.fa (.exm "InvalidName" "SiftError" true),
  Fx.kit (.g "InvalidName") (.t "ValueError") true,
  Fx.kit (.g "InvalidName") (.g "InvalidNumber") false,
  Fx.kit (.g "InvalidName") (.g "InvalidChain") false,
  Fx.kit (.g "InvalidName") (.g "UnknownCell") false,
  Fx.kit (.g "InvalidName") (.g "InvalidRow") false,
  Fx.kit (.g "InvalidName") (.g "InvalidText") false,
  Fx.kit (.g "InvalidName") (.g "TooMany") false,
  Fx.kit (.g "InvalidName") (.g "Contradiction") false,
  Fx.kit (.g "InvalidName") (.g "InvalidName") true,
  Fx.kit (.g "InvalidName") (.g "UnknownName") false,
  Fx.kit (.g "InvalidName") (.g "InvalidOperation") false,
  Fx.exk "UnknownName",
  Fx.isi "UnknownName",
  Fx.fa (.exm "UnknownName" "SiftError" true),
  Fx.kit (.g "UnknownName") (.t "ValueError") true,
  Fx.kit (.g "UnknownName") (.g "InvalidNumber") false,
  Fx.kit (.g "UnknownName") (.g "InvalidChain") false,
  Fx.kit (.g "UnknownName") (.g "UnknownCell") false,
  Fx.kit (.g "UnknownName") (.g "InvalidRow") false,
  Fx.kit (.g "UnknownName") (.g "InvalidText") false,
  Fx.kit (.g "UnknownName") (.g "TooMany") false,
  Fx.kit (.g "UnknownName") (.g "Contradiction") false,
  Fx.kit (.g "UnknownName") (.g "InvalidName") false,
  Fx.kit (.g "UnknownName") (.g "UnknownName") true,
  Fx.kit (.g "UnknownName") (.g "InvalidOperation") false]
def tfs : List He.Defn := [("law", none)]
abbrev R : PySem.W.OpenRow := PySem.W.OpenLaw.row PySem.Challenge.rw_siftchain_k01_cells_and_labels
abbrev hk : PySem.W.Hook := hook 5 dps fxs tfs
def ob (s : PySem.W.SharedT) : Look := look 5 dps fxs tfs (HandSHeadRun.getT s)
theorem ob_eq (s : PySem.W.SharedT) : ob s = hk.obs s.abs := look_eq (HandSHeadRun.getT_eq s)
def loose : List Str := ["SiftError", "InvalidNumber", "InvalidChain", "UnknownCell", "InvalidRow", "InvalidText", "TooMany", "Contradiction", "InvalidName", "UnknownName", "InvalidOperation", "LIMIT", "is_within", "is_number", "check_number", "Cell", "Last", "Less", "Greater", "Near", "_law_random", "_law_below", "_law_row", "_law_equal", "_law_kept", "_law_error_of"]
theorem run (w : World) : HandSHeadRun.RunEq R (PySem.W.view R.prog [30]) hk ob 12000 loose w := by
  intro os
  kernel_rfl
end SC
set_option maxRecDepth 100000
set_option maxHeartbeats 2000000
namespace SC
open PySem PySem.Spec PyProof.Rows L2 TL
section
variable {P : Program} {w : World} {K : PySem.W.Frag} {mg : Str → Option Value} {base : Heap}
theorem sc_within : FnScope ["value", "least", "most"] ["value", "least", "most"] (defScope s_is_within) := ⟨rfl, rfl, rfl, by decide +kernel, rfl, by decide +kernel, by decide +kernel⟩
theorem ok_within {f : Addr} {fd : FuncData} (F : Fun K "is_within" "is_within" s_is_within f fd) (B : Bln mg) : FnOk P w K mg base CX0 1 f fd ["value", "least", "most"] (spWithin K) := by
  refine F.ok sc_within (fun vs H Q E h => ?_) (fun cdv A outer s H vs Q E hr h => ?_)
  · obtain ⟨v, lo, hi, rfl, _⟩ := h
    rfl
  · obtain ⟨v, lo, hi, rfl, h⟩ := h
    refine ⟨_, pss_cons (ps_if (PW.pt (pw_or (pt_not (pt_val (pe_callB call_isi (by rfl) B.isinstance boot_isinstance' (pa_cons (pv 0) (pa_cons (pe_bltn (v := .ty "int") (by rfl) B.int boot_int' rfl) pa_nil)))))
        (pw_or1 (pt_val (pe_callB call_isi (by rfl) B.isinstance boot_isinstance' (pa_cons (pv 0) (pa_cons (pe_bltn (v := .ty "bool") (by rfl) B.bool boot_bool' rfl) pa_nil)))))))
        (pss_one (ps_ret pe_bl)) pss_nil)
      (pss_one (ps_ret (pe_chain op_le op_le (pv 1) (pv 0) (pv 2)))), ?_⟩
    rcases h with ⟨i, rfl, q⟩ | ⟨T, hT, ty, q⟩
    · refine ⟨_, rfl, _, _, _, _, _, rfl, .ty "int", .base (.int i), kit_ty (by decide +kernel), true, rfl, ?_⟩
      refine iteF ?_
      refine ⟨_, rfl, _, _, _, _, _, rfl, .ty "bool", .base (.int i), kit_ty (r := false) (by decide +kernel), false, rfl, ?_⟩
      refine iteF ?_
      refine ⟨_, rfl, _, rfl, _, _, rfl, rfl, _, rfl, ?_⟩
      by_cases h1 : lo ≤ i
      · rw [decide_eq_true h1] at q ⊢
        refine iteT ⟨_, rfl, _, _, rfl, rfl, q⟩
      · rw [decide_eq_false h1] at q ⊢
        exact iteF q
    · by_cases hb : T = "bool"
      · subst hb
        refine ⟨_, rfl, _, _, _, _, _, rfl, .ty "int", ty, kit_ty (r := true) (by decide +kernel), true, rfl, iteF ?_⟩
        exact ⟨_, rfl, _, _, _, _, _, rfl, .ty "bool", ty, kit_ty (r := true) (by decide +kernel), true, rfl, iteT q⟩
      · exact ⟨_, rfl, _, _, _, _, _, rfl, .ty "int", ty, odd_int hT hb, false, rfl, iteT (iteT q)⟩
theorem sc_number : FnScope ["value"] ["value"] (defScope s_is_number) := ⟨rfl, rfl, rfl, by decide +kernel, rfl, by decide +kernel, by decide +kernel⟩
theorem ok_number {f g : Addr} {fd gd : FuncData} (F : Fun K "is_number" "is_number" s_is_number f fd) (G : Fun K "is_within" "is_within" s_is_within g gd) (B : Bln mg) (hg : mg "is_within" = some (.ref g)) {t : Tok} (hL : mg "LIMIT" = some (.int 1000000000 t)) :
    FnOk P w K mg base CX0 2 f fd ["value"] (spNumber K) := by
  have GW : FnOk P w K mg base CX0 1 g gd ["value", "least", "most"] (spWithin K) := ok_within G B
  have bW := G.binds (ps := ["value", "least", "most"]) fun _ _ _ _ _ _ us hl => match us, hl with | [_, _, _], _ => rfl
  refine F.ok sc_number (fun vs H Q E h => ?_) (fun cdv A outer s H vs Q E hr h => ?_)
  · obtain ⟨v, rfl, _⟩ := h
    rfl
  · obtain ⟨v, rfl, h⟩ := h
    refine ⟨_, pss_one (ps_ret (pe_call GW hr (by rfl) hg G.kp bW .nil pass0 (pa_cons (pv 0) (pa_cons (pe_un un_neg (pe_glob (v := .int 1000000000) (by rfl) hL ⟨_, rfl⟩)) (pa_cons (pe_glob (v := .int 1000000000) (by rfl) hL ⟨_, rfl⟩) pa_nil))))), ?_⟩
    refine ⟨_, rfl, _, rfl, v, -1000000000, 1000000000, rfl, ?_⟩
    exact h
theorem en_ok {i : Int} (hn : numOk i) : (decide (-1000000000 ≤ i) && decide (i ≤ 1000000000)) = true := by
  rw [decide_eq_true hn.1, decide_eq_true hn.2]
  rfl
theorem en_no {i : Int} (hn : ¬ numOk i) : (decide (-1000000000 ≤ i) && decide (i ≤ 1000000000)) = false := by
  cases h1 : (decide (-1000000000 ≤ i) && decide (i ≤ 1000000000)) with
  | false => rfl
  | true =>
    obtain ⟨z1, z2⟩ := He.ba h1
    exact absurd ⟨of_decide_eq_true z1, of_decide_eq_true z2⟩ hn
theorem sc_checknum : FnScope ["value"] ["value"] (defScope s_check_number) := ⟨rfl, rfl, rfl, by decide +kernel, rfl, by decide +kernel, by decide +kernel⟩
theorem ok_checknum {f g : Addr} {fd gd : FuncData} (F : Fun K "check_number" "check_number" s_check_number f fd) (G : FnOk P w K mg base CX0 2 g gd ["value"] (spNumber K)) (bG : Binds K gd ["value"] []) (kG : PySem.W.keepIn K (.ref g) = true) (hg : mg "is_number" = some (.ref g)) (X : Err0 K mg "InvalidNumber") :
    FnOk P w K mg base (L2.CX P w) 3 f fd ["value"] (spCheckNum K) := by
  refine F.okX sc_checknum (fun vs H Q E h => ?_) (fun cdv A outer s H vs Q E hr h => ?_)
  · obtain ⟨v, rfl, _⟩ := h
    rfl
  · obtain ⟨v, rfl, h⟩ := h
    refine ⟨_, pss_one (ps_if (pt_not (pt_val (pe_call G hr (by rfl) hg kG bG .nil pass0 (pa_cons (pv 0) pa_nil)))) (pss_one (ps_raise rfl (takes_of rfl rfl rfl rfl) (pmk_own PySem.F.excBase_ValueError X.ex X.gl X.kp (raises_own X.sb X.ty) (by exact rfl)))) pss_nil), ?_⟩
    rcases h with ⟨i, rfl, q1, q2⟩ | ⟨T0, hT, ty, q⟩
    · refine ⟨_, rfl, _, rfl, .inl ⟨i, rfl, _, rfl, ?_⟩⟩
      by_cases hn : numOk i
      · rw [en_ok hn]
        exact iteF (q1 hn)
      · rw [en_no hn]
        exact iteT (q2 hn)
    · exact ⟨_, rfl, _, rfl, .inr ⟨T0, hT, ty, _, rfl, iteT q⟩⟩
theorem sc_ninit : FnScope ["self", "mark"] ["self", "mark"] (defScope s_Near_init) := ⟨rfl, rfl, rfl, by decide +kernel, rfl, by decide +kernel, by decide +kernel⟩
theorem ok_ninit {f g : Addr} {fd gd : FuncData} (F : Fun K "__init__" "Near.__init__" s_Near_init f fd) (G : FnOk P w K mg base (L2.CX P w) 3 g gd ["value"] (spCheckNum K)) (bG : Binds K gd ["value"] []) (kG : PySem.W.keepIn K (.ref g) = true) (hg : mg "check_number" = some (.ref g)) (T : Cells K mg) :
    FnOk P w K mg base (L2.CX P w) 4 f fd ["self", "mark"] (spNearInit K) := by
  refine F.okX sc_ninit (fun vs H Q E h => ?_) (fun cdv A outer s H vs Q E hr h => ?_)
  · obtain ⟨a, dx, v, rfl, _⟩ := h
    rfl
  · obtain ⟨a, dx, v, rfl, ha, h⟩ := h
    refine ⟨_, pss_cons (ps_expr (pe_call G hr (by rfl) hg kG bG .nil (passes_call (takes_of rfl rfl rfl rfl) (fun _ _ _ _ h => h)) (pa_cons (pv 1) pa_nil)))
      (pss_one (ps_fld (pv 0) (pv 1) rfl)), ?_⟩
    rcases h with ⟨i, rfl, q1, q2⟩ | ⟨T0, hT, ty, q⟩
    · exact ⟨_, rfl, _, rfl, .inl ⟨i, rfl, fun hn => ⟨_, rfl, _, rfl, a, _, dx, [], rfl, ha, T.cls .near, T.noM, (by show 0 < 1000; decide), q1 hn⟩, q2⟩⟩
    · exact ⟨_, rfl, _, rfl, .inr ⟨T0, hT, ty, q⟩⟩
/-! ### what a cell does with two numbers -/
theorem sc_call {st : Stmt} (h : FnScope ["self", "held", "came"] ["self", "held", "came"] (defScope st)) : FnScope ["self", "held", "came"] ["self", "held", "came"] (defScope st) := h
theorem sc_Cell_call : FnScope ["self", "held", "came"] ["self", "held", "came"] (defScope s_Cell_call) := ⟨rfl, rfl, rfl, by decide +kernel, rfl, by decide +kernel, by decide +kernel⟩
theorem ok_Cell_call {f : Addr} {fd : FuncData} (F : Fun K "__call__" "Cell.__call__" s_Cell_call f fd) (B : Bln mg) (T : Cells K mg) : FnOk P w K mg base CX0 1 f fd ["self", "held", "came"] (spCall K .first) := by
  refine F.ok sc_Cell_call (fun vs H Q E h => ?_) (fun cdv A outer s H vs Q E hr h => ?_)
  · obtain ⟨a, r, h, c, rfl, _⟩ := h
    rfl
  · obtain ⟨a, r, h, c, rfl, hk, ca, q⟩ := h
    cases r with
    | first =>
      refine ⟨_, pss_one (ps_ret (pe_tup (pa_cons (pv 1) (pa_cons (pv 2) pa_nil)))), ?_⟩
      exact ⟨_, rfl, _, rfl, (by show 2 ≤ sizeLine; decide), fun p hp => q p hp⟩
    | _ => cases hk
theorem sc_Last_call : FnScope ["self", "held", "came"] ["self", "held", "came"] (defScope s_Last_call) := ⟨rfl, rfl, rfl, by decide +kernel, rfl, by decide +kernel, by decide +kernel⟩
theorem ok_Last_call {f : Addr} {fd : FuncData} (F : Fun K "__call__" "Last.__call__" s_Last_call f fd) (B : Bln mg) (T : Cells K mg) : FnOk P w K mg base CX0 1 f fd ["self", "held", "came"] (spCall K .last) := by
  refine F.ok sc_Last_call (fun vs H Q E h => ?_) (fun cdv A outer s H vs Q E hr h => ?_)
  · obtain ⟨a, r, h, c, rfl, _⟩ := h
    rfl
  · obtain ⟨a, r, h, c, rfl, hk, ca, q⟩ := h
    cases r with
    | last =>
      refine ⟨_, pss_one (ps_ret (pe_tup (pa_cons (pv 2) (pa_cons (pv 1) pa_nil)))), ?_⟩
      exact ⟨_, rfl, _, rfl, (by show 2 ≤ sizeLine; decide), fun p hp => q p hp⟩
    | _ => cases hk
theorem sc_Less_call : FnScope ["self", "held", "came"] ["self", "held", "came"] (defScope s_Less_call) := ⟨rfl, rfl, rfl, by decide +kernel, rfl, by decide +kernel, by decide +kernel⟩
theorem ok_Less_call {f : Addr} {fd : FuncData} (F : Fun K "__call__" "Less.__call__" s_Less_call f fd) (B : Bln mg) (T : Cells K mg) : FnOk P w K mg base CX0 1 f fd ["self", "held", "came"] (spCall K .less) := by
  refine F.ok sc_Less_call (fun vs H Q E h => ?_) (fun cdv A outer s H vs Q E hr h => ?_)
  · obtain ⟨a, r, h, c, rfl, _⟩ := h
    rfl
  · obtain ⟨a, r, h, c, rfl, hk, ca, q⟩ := h
    cases r with
    | less =>
      refine ⟨_, pss_cons (ps_if (pt_cmpR op_lt (pv 2) (pv 1) (nomark _)) (pss_one (ps_ret (pe_tup (pa_cons (pv 2) (pa_cons (pv 1) pa_nil))))) pss_nil) (pss_one (ps_ret (pe_tup (pa_cons (pv 1) (pa_cons (pv 2) pa_nil))))), ?_⟩
      refine ⟨_, rfl, _, rfl, _, _, rfl, rfl, _, rfl, ?_⟩
      by_cases hc : c < h
      · rw [decide_eq_true hc]
        refine iteT ⟨_, rfl, _, rfl, (by show 2 ≤ sizeLine; decide), fun p hp => ?_⟩
        have z := q p hp
        rw [show (Rule.less).keep h c = (c, h) from if_pos hc] at z
        exact z
      · rw [decide_eq_false hc]
        refine iteF ⟨_, rfl, _, rfl, (by show 2 ≤ sizeLine; decide), fun p hp => ?_⟩
        have z := q p hp
        rw [show (Rule.less).keep h c = (h, c) from if_neg hc] at z
        exact z
    | _ => cases hk
theorem sc_Greater_call : FnScope ["self", "held", "came"] ["self", "held", "came"] (defScope s_Greater_call) := ⟨rfl, rfl, rfl, by decide +kernel, rfl, by decide +kernel, by decide +kernel⟩
theorem ok_Greater_call {f : Addr} {fd : FuncData} (F : Fun K "__call__" "Greater.__call__" s_Greater_call f fd) (B : Bln mg) (T : Cells K mg) : FnOk P w K mg base CX0 1 f fd ["self", "held", "came"] (spCall K .greater) := by
  refine F.ok sc_Greater_call (fun vs H Q E h => ?_) (fun cdv A outer s H vs Q E hr h => ?_)
  · obtain ⟨a, r, h, c, rfl, _⟩ := h
    rfl
  · obtain ⟨a, r, h, c, rfl, hk, ca, q⟩ := h
    cases r with
    | greater =>
      refine ⟨_, pss_cons (ps_if (pt_cmpR op_gt (pv 2) (pv 1) (nomark _)) (pss_one (ps_ret (pe_tup (pa_cons (pv 2) (pa_cons (pv 1) pa_nil))))) pss_nil) (pss_one (ps_ret (pe_tup (pa_cons (pv 1) (pa_cons (pv 2) pa_nil))))), ?_⟩
      refine ⟨_, rfl, _, rfl, _, _, rfl, rfl, _, rfl, ?_⟩
      by_cases hc : h < c
      · rw [decide_eq_true hc]
        refine iteT ⟨_, rfl, _, rfl, (by show 2 ≤ sizeLine; decide), fun p hp => ?_⟩
        have z := q p hp
        rw [show (Rule.greater).keep h c = (c, h) from if_pos hc] at z
        exact z
      · rw [decide_eq_false hc]
        refine iteF ⟨_, rfl, _, rfl, (by show 2 ≤ sizeLine; decide), fun p hp => ?_⟩
        have z := q p hp
        rw [show (Rule.greater).keep h c = (h, c) from if_neg hc] at z
        exact z
    | _ => cases hk
theorem sc_Near_call : FnScope ["self", "held", "came"] ["self", "held", "came"] (defScope s_Near_call) := ⟨rfl, rfl, rfl, by decide +kernel, rfl, by decide +kernel, by decide +kernel⟩
theorem ok_Near_call {f : Addr} {fd : FuncData} (F : Fun K "__call__" "Near.__call__" s_Near_call f fd) (B : Bln mg) (T : Cells K mg) : FnOk P w K mg base CX0 1 f fd ["self", "held", "came"] (spCall K .near) := by
  refine F.ok sc_Near_call (fun vs H Q E h => ?_) (fun cdv A outer s H vs Q E hr h => ?_)
  · obtain ⟨a, r, h, c, rfl, _⟩ := h
    rfl
  · obtain ⟨a, r, h, c, rfl, hk, ca, q⟩ := h
    cases r with
    | near m =>
      obtain ⟨hok, dx, ha⟩ := ca
      have l : (Rule.near m).fs.lookup ("mark" : Str) = some (.int m) := by simp [Rule.fs, List.lookup]
      refine ⟨_, pss_cons (ps_if (pt_cmpR op_lt (pe_callB call_abs (by rfl) B.abs boot_abs' (pa_cons (pe_op op_sub (pv 2) (pe_fld (pv 0) rfl)) pa_nil)) (pe_callB call_abs (by rfl) B.abs boot_abs' (pa_cons (pe_op op_sub (pv 1) (pe_fld (pv 0) rfl)) pa_nil)) (nomark _)) (pss_one (ps_ret (pe_tup (pa_cons (pv 2) (pa_cons (pv 1) pa_nil))))) pss_nil) (pss_one (ps_ret (pe_tup (pa_cons (pv 1) (pa_cons (pv 2) pa_nil))))), ?_⟩
      refine ⟨_, rfl, _, rfl, a, _, dx, _, _, rfl, ha, T.cls .near, T.noM, l, _, _, rfl, rfl, _, rfl, ?_⟩
      refine ⟨_, rfl, _, rfl, a, _, dx, _, _, rfl, ha, T.cls .near, T.noM, l, _, _, rfl, rfl, _, rfl, ?_⟩
      refine ⟨_, _, rfl, rfl, _, rfl, ?_⟩
      by_cases hc : absI (c - m) < absI (h - m)
      · refine (if_pos (decide_eq_true (show (if c - m < 0 then -(c - m) else c - m) < (if h - m < 0 then -(h - m) else h - m) from hc))).mpr ?_
        refine ⟨_, rfl, _, rfl, (by show 2 ≤ sizeLine; decide), fun p hp => ?_⟩
        have z := q p hp
        rw [show (Rule.near m).keep h c = (c, h) from if_pos hc] at z
        exact z
      · refine (if_neg (fun z => hc (of_decide_eq_true z))).mpr ?_
        refine ⟨_, rfl, _, rfl, (by show 2 ≤ sizeLine; decide), fun p hp => ?_⟩
        have z := q p hp
        rw [show (Rule.near m).keep h c = (h, c) from if_neg hc] at z
        exact z
    | _ => cases hk
/-! ### labels -/
theorem sc_Cell_label : FnScope ["self"] ["self"] (defScope s_Cell_label) := ⟨rfl, rfl, rfl, by decide +kernel, rfl, by decide +kernel, by decide +kernel⟩
theorem ok_Cell_label {f : Addr} {fd : FuncData} (F : Fun K "label" "Cell.label" s_Cell_label f fd) (T : Cells K mg) : FnOk P w K mg base CX0 1 f fd ["self"] (spLabel K .first) := by
  refine F.ok sc_Cell_label (fun vs H Q E h => ?_) (fun cdv A outer s H vs Q E hr h => ?_)
  · obtain ⟨a, r, rfl, _⟩ := h
    rfl
  · obtain ⟨a, r, rfl, hk, ⟨hok, dx, ha⟩, q⟩ := h
    obtain ⟨u, con⟩ := T.kind .first
    cases r with
    | first =>
      refine ⟨_, pss_one (ps_ret (pe_con (pv 0) rfl)), ?_⟩
      exact ⟨_, rfl, a, _, dx, _, _, u, rfl, ha, T.cls .first, con, rfl, q⟩
    | _ => cases hk
theorem sc_Last_label : FnScope ["self"] ["self"] (defScope s_Last_label) := ⟨rfl, rfl, rfl, by decide +kernel, rfl, by decide +kernel, by decide +kernel⟩
theorem ok_Last_label {f : Addr} {fd : FuncData} (F : Fun K "label" "Last.label" s_Last_label f fd) (T : Cells K mg) : FnOk P w K mg base CX0 1 f fd ["self"] (spLabel K .last) := by
  refine F.ok sc_Last_label (fun vs H Q E h => ?_) (fun cdv A outer s H vs Q E hr h => ?_)
  · obtain ⟨a, r, rfl, _⟩ := h
    rfl
  · obtain ⟨a, r, rfl, hk, ⟨hok, dx, ha⟩, q⟩ := h
    obtain ⟨u, con⟩ := T.kind .last
    cases r with
    | last =>
      refine ⟨_, pss_one (ps_ret (pe_con (pv 0) rfl)), ?_⟩
      exact ⟨_, rfl, a, _, dx, _, _, u, rfl, ha, T.cls .last, con, rfl, q⟩
    | _ => cases hk
theorem sc_Less_label : FnScope ["self"] ["self"] (defScope s_Less_label) := ⟨rfl, rfl, rfl, by decide +kernel, rfl, by decide +kernel, by decide +kernel⟩
theorem ok_Less_label {f : Addr} {fd : FuncData} (F : Fun K "label" "Less.label" s_Less_label f fd) (T : Cells K mg) : FnOk P w K mg base CX0 1 f fd ["self"] (spLabel K .less) := by
  refine F.ok sc_Less_label (fun vs H Q E h => ?_) (fun cdv A outer s H vs Q E hr h => ?_)
  · obtain ⟨a, r, rfl, _⟩ := h
    rfl
  · obtain ⟨a, r, rfl, hk, ⟨hok, dx, ha⟩, q⟩ := h
    obtain ⟨u, con⟩ := T.kind .less
    cases r with
    | less =>
      refine ⟨_, pss_one (ps_ret (pe_con (pv 0) rfl)), ?_⟩
      exact ⟨_, rfl, a, _, dx, _, _, u, rfl, ha, T.cls .less, con, rfl, q⟩
    | _ => cases hk
theorem sc_Greater_label : FnScope ["self"] ["self"] (defScope s_Greater_label) := ⟨rfl, rfl, rfl, by decide +kernel, rfl, by decide +kernel, by decide +kernel⟩
theorem ok_Greater_label {f : Addr} {fd : FuncData} (F : Fun K "label" "Greater.label" s_Greater_label f fd) (T : Cells K mg) : FnOk P w K mg base CX0 1 f fd ["self"] (spLabel K .greater) := by
  refine F.ok sc_Greater_label (fun vs H Q E h => ?_) (fun cdv A outer s H vs Q E hr h => ?_)
  · obtain ⟨a, r, rfl, _⟩ := h
    rfl
  · obtain ⟨a, r, rfl, hk, ⟨hok, dx, ha⟩, q⟩ := h
    obtain ⟨u, con⟩ := T.kind .greater
    cases r with
    | greater =>
      refine ⟨_, pss_one (ps_ret (pe_con (pv 0) rfl)), ?_⟩
      exact ⟨_, rfl, a, _, dx, _, _, u, rfl, ha, T.cls .greater, con, rfl, q⟩
    | _ => cases hk
theorem near_word (x : Str) : ((Str.empty ++ ("near" : Str)) ++ (":" : Str)) ++ x = ("near:" : Str) ++ x := by
  rw [show ((Str.empty ++ ("near" : Str)) ++ (":" : Str)) = ("near:" : Str) by decide +kernel]
theorem sc_Near_label : FnScope ["self"] ["self"] (defScope s_Near_label) := ⟨rfl, rfl, rfl, by decide +kernel, rfl, by decide +kernel, by decide +kernel⟩
theorem ok_Near_label {f : Addr} {fd : FuncData} (F : Fun K "label" "Near.label" s_Near_label f fd) (T : Cells K mg) : FnOk P w K mg base CX0 1 f fd ["self"] (spLabel K .near) := by
  refine F.ok sc_Near_label (fun vs H Q E h => ?_) (fun cdv A outer s H vs Q E hr h => ?_)
  · obtain ⟨a, r, rfl, _⟩ := h
    rfl
  · obtain ⟨a, r, rfl, hk, ⟨hok, dx, ha⟩, q⟩ := h
    obtain ⟨u, con⟩ := T.kind .near
    cases r with
    | near m =>
      have l : (Rule.near m).fs.lookup ("mark" : Str) = some (.int m) := by simp [Rule.fs, List.lookup]
      refine ⟨_, pss_one (ps_ret (pe_joined (.cons (pe_fmt (pe_con (pv 0) rfl)) (.cons pe_str (.cons (pe_fmt (pe_fld (pv 0) rfl)) .nil))))), ?_⟩
      refine ⟨_, rfl, a, _, dx, _, _, u, rfl, ha, T.cls .near, con, fs_kind _, .inl ⟨_, rfl, by decide +kernel, _, rfl, by decide +kernel, ?_⟩⟩
      refine ⟨_, rfl, by decide +kernel, ?_⟩
      refine ⟨_, rfl, a, _, dx, _, _, rfl, ha, T.cls .near, T.noM, l, .inr ⟨m, rfl, numS_log hok, _, rfl, ?_, ?_⟩⟩
      · show ((((Str.empty ++ ("near" : Str)) ++ (":" : Str)) ++ numS m)).length ≤ sizeLine
        rw [near_word]
        exact Nat.le_trans (label_len (r := .near m) hok) (by decide)
      · show Q (.str ((((Str.empty ++ ("near" : Str)) ++ (":" : Str)) ++ numS m))) H
        rw [near_word]
        exact q
    | _ => cases hk
/-! ### equal cells -/
theorem sc_Cell_eq : FnScope ["self", "other"] ["self", "other"] (defScope s_Cell_eq) := ⟨rfl, rfl, rfl, by decide +kernel, rfl, by decide +kernel, by decide +kernel⟩
theorem ok_Cell_eq {f : Addr} {fd : FuncData} (F : Fun K "__eq__" "Cell.__eq__" s_Cell_eq f fd) (B : Bln mg) (T : Cells K mg) (L : LabelsOk P w K mg base 1) : FnOk P w K mg base CX0 3 f fd ["self", "other"] (spEq K .first) := by
  refine F.ok sc_Cell_eq (fun vs H Q E h => ?_) (fun cdv A outer s H vs Q E hr h => ?_)
  · obtain ⟨a, r, y, rfl, _⟩ := h
    rfl
  · obtain ⟨a, r, y, rfl, hk, ca, h⟩ := h
    refine ⟨_, pss_one (ps_ret (pe_and (pe_callB call_isi (by rfl) B.isinstance boot_isinstance' (pa_cons (pv 1) (pa_cons (pe_glob (v := .ref (He.ga K "Cell")) (by rfl) (T.glo .first) rfl) pa_nil)))
      (pe_one (pe_cmpR op_eq (pe_label T L hr (pv 0)) (pe_label T L hr (pv 1)) (nomark _))))), ?_⟩
    rcases h with ⟨b, r', rfl, cb, q⟩ | ⟨z, rfl, q⟩
    · refine ⟨_, rfl, _, _, _, _, true, rfl, .own _, cb.ty T, T.kit r'.kd, _, rfl, iteT ?_⟩
      refine ⟨_, rfl, a, r, rfl, ca, _, rfl, b, r', rfl, cb, rfl, ?_⟩
      have e : decide (V.str r.label = V.str r'.label) = decide (r.label = r'.label) := by
        by_cases z : r.label = r'.label
        · rw [decide_eq_true z, z]
          exact decide_eq_true rfl
        · rw [decide_eq_false z]
          exact decide_eq_false fun y => z (V.str.inj y)
      rw [e]
      exact q
    · exact ⟨_, rfl, _, _, _, _, false, rfl, .own _, .base (.str z), T.kitS, _, rfl, iteF q⟩
theorem sc_Last_eq : FnScope ["self", "other"] ["self", "other"] (defScope s_Last_eq) := ⟨rfl, rfl, rfl, by decide +kernel, rfl, by decide +kernel, by decide +kernel⟩
theorem ok_Last_eq {f : Addr} {fd : FuncData} (F : Fun K "__eq__" "Last.__eq__" s_Last_eq f fd) (B : Bln mg) (T : Cells K mg) (L : LabelsOk P w K mg base 1) : FnOk P w K mg base CX0 3 f fd ["self", "other"] (spEq K .last) := by
  refine F.ok sc_Last_eq (fun vs H Q E h => ?_) (fun cdv A outer s H vs Q E hr h => ?_)
  · obtain ⟨a, r, y, rfl, _⟩ := h
    rfl
  · obtain ⟨a, r, y, rfl, hk, ca, h⟩ := h
    refine ⟨_, pss_one (ps_ret (pe_and (pe_callB call_isi (by rfl) B.isinstance boot_isinstance' (pa_cons (pv 1) (pa_cons (pe_glob (v := .ref (He.ga K "Cell")) (by rfl) (T.glo .first) rfl) pa_nil)))
      (pe_one (pe_cmpR op_eq (pe_label T L hr (pv 0)) (pe_label T L hr (pv 1)) (nomark _))))), ?_⟩
    rcases h with ⟨b, r', rfl, cb, q⟩ | ⟨z, rfl, q⟩
    · refine ⟨_, rfl, _, _, _, _, true, rfl, .own _, cb.ty T, T.kit r'.kd, _, rfl, iteT ?_⟩
      refine ⟨_, rfl, a, r, rfl, ca, _, rfl, b, r', rfl, cb, rfl, ?_⟩
      have e : decide (V.str r.label = V.str r'.label) = decide (r.label = r'.label) := by
        by_cases z : r.label = r'.label
        · rw [decide_eq_true z, z]
          exact decide_eq_true rfl
        · rw [decide_eq_false z]
          exact decide_eq_false fun y => z (V.str.inj y)
      rw [e]
      exact q
    · exact ⟨_, rfl, _, _, _, _, false, rfl, .own _, .base (.str z), T.kitS, _, rfl, iteF q⟩
theorem sc_Less_eq : FnScope ["self", "other"] ["self", "other"] (defScope s_Less_eq) := ⟨rfl, rfl, rfl, by decide +kernel, rfl, by decide +kernel, by decide +kernel⟩
theorem ok_Less_eq {f : Addr} {fd : FuncData} (F : Fun K "__eq__" "Less.__eq__" s_Less_eq f fd) (B : Bln mg) (T : Cells K mg) (L : LabelsOk P w K mg base 1) : FnOk P w K mg base CX0 3 f fd ["self", "other"] (spEq K .less) := by
  refine F.ok sc_Less_eq (fun vs H Q E h => ?_) (fun cdv A outer s H vs Q E hr h => ?_)
  · obtain ⟨a, r, y, rfl, _⟩ := h
    rfl
  · obtain ⟨a, r, y, rfl, hk, ca, h⟩ := h
    refine ⟨_, pss_one (ps_ret (pe_and (pe_callB call_isi (by rfl) B.isinstance boot_isinstance' (pa_cons (pv 1) (pa_cons (pe_glob (v := .ref (He.ga K "Cell")) (by rfl) (T.glo .first) rfl) pa_nil)))
      (pe_one (pe_cmpR op_eq (pe_label T L hr (pv 0)) (pe_label T L hr (pv 1)) (nomark _))))), ?_⟩
    rcases h with ⟨b, r', rfl, cb, q⟩ | ⟨z, rfl, q⟩
    · refine ⟨_, rfl, _, _, _, _, true, rfl, .own _, cb.ty T, T.kit r'.kd, _, rfl, iteT ?_⟩
      refine ⟨_, rfl, a, r, rfl, ca, _, rfl, b, r', rfl, cb, rfl, ?_⟩
      have e : decide (V.str r.label = V.str r'.label) = decide (r.label = r'.label) := by
        by_cases z : r.label = r'.label
        · rw [decide_eq_true z, z]
          exact decide_eq_true rfl
        · rw [decide_eq_false z]
          exact decide_eq_false fun y => z (V.str.inj y)
      rw [e]
      exact q
    · exact ⟨_, rfl, _, _, _, _, false, rfl, .own _, .base (.str z), T.kitS, _, rfl, iteF q⟩
theorem sc_Greater_eq : FnScope ["self", "other"] ["self", "other"] (defScope s_Greater_eq) := ⟨rfl, rfl, rfl, by decide +kernel, rfl, by decide +kernel, by decide +kernel⟩
theorem ok_Greater_eq {f : Addr} {fd : FuncData} (F : Fun K "__eq__" "Greater.__eq__" s_Greater_eq f fd) (B : Bln mg) (T : Cells K mg) (L : LabelsOk P w K mg base 1) : FnOk P w K mg base CX0 3 f fd ["self", "other"] (spEq K .greater) := by
  refine F.ok sc_Greater_eq (fun vs H Q E h => ?_) (fun cdv A outer s H vs Q E hr h => ?_)
  · obtain ⟨a, r, y, rfl, _⟩ := h
    rfl
  · obtain ⟨a, r, y, rfl, hk, ca, h⟩ := h
    refine ⟨_, pss_one (ps_ret (pe_and (pe_callB call_isi (by rfl) B.isinstance boot_isinstance' (pa_cons (pv 1) (pa_cons (pe_glob (v := .ref (He.ga K "Cell")) (by rfl) (T.glo .first) rfl) pa_nil)))
      (pe_one (pe_cmpR op_eq (pe_label T L hr (pv 0)) (pe_label T L hr (pv 1)) (nomark _))))), ?_⟩
    rcases h with ⟨b, r', rfl, cb, q⟩ | ⟨z, rfl, q⟩
    · refine ⟨_, rfl, _, _, _, _, true, rfl, .own _, cb.ty T, T.kit r'.kd, _, rfl, iteT ?_⟩
      refine ⟨_, rfl, a, r, rfl, ca, _, rfl, b, r', rfl, cb, rfl, ?_⟩
      have e : decide (V.str r.label = V.str r'.label) = decide (r.label = r'.label) := by
        by_cases z : r.label = r'.label
        · rw [decide_eq_true z, z]
          exact decide_eq_true rfl
        · rw [decide_eq_false z]
          exact decide_eq_false fun y => z (V.str.inj y)
      rw [e]
      exact q
    · exact ⟨_, rfl, _, _, _, _, false, rfl, .own _, .base (.str z), T.kitS, _, rfl, iteF q⟩
theorem sc_Near_eq : FnScope ["self", "other"] ["self", "other"] (defScope s_Near_eq) := ⟨rfl, rfl, rfl, by decide +kernel, rfl, by decide +kernel, by decide +kernel⟩
theorem ok_Near_eq {f : Addr} {fd : FuncData} (F : Fun K "__eq__" "Near.__eq__" s_Near_eq f fd) (B : Bln mg) (T : Cells K mg) (L : LabelsOk P w K mg base 1) : FnOk P w K mg base CX0 3 f fd ["self", "other"] (spEq K .near) := by
  refine F.ok sc_Near_eq (fun vs H Q E h => ?_) (fun cdv A outer s H vs Q E hr h => ?_)
  · obtain ⟨a, r, y, rfl, _⟩ := h
    rfl
  · obtain ⟨a, r, y, rfl, hk, ca, h⟩ := h
    refine ⟨_, pss_one (ps_ret (pe_and (pe_callB call_isi (by rfl) B.isinstance boot_isinstance' (pa_cons (pv 1) (pa_cons (pe_glob (v := .ref (He.ga K "Cell")) (by rfl) (T.glo .first) rfl) pa_nil)))
      (pe_one (pe_cmpR op_eq (pe_label T L hr (pv 0)) (pe_label T L hr (pv 1)) (nomark _))))), ?_⟩
    rcases h with ⟨b, r', rfl, cb, q⟩ | ⟨z, rfl, q⟩
    · refine ⟨_, rfl, _, _, _, _, true, rfl, .own _, cb.ty T, T.kit r'.kd, _, rfl, iteT ?_⟩
      refine ⟨_, rfl, a, r, rfl, ca, _, rfl, b, r', rfl, cb, rfl, ?_⟩
      have e : decide (V.str r.label = V.str r'.label) = decide (r.label = r'.label) := by
        by_cases z : r.label = r'.label
        · rw [decide_eq_true z, z]
          exact decide_eq_true rfl
        · rw [decide_eq_false z]
          exact decide_eq_false fun y => z (V.str.inj y)
      rw [e]
      exact q
    · exact ⟨_, rfl, _, _, _, _, false, rfl, .own _, .base (.str z), T.kitS, _, rfl, iteF q⟩
/-! ### opposite cells -/
theorem made_same {H : Hp} {x dx C : Addr} {fs : List (Str × V)} (h1 : H x = none) (h2 : H dx = none) : Same H (upd (upd H dx (.own x)) x (.ins C dx fs)) := fun b o e => by
  rw [upd_ne (ne_of_none e h1), upd_ne (ne_of_none e h2)]
  exact e
theorem sc_Cell_neg : FnScope ["self"] ["self"] (defScope s_Cell_neg) := ⟨rfl, rfl, rfl, by decide +kernel, rfl, by decide +kernel, by decide +kernel⟩
theorem ok_Cell_neg {f : Addr} {fd : FuncData} (F : Fun K "__neg__" "Cell.__neg__" s_Cell_neg f fd) (T : Cells K mg) : FnOk P w K mg base CX0 1 f fd ["self"] (spNeg K .first) := by
  refine F.ok sc_Cell_neg (fun vs H Q E h => ?_) (fun cdv A outer s H vs Q E hr h => ?_)
  · obtain ⟨a, r, rfl, _⟩ := h
    rfl
  · obtain ⟨a, r, rfl, hk, ⟨hok, dx, ha⟩, q⟩ := h
    cases r with
    | first =>
      refine ⟨_, pss_one (ps_ret (pe_mk0 (T.mk0 .first (by decide)) (by rfl) (T.glo .first))), ?_⟩
      intro x dy h1 h2 h3
      exact q x _ h1 (made_same h1 h2) ⟨trivial, dy, upd_same⟩
    | _ => cases hk
theorem sc_Last_neg : FnScope ["self"] ["self"] (defScope s_Last_neg) := ⟨rfl, rfl, rfl, by decide +kernel, rfl, by decide +kernel, by decide +kernel⟩
theorem ok_Last_neg {f : Addr} {fd : FuncData} (F : Fun K "__neg__" "Last.__neg__" s_Last_neg f fd) (T : Cells K mg) : FnOk P w K mg base CX0 1 f fd ["self"] (spNeg K .last) := by
  refine F.ok sc_Last_neg (fun vs H Q E h => ?_) (fun cdv A outer s H vs Q E hr h => ?_)
  · obtain ⟨a, r, rfl, _⟩ := h
    rfl
  · obtain ⟨a, r, rfl, hk, ⟨hok, dx, ha⟩, q⟩ := h
    cases r with
    | last =>
      refine ⟨_, pss_one (ps_ret (pe_mk0 (T.mk0 .last (by decide)) (by rfl) (T.glo .last))), ?_⟩
      intro x dy h1 h2 h3
      exact q x _ h1 (made_same h1 h2) ⟨trivial, dy, upd_same⟩
    | _ => cases hk
theorem sc_Less_neg : FnScope ["self"] ["self"] (defScope s_Less_neg) := ⟨rfl, rfl, rfl, by decide +kernel, rfl, by decide +kernel, by decide +kernel⟩
theorem ok_Less_neg {f : Addr} {fd : FuncData} (F : Fun K "__neg__" "Less.__neg__" s_Less_neg f fd) (T : Cells K mg) : FnOk P w K mg base CX0 1 f fd ["self"] (spNeg K .less) := by
  refine F.ok sc_Less_neg (fun vs H Q E h => ?_) (fun cdv A outer s H vs Q E hr h => ?_)
  · obtain ⟨a, r, rfl, _⟩ := h
    rfl
  · obtain ⟨a, r, rfl, hk, ⟨hok, dx, ha⟩, q⟩ := h
    cases r with
    | less =>
      refine ⟨_, pss_one (ps_ret (pe_mk0 (T.mk0 .greater (by decide)) (by rfl) (T.glo .greater))), ?_⟩
      intro x dy h1 h2 h3
      exact q x _ h1 (made_same h1 h2) ⟨trivial, dy, upd_same⟩
    | _ => cases hk
theorem sc_Greater_neg : FnScope ["self"] ["self"] (defScope s_Greater_neg) := ⟨rfl, rfl, rfl, by decide +kernel, rfl, by decide +kernel, by decide +kernel⟩
theorem ok_Greater_neg {f : Addr} {fd : FuncData} (F : Fun K "__neg__" "Greater.__neg__" s_Greater_neg f fd) (T : Cells K mg) : FnOk P w K mg base CX0 1 f fd ["self"] (spNeg K .greater) := by
  refine F.ok sc_Greater_neg (fun vs H Q E h => ?_) (fun cdv A outer s H vs Q E hr h => ?_)
  · obtain ⟨a, r, rfl, _⟩ := h
    rfl
  · obtain ⟨a, r, rfl, hk, ⟨hok, dx, ha⟩, q⟩ := h
    cases r with
    | greater =>
      refine ⟨_, pss_one (ps_ret (pe_mk0 (T.mk0 .less (by decide)) (by rfl) (T.glo .less))), ?_⟩
      intro x dy h1 h2 h3
      exact q x _ h1 (made_same h1 h2) ⟨trivial, dy, upd_same⟩
    | _ => cases hk
theorem sc_Near_neg : FnScope ["self"] ["self"] (defScope s_Near_neg) := ⟨rfl, rfl, rfl, by decide +kernel, rfl, by decide +kernel, by decide +kernel⟩
theorem ok_Near_neg {f : Addr} {fd gd : FuncData} (F : Fun K "__neg__" "Near.__neg__" s_Near_neg f fd) (T : Cells K mg) (G : FnOk P w K mg base (L2.CX P w) 4 (He.ma K (He.ga K "Near") "__init__") gd ["self", "mark"] (spNearInit K)) (bG : Binds K gd ["self", "mark"] []) :
    FnOk P w K mg base CX0 6 f fd ["self"] (spNeg K .near) := by
  refine F.ok sc_Near_neg (fun vs H Q E h => ?_) (fun cdv A outer s H vs Q E hr h => ?_)
  · obtain ⟨a, r, rfl, _⟩ := h
    rfl
  · obtain ⟨a, r, rfl, hk, ⟨hok, dx, ha⟩, q⟩ := h
    cases r with
    | near m =>
      have l : (Rule.near m).fs.lookup ("mark" : Str) = some (.int m) := by simp [Rule.fs, List.lookup]
      refine ⟨_, pss_one (ps_ret (pe_make T.mkN G hr (by rfl) (T.glo .near) bG .nil passL (pa_cons (pe_un un_neg (pe_fld (pv 0) rfl)) pa_nil))), ?_⟩
      refine ⟨_, rfl, a, _, dx, _, _, rfl, ha, T.cls .near, T.noM, l, _, rfl, fun x dy h1 h2 h3 => ?_⟩
      have hn : numOk (-m) := Rule.neg_ok (r := .near m) hok
      refine ⟨x, dy, _, rfl, upd_same, .inl ⟨-m, rfl, fun _ => ⟨rfl, ?_⟩, fun z => absurd hn z⟩⟩
      rw [upd_upd]
      exact q x _ h1 (made_same h1 h2) ⟨hn, dy, upd_same⟩
    | _ => cases hk
end
end SC
set_option maxRecDepth 100000
set_option maxHeartbeats 2000000
namespace SC
open PySem PySem.Spec PyProof.Rows L2 TL
section
variable {P : Program} {w : World} {K : PySem.W.Frag} {mg : Str → Option Value} {base : Heap}
theorem sc_below : FnScope ["_law_d", "_law_limit", "_law_result"] ["_law_d", "_law_limit"] (defScope s__law_below) := ⟨rfl, rfl, rfl, by decide +kernel, rfl, by decide +kernel, by decide +kernel⟩
theorem ok_below {f : Addr} {fd : FuncData} (F : Fun K "_law_below" "_law_below" s__law_below f fd) (B : Bln mg) : FnOk P w K mg base CX0 1 f fd ["_law_d", "_law_limit"] spBelow := by
  refine F.ok sc_below (fun vs H Q E h => ?_) (fun cdv A outer s H vs Q E hr h => ?_)
  · obtain ⟨a, L, ds, rfl, _⟩ := h
    rfl
  · obtain ⟨a, L, ds, rfl, hL, hL2, ha, hd, q⟩ := h
    refine ⟨_, C8.pss_cut (ps_if (PW.pt (pw_and (pt_cmpR op_eq (pe_ix ix_list (pv 0) pe_int (fun _ _ => rfl)) pe_int (nomark _)) (pw_and1 (pt_cmpR op_gt (pe_callB call_len_seq (by rfl) B.len boot_len' (pa_cons (pv 0) pa_nil)) pe_int (nomark _)))))
        (pss_one (ps_asg (pe_bm PySem.F.plainAttrs_list PySem.F.slot_list_pop PySem.F.type_list_pop mt_popAt (pv 0) (pa_cons pe_int pa_nil)) (pg_sub (pv 0) pe_int set_list))) pss_nil)
      (pss_cons (ps_if (pt_cmpR op_gt (pe_ix ix_list (pv 0) pe_int (fun _ _ => rfl)) pe_int (nomark _))
        (pss_cons (ps_set (i := 2) sc_below.nd rfl (.inl rfl) (pe_op op_mod (pe_ix ix_list (pv 0) pe_int (fun _ _ => rfl)) (pv 1)))
          (pss_cons (ps_asg (pe_op op_fdivW (pe_ix ix_list (pv 0) pe_int (fun _ _ => rfl)) (pv 1)) (pg_sub (pv 0) pe_int set_list)) (pss_one (ps_ret (pv 2))))) pss_nil)
      (pss_cons (ps_asg (pe_op op_mod (pe_op op_add (pe_op op_mul (pe_ix ix_list (pv 0) pe_int (fun _ _ => rfl)) pe_int) pe_int) pe_int) (pg_sub (pv 0) pe_int set_list))
        (pss_one (ps_ret (pe_op op_mod (pe_op op_fdiv (pe_ix ix_list (pv 0) pe_int (fun _ _ => rfl)) pe_int) (pv 1)))))), ?_⟩
    refine ⟨fun σ' H' => σ' = [some (.ref a), some (.int L), none] ∧ ∃ ds', DOk ds' ∧ H' a = some (.lst (ds'.map V.int)) ∧ (H' = H ∨ ∃ o, H' = upd H a o), ?_, ?_⟩
    · obtain ⟨sd, b, rest, rfl, h1, h2, h3, h4, h5⟩ := id hd
      refine ⟨_, rfl, _, _, _, _, rfl, rfl, SqL.of ha, atI_nat (j := 1) rfl, rfl, _, rfl, ?_⟩
      by_cases hb : b = 0
      · subst hb
        refine iteT ?_
        refine ⟨_, rfl, _, _, rfl, .inl (SqL.of ha), _, _, rfl, rfl, _, rfl, ?_⟩
        cases rest with
        | nil =>
          refine iteF ?_
          exact ⟨rfl, _, hd, ha, .inl rfl⟩
        | cons z rest =>
          refine iteD1 (by simp only [List.length_map, List.length_cons]; omega) ?_
          refine ⟨_, rfl, .inl ⟨rfl, _, SqL.of ha⟩, a, _, 2, 2, .int z, rfl, rfl, ha, by decide, by decide, sx_at (j := 2) (by simp only [List.length_map, List.length_cons]; omega), rfl, ?_⟩
          refine ⟨_, rfl, a, _, 1, 1, rfl, rfl, upd_same, ixN_at (j := 1) (by simp), ?_⟩
          refine ⟨rfl, sd :: z :: rest, ⟨sd, z, rest, rfl, h1, h2, h4 z List.mem_cons_self, fun y hy => h4 y (List.mem_cons_of_mem _ hy), by simp only [List.length_cons] at h5; omega⟩, ?_, .inr ⟨_, upd_upd⟩⟩
          rw [upd_same]
          rfl
      · refine (if_neg (fun z => hb (V.int.inj (of_decide_eq_true z)))).mpr (iteF ?_)
        exact ⟨rfl, _, hd, ha, .inl rfl⟩
    · rintro σ' H' ⟨rfl, ds', hd', ha', hH⟩
      have up : ∀ o, upd H' a o = upd H a o := fun o => by
        rcases hH with rfl | ⟨o', rfl⟩
        · rfl
        · exact upd_upd
      obtain ⟨sd, b, rest, rfl, h1, h2, h3, h4, h5⟩ := id hd'
      refine ⟨_, rfl, _, _, _, _, rfl, rfl, SqL.of ha', atI_nat (j := 1) rfl, _, _, rfl, rfl, _, rfl, ?_⟩
      by_cases hb : 0 < b
      · refine iteD1 hb ?_
        refine ⟨_, rfl, _, _, _, _, rfl, rfl, SqL.of ha', atI_nat (j := 1) rfl, _, rfl, _, _, rfl, rfl, hL, ?_⟩
        refine ⟨_, rfl, _, _, _, _, rfl, rfl, SqL.of ha', atI_nat (j := 1) rfl, _, rfl, _, _, rfl, rfl, lim_div hL hL2, ?_⟩
        refine ⟨_, rfl, a, _, 1, 1, rfl, rfl, ha', ixN_at (j := 1) (by simp), ?_⟩
        refine ⟨_, rfl, ?_⟩
        rw [up]
        exact q (b % L) (sd :: b / L :: rest) (Int.emod_nonneg _ (by omega)) (Int.emod_lt_of_pos _ hL) ⟨sd, b / L, rest, rfl, h1, h2, Int.ediv_nonneg h3 (by omega), h4, h5⟩
      · refine iteD0 hb ?_
        refine ⟨_, rfl, _, _, _, _, rfl, rfl, SqL.of ha', atI_nat (j := 0) rfl, _, _, rfl, rfl, .inl ⟨by omega, by omega⟩, _, _, rfl, rfl, _, _, rfl, rfl, (by show (0 : Int) < 2147483647; decide), ?_⟩
        refine ⟨_, rfl, a, _, 0, 0, rfl, rfl, ha', ixN_at (j := 0) (by simp), ?_⟩
        refine ⟨_, rfl, _, _, _, _, rfl, rfl, SqL.of upd_same, atI_nat (j := 0) rfl, _, _, rfl, rfl, ⟨by decide, by decide⟩, _, rfl, _, _, rfl, rfl, hL, ?_⟩
        rw [up]
        exact q (((sd * 48271 + 11) % 2147483647) / 64 % L) (((sd * 48271 + 11) % 2147483647) :: b :: rest) (Int.emod_nonneg _ (by omega)) (Int.emod_lt_of_pos _ hL)
          ⟨_, b, rest, rfl, Int.emod_nonneg _ (by decide), Int.emod_lt_of_pos _ (by decide), h3, h4, h5⟩
theorem sc_random : FnScope ["_law_script", "_law_salt", "_law_seed", "_law_cell"] ["_law_script", "_law_salt"] (defScope s__law_random) := ⟨rfl, rfl, rfl, by decide +kernel, rfl, by decide +kernel, by decide +kernel⟩
theorem ok_random {f : Addr} {fd : FuncData} (F : Fun K "_law_random" "_law_random" s__law_random f fd) (B : Bln mg) : FnOk P w K mg base CX0 1 f fd ["_law_script", "_law_salt"] (spRandom K) := by
  refine F.ok sc_random (fun vs H Q E h => ?_) (fun cdv A outer s H vs Q E hr h => ?_)
  · obtain ⟨a, ns, salt, rfl, _⟩ := h
    rfl
  · obtain ⟨a, ns, salt, rfl, hS, hl, hs1, hs2, q⟩ := h
    refine ⟨_, pss_cons (ps_set (i := 2) sc_random.nd rfl (.inl rfl) (pv 1))
      (pss_cons (ps_for PassesOwn.never rfl (pi_list (pv 0)) (pg_name (i := 3) sc_random.nd rfl (.inl rfl))
        (pss_one (ps_set (i := 2) sc_random.nd rfl (.inl rfl) (pe_op op_mod (pe_op op_add (pe_op op_mul (pv 2) pe_int) (pe_callB call_abs (by rfl) B.abs boot_abs' (pa_cons (pv 3) pa_nil))) pe_int))))
      (pss_one (ps_ret (pe_op op_cat (pe_lst (pa_cons (pv 2) (pa_cons pe_int pa_nil)))
        (pe_lc (own := [("_law_cell", 3)]) (g := gName 3) (by rfl) sc_random.nd (pi_list (pv 0)) (blkOk_by (own := [("_law_cell", 3)]) (N := ["_law_script", "_law_salt", "_law_seed", "_law_cell"]) (sc := defScope s__law_random) (by decide +kernel))
          (fun _ _ _ _ _ => pg_name (i := 3) sc_random.nd rfl (.inl rfl)) (fun _ _ _ _ _ => pts_one (pt_cmpR op_ge (pv 3) (pe_op op_pow pe_int pe_int) (nomark _))) (fun _ _ _ _ _ => pv 3)))))), ?_⟩
    refine ⟨_, rfl, ?_⟩
    refine ⟨_, rfl, a, rfl, ⟨_, hS⟩, for_list (K := K) (a := a) (xs := ns.map V.int) (fun i σ H2 => ∃ (v : Option V) (sd : Int), σ = [some (.ref a), some (.int salt), some (.int sd), v] ∧ H2 = H ∧ 0 ≤ sd ∧ sd < 2147483647)
      ⟨none, salt, rfl, rfl, hs1, hs2⟩ (fun i σ H2 _ ⟨_, _, _, e, _⟩ => by rw [e]; exact hS) ?_ ?_⟩
    · rintro i y σ H2 hi ⟨v, sd, rfl, rfl, h1, h2⟩
      obtain ⟨z, hz, rfl⟩ := map_int_at hi
      refine ⟨_, rfl, _, _, rfl, rfl, .inl ⟨by omega, by omega⟩, _, rfl, _, rfl, _, _, rfl, rfl, _, _, rfl, rfl, (by show (0 : Int) < 2147483647; decide), ?_⟩
      exact ⟨_, _, rfl, rfl, Int.emod_nonneg _ (by decide), Int.emod_lt_of_pos _ (by decide)⟩
    · rintro σ H2 ⟨v, sd, rfl, rfl, h1, h2⟩
      refine ⟨_, rfl, (by show 2 ≤ sizeLine; decide), fun p hp => ?_⟩
      have s1 : Same H2 (upd H2 p (.lst [.int sd, .int 0])) := same_new hp
      refine ⟨_, rfl, a, rfl, ⟨_, s1.seq hS⟩, fun D hD => ?_⟩
      have hDp : D ≠ p := fun e => by
        rw [e, upd_same] at hD
        cases hD
      have hD0 : H2 D = none := by
        rw [upd_ne hDp] at hD
        exact hD
      refine lc_list (K := K) (a := a) (xs := ns.map V.int) (fun i H3 => H3 = upd (upd H2 p (.lst [.int sd, .int 0])) D (.lst (((ns.take i).filter fun z => decide (1000000000000000000 ≤ z)).map V.int))) rfl ?_ ?_ ?_
      · rintro i H3 _ rfl
        exact (Same.upd s1 hD0).seq hS
      · rintro i y H3 hi rfl
        obtain ⟨z, hz, rfl⟩ := map_int_at hi
        refine ⟨rfl, _, rfl, _, _, rfl, rfl, ⟨by decide, by decide, by decide⟩, _, _, rfl, rfl, _, rfl, ?_⟩
        have ep : ((10 : Int) ^ (18 : Int).toNat) = 1000000000000000000 := by decide +kernel
        rw [take_more hz, List.filter_append]
        by_cases hb : (1000000000000000000 : Int) ≤ z
        · refine iteD1 (by rw [ep]; exact hb) ?_
          refine ⟨_, rfl, _, upd_same, ?_, ?_⟩
          · rw [List.length_map]
            have := List.length_filter_le (fun z => decide (1000000000000000000 ≤ z)) (ns.take i)
            have h3 : (ns.take i).length ≤ ns.length := by rw [List.length_take]; omega
            exact Nat.lt_of_le_of_lt (Nat.le_trans this (Nat.le_trans h3 hl)) (by decide)
          · rw [upd_upd, List.map_append]
            simp [hb]
        · refine iteD0 (by rw [ep]; exact hb) ?_
          simp [hb]
      · rintro H3 rfl
        rw [List.length_map, List.take_length]
        have h3 : (ns.filter fun z => decide (1000000000000000000 ≤ z)).length ≤ 63 := Nat.le_trans (List.length_filter_le _ _) hl
        refine ⟨p, D, _, _, rfl, rfl, by rw [upd_ne hDp.symm, upd_same], upd_same, ?_, fun p' hp' => ?_⟩
        · rw [List.length_map]
          exact Nat.le_trans (show 2 + (ns.filter fun z => decide (1000000000000000000 ≤ z)).length ≤ 65 by omega) (by decide)
        · have hp0 : H2 p' = none := (Same.upd s1 hD0).free hp'
          refine q p' _ (sd :: 0 :: ns.filter fun z => decide (1000000000000000000 ≤ z)) hp0 (Same.upd (Same.upd s1 hD0) hp0) ⟨sd, 0, _, rfl, h1, h2, by decide, fun z hz => ?_, h3⟩ ?_
          · have := of_decide_eq_true (List.mem_filter.mp hz).2
            omega
          · rw [upd_same]
            rfl
end
end SC
set_option maxRecDepth 100000
set_option maxHeartbeats 2000000
namespace SC
open PySem PySem.Spec PyProof.Rows L2 TL
section
variable {P : Program} {w : World} {K : PySem.W.Frag} {mg : Str → Option Value} {base : Heap}
def nmRow : List Str := ["_law_d", "_law_most", "_law_top", "_law_k"]
theorem sc_row : FnScope nmRow ["_law_d", "_law_most"] (defScope s__law_row) := ⟨rfl, rfl, rfl, by decide +kernel, rfl, by decide +kernel, by decide +kernel⟩
theorem ok_row {f g : Addr} {fd gd : FuncData} (F : Fun K "_law_row" "_law_row" s__law_row f fd) (B : Bln mg) (G : FnOk P w K mg base CX0 1 g gd ["_law_d", "_law_limit"] spBelow) (bG : Binds K gd ["_law_d", "_law_limit"] []) (kG : PySem.W.keepIn K (.ref g) = true) (hg : mg "_law_below" = some (.ref g)) :
    FnOk P w K mg base CX0 2 f fd ["_law_d", "_law_most"] spRow := by
  refine F.ok sc_row (fun vs H Q E h => ?_) (fun cdv A outer s H vs Q E hr h => ?_)
  · obtain ⟨a, M, ds, rfl, _⟩ := h
    rfl
  · obtain ⟨a, M, ds, rfl, hM0, hM, ha, hd, q⟩ := h
    refine ⟨_, pss_cons (ps_set (i := 2) sc_row.nd rfl (.inr rfl) (pe_ix ix_list (pe_lst (pa_cons pe_int (pa_cons pe_int (pa_cons (pe_op op_pow pe_int pe_int) pa_nil)))) (pe_call G hr (by rfl) hg kG bG .nil pass0 (pa_cons (pv 0) (pa_cons pe_int pa_nil))) (fun _ _ => rfl)))
      (pss_one (ps_ret (pe_lc (own := [("_law_k", 3)]) (g := gName 3) (by rfl) sc_row.nd (pi_range1 (by rfl) B.range (pa_cons (pe_call G hr (by rfl) hg kG bG .nil pass0 (pa_cons (pv 0) (pa_cons (pe_op op_add (pv 1) pe_int) pa_nil))) pa_nil))
          (blkOk_by (own := [("_law_k", 3)]) (N := nmRow) (sc := defScope s__law_row) (by decide +kernel))
          (fun _ _ _ _ _ => pg_name (i := 3) sc_row.nd rfl (.inl rfl)) (fun _ _ _ _ _ => pts_nil) (fun _ _ _ _ _ => pe_op op_sub (pe_call G hr (by rfl) hg kG bG .nil pass0 (pa_cons (pv 0) (pa_cons (pe_op op_add (pe_op op_mul pe_int (pv 2)) pe_int) pa_nil))) (pv 2))))), ?_⟩
    refine ⟨_, _, rfl, rfl, ⟨by decide, by decide, by decide⟩, (by show 3 ≤ sizeLine; decide), fun p0 hp0 => ?_⟩
    have np : a ≠ p0 := ne_of_none ha hp0
    refine ⟨_, rfl, a, 3, ds, rfl, by decide, by decide, by rw [upd_ne np]; exact ha, hd, fun k ds1 k0 k3 hd1 => ?_⟩
    obtain ⟨top, ht, htop⟩ : ∃ top : Int, atI [V.int 3, V.int 9, V.int ((10 : Int) ^ (9 : Int).toNat)] k = some (.int top) ∧ (0 ≤ top ∧ top ≤ 1000000000) := by
      have ep : ((10 : Int) ^ (9 : Int).toNat) = 1000000000 := by decide +kernel
      rw [ep]
      have : k = 0 ∨ k = 1 ∨ k = 2 := by omega
      rcases this with rfl | rfl | rfl
      · exact ⟨3, rfl, by decide, by decide⟩
      · exact ⟨9, rfl, by decide, by decide⟩
      · exact ⟨1000000000, rfl, by decide, by decide⟩
    refine ⟨p0, _, k, _, rfl, rfl, SqL.of (by rw [upd_ne np.symm, upd_same]), ht, ?_⟩
    refine ⟨_, rfl, _, rfl, _, _, rfl, rfl, a, M + 1, ds1, rfl, by omega, by omega, upd_same, hd1, fun n ds2 n0 nM hd2 => ?_⟩
    refine ⟨n, rfl, by omega, by omega, fun D hD => ?_⟩
    have f1 : Fr1 a H (upd (upd (upd H p0 (.lst [V.int 3, V.int 9, V.int ((10 : Int) ^ (9 : Int).toNat)])) a (.lst (ds1.map V.int))) a (.lst (ds2.map V.int))) := ((Fr1.refl.new hp0).trans Fr1.at).trans Fr1.at
    have hD0 : H D = none := f1.free upd_same hD
    have nD : a ≠ D := ne_of_none ha hD0
    refine lc_range (lo := 0) (n := n.toNat) (fun i H3 => ∃ (ns ds3 : List Int), Fr1 a H H3 ∧ DOk ds3 ∧ H3 a = some (.lst (ds3.map V.int)) ∧ H3 D = some (.lst (ns.map V.int)) ∧ ns.length = i ∧ ∀ z ∈ ns, numOk z) ?_ ?_ ?_
    · exact ⟨[], ds2, f1.upd hD0, hd2, by rw [upd_ne nD, upd_same], upd_same, rfl, fun z hz => by cases hz⟩
    · rintro i H3 hi ⟨ns, ds3, f3, hd3, ha3, hD3, hl, hz⟩
      refine ⟨rfl, ?_⟩
      refine ⟨_, rfl, _, rfl, _, _, rfl, rfl, .inl ⟨by decide, by decide⟩, _, _, rfl, rfl, a, 2 * top + 1, ds3, rfl, by omega, by omega, ha3, hd3, fun x ds4 x0 x1 hd4 => ?_⟩
      refine ⟨_, rfl, _, _, rfl, rfl, ns.map V.int, by rw [upd_ne nD.symm]; exact hD3, ?_, ?_⟩
      · rw [List.length_map, hl]
        exact Nat.lt_of_lt_of_le (show i < 10001 by omega) (by decide)
      · refine ⟨ns ++ [x - top], ds4, ?_, hd4, by rw [upd_ne nD, upd_same], by rw [upd_same, List.map_append]; rfl, by rw [List.length_append, hl]; rfl, fun z hm => ?_⟩
        · exact (f3.trans Fr1.at).upd hD0
        · rcases List.mem_append.mp hm with hm | hm
          · exact hz z hm
          · rw [List.mem_singleton.mp hm]
            constructor <;> omega
    · rintro H3 ⟨ns, ds3, f3, hd3, ha3, hD3, hl, hz⟩
      exact q D H3 ns ds3 hD0 f3 hd3 ha3 hD3 (by rw [hl]; omega) hz
end
end SC
set_option maxRecDepth 100000
set_option maxHeartbeats 2000000
namespace SC
open PySem PySem.Spec PyProof.Rows L2 TL
section
variable {P : Program} {w : World} {K : PySem.W.Frag} {mg : Str → Option Value} {base : Heap}
def nmEq : List Str := ["_law_actual", "_law_expected", "_law_k"]
theorem sc_equal : FnScope nmEq ["_law_actual", "_law_expected"] (defScope s__law_equal) := ⟨rfl, rfl, rfl, by decide +kernel, rfl, by decide +kernel, by decide +kernel⟩
theorem kitR {a b : String} {r : Bool} (h : kitB a b = some r) : PySem.W.kitOne K (.type a) (.type b) = some r := kit_ty h
theorem ok_equal {f : Addr} {fd : FuncData} (F : Fun K "_law_equal" "_law_equal" s__law_equal f fd) (B : Bln mg) (hg : mg "_law_equal" = some (.ref f)) (n : Nat) : FnOk P w K mg base CX0 (n + 1) f fd ["_law_actual", "_law_expected"] (spEqual K n) := by
  have bG := F.binds (ps := ["_law_actual", "_law_expected"]) fun _ _ _ _ _ _ us hl => match us, hl with | [_, _], _ => rfl
  induction n with
  | zero =>
    refine F.ok sc_equal (fun vs H Q E h => ?_) (fun cdv A outer s H vs Q E hr h => ?_)
    · obtain ⟨x, y, rfl, _⟩ := h
      rfl
    · obtain ⟨x, y, rfl, ⟨rfl, hf⟩, q⟩ := h
      refine ⟨_, pss_cons (ps_if (pt_cmpR op_isN (pv 1) pe_non (nomark _)) (pss_one (ps_ret (pe_cmpR op_isN (pv 0) pe_non (nomark _)))) pss_nil)
        (pss_cons (ps_if (pt_val (pe_callB call_isi (by rfl) B.isinstance boot_isinstance' (pa_cons (pv 1) (pa_cons (pe_bltn (v := .ty "bool") (by rfl) B.bool boot_bool' rfl) pa_nil)))) (pss_one (ps_ret (pe_and (pe_callB call_isi (by rfl) B.isinstance boot_isinstance' (pa_cons (pv 0) (pa_cons (pe_bltn (v := .ty "bool") (by rfl) B.bool boot_bool' rfl) pa_nil))) (pe_one (pe_cmpR op_eq (pv 0) (pv 1) (nomark _)))))) pss_nil)
        (pss_cons (ps_if (pt_val (pe_callB call_isi (by rfl) B.isinstance boot_isinstance' (pa_cons (pv 1) (pa_cons (pe_bltn (v := .ty "int") (by rfl) B.int boot_int' rfl) pa_nil)))) (pss_one (ps_ret (pe_and (pe_callB call_isi (by rfl) B.isinstance boot_isinstance' (pa_cons (pv 0) (pa_cons (pe_bltn (v := .ty "int") (by rfl) B.int boot_int' rfl) pa_nil))) (pe_and (pe_not (pe_callB call_isi (by rfl) B.isinstance boot_isinstance' (pa_cons (pv 0) (pa_cons (pe_bltn (v := .ty "bool") (by rfl) B.bool boot_bool' rfl) pa_nil)))) (pe_one (pe_cmpR op_eq (pv 0) (pv 1) (nomark _))))))) pss_nil)
        (pss_cons (ps_if (pt_val (pe_callB call_isi (by rfl) B.isinstance boot_isinstance' (pa_cons (pv 1) (pa_cons (pe_bltn (v := .ty "str") (by rfl) B.str boot_str' rfl) pa_nil)))) (pss_one (ps_ret (pe_and (pe_callB call_isi (by rfl) B.isinstance boot_isinstance' (pa_cons (pv 0) (pa_cons (pe_bltn (v := .ty "str") (by rfl) B.str boot_str' rfl) pa_nil))) (pe_one (pe_cmpR op_eq (pv 0) (pv 1) (nomark _)))))) pss_nil)
        pss_never))), ?_⟩
      have no : ∀ (b : Bool) {a c : String} (h : kitB a c = some b), PySem.W.kitOne K (.type a) (.type c) = some b := fun b a c h => kit_ty h
      cases x with
      | non => exact ⟨_, rfl, rfl, _, rfl, iteT ⟨_, rfl, rfl, q _ (Same.refl _)⟩⟩
      | bl b =>
        refine ⟨_, rfl, rfl, _, rfl, iteF ?_⟩
        refine ⟨_, rfl, _, _, _, _, _, rfl, .ty "bool", .base (.bl b), no true (by decide +kernel), _, rfl, iteT ?_⟩
        refine ⟨_, rfl, _, _, _, _, _, rfl, .ty "bool", .base (.bl b), no true (by decide +kernel), _, rfl, iteT ?_⟩
        refine ⟨_, rfl, _, rfl, rfl, ?_⟩
        rw [decide_eq_true rfl]
        exact q _ (Same.refl _)
      | int i =>
        refine ⟨_, rfl, rfl, _, rfl, iteF ?_⟩
        refine ⟨_, rfl, _, _, _, _, _, rfl, .ty "bool", .base (.int i), no false (by decide +kernel), _, rfl, iteF ?_⟩
        refine ⟨_, rfl, _, _, _, _, _, rfl, .ty "int", .base (.int i), no true (by decide +kernel), _, rfl, iteT ?_⟩
        refine ⟨_, rfl, _, _, _, _, _, rfl, .ty "int", .base (.int i), no true (by decide +kernel), _, rfl, iteT ?_⟩
        refine ⟨_, rfl, _, _, _, _, _, rfl, .ty "bool", .base (.int i), no false (by decide +kernel), _, rfl, _, rfl, iteT ?_⟩
        refine ⟨_, rfl, _, rfl, rfl, ?_⟩
        rw [decide_eq_true rfl]
        exact q _ (Same.refl _)
      | str z =>
        refine ⟨_, rfl, rfl, _, rfl, iteF ?_⟩
        refine ⟨_, rfl, _, _, _, _, _, rfl, .ty "bool", .base (.str z), no false (by decide +kernel), _, rfl, iteF ?_⟩
        refine ⟨_, rfl, _, _, _, _, _, rfl, .ty "int", .base (.str z), no false (by decide +kernel), _, rfl, iteF ?_⟩
        refine ⟨_, rfl, _, _, _, _, _, rfl, .ty "str", .base (.str z), no true (by decide +kernel), _, rfl, iteT ?_⟩
        refine ⟨_, rfl, _, _, _, _, _, rfl, .ty "str", .base (.str z), no true (by decide +kernel), _, rfl, iteT ?_⟩
        refine ⟨_, rfl, _, rfl, rfl, ?_⟩
        rw [decide_eq_true rfl]
        exact q _ (Same.refl _)
      | _ => cases hf
  | succ n ih =>
    refine F.ok sc_equal (fun vs H Q E h => ?_) (fun cdv A outer s H vs Q E hr h => ?_)
    · obtain ⟨x, y, rfl, _⟩ := h
      rfl
    · obtain ⟨x, y, rfl, hxy, q⟩ := h
      refine ⟨_, pss_cons (ps_if (pt_cmpR op_isN (pv 1) pe_non (nomark _)) (pss_one (ps_ret (pe_cmpR op_isN (pv 0) pe_non (nomark _)))) pss_nil)
        (pss_cons (ps_if (pt_val (pe_callB call_isi (by rfl) B.isinstance boot_isinstance' (pa_cons (pv 1) (pa_cons (pe_bltn (v := .ty "bool") (by rfl) B.bool boot_bool' rfl) pa_nil)))) (pss_one (ps_ret (pe_and (pe_callB call_isi (by rfl) B.isinstance boot_isinstance' (pa_cons (pv 0) (pa_cons (pe_bltn (v := .ty "bool") (by rfl) B.bool boot_bool' rfl) pa_nil))) (pe_one (pe_cmpR op_eq (pv 0) (pv 1) (nomark _)))))) pss_nil)
        (pss_cons (ps_if (pt_val (pe_callB call_isi (by rfl) B.isinstance boot_isinstance' (pa_cons (pv 1) (pa_cons (pe_bltn (v := .ty "int") (by rfl) B.int boot_int' rfl) pa_nil)))) (pss_one (ps_ret (pe_and (pe_callB call_isi (by rfl) B.isinstance boot_isinstance' (pa_cons (pv 0) (pa_cons (pe_bltn (v := .ty "int") (by rfl) B.int boot_int' rfl) pa_nil))) (pe_and (pe_not (pe_callB call_isi (by rfl) B.isinstance boot_isinstance' (pa_cons (pv 0) (pa_cons (pe_bltn (v := .ty "bool") (by rfl) B.bool boot_bool' rfl) pa_nil)))) (pe_one (pe_cmpR op_eq (pv 0) (pv 1) (nomark _))))))) pss_nil)
        (pss_cons (ps_if (pt_val (pe_callB call_isi (by rfl) B.isinstance boot_isinstance' (pa_cons (pv 1) (pa_cons (pe_bltn (v := .ty "str") (by rfl) B.str boot_str' rfl) pa_nil)))) (pss_one (ps_ret (pe_and (pe_callB call_isi (by rfl) B.isinstance boot_isinstance' (pa_cons (pv 0) (pa_cons (pe_bltn (v := .ty "str") (by rfl) B.str boot_str' rfl) pa_nil))) (pe_one (pe_cmpR op_eq (pv 0) (pv 1) (nomark _)))))) pss_nil)
        (pss_cons (ps_if (pt_cmpR op_ne (pe_callB call_isi (by rfl) B.isinstance boot_isinstance' (pa_cons (pv 1) (pa_cons (pe_bltn (v := .ty "tuple") (by rfl) B.tuple boot_tuple' rfl) pa_nil))) (pe_callB call_isi (by rfl) B.isinstance boot_isinstance' (pa_cons (pv 0) (pa_cons (pe_bltn (v := .ty "tuple") (by rfl) B.tuple boot_tuple' rfl) pa_nil))) (nomark _)) (pss_one (ps_ret pe_bl)) pss_nil)
        (pss_cons (ps_if (pt_cmpR op_ne (pe_callB call_isi (by rfl) B.isinstance boot_isinstance' (pa_cons (pv 1) (pa_cons (pe_bltn (v := .ty "list") (by rfl) B.list boot_list' rfl) pa_nil))) (pe_callB call_isi (by rfl) B.isinstance boot_isinstance' (pa_cons (pv 0) (pa_cons (pe_bltn (v := .ty "list") (by rfl) B.list boot_list' rfl) pa_nil))) (nomark _)) (pss_one (ps_ret pe_bl)) pss_nil)
        (pss_cons (ps_if (pt_cmpR op_ne (pe_callB call_len_seq (by rfl) B.len boot_len' (pa_cons (pv 0) pa_nil)) (pe_callB call_len_seq (by rfl) B.len boot_len' (pa_cons (pv 1) pa_nil)) (nomark _)) (pss_one (ps_ret pe_bl)) pss_nil)
        (pss_one (ps_ret (pe_callB (cr_all rfl) (by rfl) B.all boot_all' (pa_cons (pe_lc (own := [("_law_k", 2)]) (g := gName 2) (by rfl) sc_equal.nd (pi_range1 (by rfl) B.range (pa_cons (pe_callB call_len_seq (by rfl) B.len boot_len' (pa_cons (pv 1) pa_nil)) pa_nil))
          (blkOk_by (own := [("_law_k", 2)]) (N := nmEq) (sc := defScope s__law_equal) (by decide +kernel))
          (fun _ _ _ _ _ => pg_name (i := 2) sc_equal.nd rfl (.inl rfl)) (fun _ _ _ _ _ => pts_nil)
          (fun _ _ _ _ _ => pe_call ih hr (by rfl) hg F.kp bG .nil pass0 (pa_cons (pe_ix (r := rIxLT K) ix_lt (pv 0) (pv 2) (fun _ _ => rfl)) (pa_cons (pe_ix (r := rIxLT K) ix_lt (pv 1) (pv 2) (fun _ _ => rfl)) pa_nil)))) pa_nil)))))))))), ?_⟩
      rcases hxy with ⟨rfl, hf⟩ | ⟨a, b, xs, ys, rfl, rfl, hab, hl, hz, hi⟩
      · have no : ∀ (b : Bool) {a c : String} (h : kitB a c = some b), PySem.W.kitOne K (.type a) (.type c) = some b := fun b a c h => kit_ty h
        cases x with
        | non => exact ⟨_, rfl, rfl, _, rfl, iteT ⟨_, rfl, rfl, q _ (Same.refl _)⟩⟩
        | bl b =>
          refine ⟨_, rfl, rfl, _, rfl, iteF ?_⟩
          refine ⟨_, rfl, _, _, _, _, _, rfl, .ty "bool", .base (.bl b), no true (by decide +kernel), _, rfl, iteT ?_⟩
          refine ⟨_, rfl, _, _, _, _, _, rfl, .ty "bool", .base (.bl b), no true (by decide +kernel), _, rfl, iteT ?_⟩
          refine ⟨_, rfl, _, rfl, rfl, ?_⟩
          rw [decide_eq_true rfl]
          exact q _ (Same.refl _)
        | int i =>
          refine ⟨_, rfl, rfl, _, rfl, iteF ?_⟩
          refine ⟨_, rfl, _, _, _, _, _, rfl, .ty "bool", .base (.int i), no false (by decide +kernel), _, rfl, iteF ?_⟩
          refine ⟨_, rfl, _, _, _, _, _, rfl, .ty "int", .base (.int i), no true (by decide +kernel), _, rfl, iteT ?_⟩
          refine ⟨_, rfl, _, _, _, _, _, rfl, .ty "int", .base (.int i), no true (by decide +kernel), _, rfl, iteT ?_⟩
          refine ⟨_, rfl, _, _, _, _, _, rfl, .ty "bool", .base (.int i), no false (by decide +kernel), _, rfl, _, rfl, iteT ?_⟩
          refine ⟨_, rfl, _, rfl, rfl, ?_⟩
          rw [decide_eq_true rfl]
          exact q _ (Same.refl _)
        | str z =>
          refine ⟨_, rfl, rfl, _, rfl, iteF ?_⟩
          refine ⟨_, rfl, _, _, _, _, _, rfl, .ty "bool", .base (.str z), no false (by decide +kernel), _, rfl, iteF ?_⟩
          refine ⟨_, rfl, _, _, _, _, _, rfl, .ty "int", .base (.str z), no false (by decide +kernel), _, rfl, iteF ?_⟩
          refine ⟨_, rfl, _, _, _, _, _, rfl, .ty "str", .base (.str z), no true (by decide +kernel), _, rfl, iteT ?_⟩
          refine ⟨_, rfl, _, _, _, _, _, rfl, .ty "str", .base (.str z), no true (by decide +kernel), _, rfl, iteT ?_⟩
          refine ⟨_, rfl, _, rfl, rfl, ?_⟩
          rw [decide_eq_true rfl]
          exact q _ (Same.refl _)
        | _ => cases hf
      · -- two lists or two tuples
        have tyA : ∃ T : String, (T = "list" ∨ T = "tuple") ∧ TyX K H (.ref a) (.type T) ∧ TyX K H (.ref b) (.type T) := by
          rcases hab with ⟨h1, h2⟩ | ⟨h1, h2⟩
          · exact ⟨"list", .inl rfl, .base (.lst h1), .base (.lst h2)⟩
          · exact ⟨"tuple", .inr rfl, .base (.tup h1), .base (.tup h2)⟩
        have sqA : SqL K H a xs ∨ SqT K H a xs := by
          rcases hab with ⟨h1, h2⟩ | ⟨h1, h2⟩
          · exact .inl (SqL.of h1)
          · exact .inr (SqT.of h1)
        have sqB : SqL K H b ys ∨ SqT K H b ys := by
          rcases hab with ⟨h1, h2⟩ | ⟨h1, h2⟩
          · exact .inl (SqL.of h2)
          · exact .inr (SqT.of h2)
        obtain ⟨T, hT, ta, tb⟩ := tyA
        have nb : PySem.W.kitOne K (.type T) (.type "bool") = some false := by rcases hT with rfl | rfl <;> exact kit_ty (by decide +kernel)
        have ni : PySem.W.kitOne K (.type T) (.type "int") = some false := by rcases hT with rfl | rfl <;> exact kit_ty (by decide +kernel)
        have ns : PySem.W.kitOne K (.type T) (.type "str") = some false := by rcases hT with rfl | rfl <;> exact kit_ty (by decide +kernel)
        obtain ⟨bt, kt⟩ : ∃ r, PySem.W.kitOne K (.type T) (.type "tuple") = some r := by
          rcases hT with rfl | rfl
          · exact ⟨false, kit_ty (by decide +kernel)⟩
          · exact ⟨true, kit_ty (by decide +kernel)⟩
        obtain ⟨bl, kl⟩ : ∃ r, PySem.W.kitOne K (.type T) (.type "list") = some r := by
          rcases hT with rfl | rfl
          · exact ⟨true, kit_ty (by decide +kernel)⟩
          · exact ⟨false, kit_ty (by decide +kernel)⟩
        refine ⟨_, rfl, rfl, _, rfl, iteF ?_⟩
        refine ⟨_, rfl, _, _, _, _, _, rfl, .ty "bool", tb, nb, _, rfl, iteF ?_⟩
        refine ⟨_, rfl, _, _, _, _, _, rfl, .ty "int", tb, ni, _, rfl, iteF ?_⟩
        refine ⟨_, rfl, _, _, _, _, _, rfl, .ty "str", tb, ns, _, rfl, iteF ?_⟩
        refine ⟨_, rfl, _, _, _, _, _, rfl, .ty "tuple", tb, kt, _, rfl, _, _, _, _, _, rfl, .ty "tuple", ta, kt, rfl, _, rfl, iteNS rfl ?_⟩
        refine ⟨_, rfl, _, _, _, _, _, rfl, .ty "list", tb, kl, _, rfl, _, _, _, _, _, rfl, .ty "list", ta, kl, rfl, _, rfl, iteNS rfl ?_⟩
        refine ⟨_, rfl, _, _, rfl, sqA, _, rfl, _, _, rfl, sqB, rfl, _, rfl, iteNS (by rw [hl]) ?_⟩
        refine ⟨_, rfl, _, _, rfl, sqB, _, rfl, by omega, by omega, fun D hD => ?_⟩
        have s1 : Same H (upd H D (.lst [])) := same_new hD
        refine lc_range (lo := 0) (n := (ys.length : Int).toNat) (fun i H3 => Same H H3 ∧ H3 D = some (.lst ((List.replicate i true).map V.bl))) ⟨s1, upd_same⟩ ?_ ?_
        · rintro i H3 hlt ⟨s3, hD3⟩
          have hi1 : i < xs.length := by omega
          have hi2 : i < ys.length := by omega
          have e0 : (0 : Int) + (i : Int) = (i : Int) := by omega
          refine ⟨rfl, ?_⟩
          have hx : xs[i]? = some xs[i] := List.getElem?_eq_getElem hi1
          have hy : ys[i]? = some ys[i] := List.getElem?_eq_getElem hi2
          have gA : rIxLT K (.ref a) (.int (0 + (i : Int))) H3 = rIxLT K (.ref a) (.int (i : Int)) H3 := by rw [e0]
          refine ⟨_, rfl, _, rfl, ?_⟩
          have itA : ∀ Q, Q xs[i] H3 → rIxLT K (.ref a) (.int (0 + (i : Int))) H3 Q := fun Q h => by
            rw [e0]
            rcases hab with ⟨h1, h2⟩ | ⟨h1, h2⟩
            · exact .inl ⟨a, xs, _, _, rfl, rfl, SqL.of (s3 _ _ h1), atI_nat hx, h⟩
            · exact .inr ⟨a, xs, _, _, rfl, rfl, SqT.of (s3 _ _ h1), atI_nat hx, h⟩
          have itB : ∀ Q, Q ys[i] H3 → rIxLT K (.ref b) (.int (0 + (i : Int))) H3 Q := fun Q h => by
            rw [e0]
            rcases hab with ⟨h1, h2⟩ | ⟨h1, h2⟩
            · exact .inl ⟨b, ys, _, _, rfl, rfl, SqL.of (s3 _ _ h2), atI_nat hy, h⟩
            · exact .inr ⟨b, ys, _, _, rfl, rfl, SqT.of (s3 _ _ h2), atI_nat hy, h⟩
          refine itA _ ⟨_, rfl, _, rfl, itB _ ?_⟩
          refine ⟨xs[i], ys[i], rfl, (hi i _ _ hx hy).same s3, fun H4 s4 => ?_⟩
          refine ⟨_, s4 _ _ hD3, ?_, ?_, ?_⟩
          · rw [List.length_map, List.length_replicate]
            exact Nat.lt_of_lt_of_le (show i < 100000 by omega) (by decide)
          · exact Same.upd (s3.trans s4) hD
          · rw [upd_same, List.replicate_succ', List.map_append]
            rfl
        · rintro H3 ⟨s3, hD3⟩
          refine ⟨D, List.replicate (ys.length : Int).toNat true, rfl, SqL.of hD3, ?_⟩
          have e : (List.replicate (ys.length : Int).toNat true).all id = true := by
            rw [List.all_eq_true]
            intro x hx
            rw [(List.mem_replicate.mp hx).2]
            rfl
          rw [e]
          exact q _ s3
end
end SC
set_option maxRecDepth 100000
set_option maxHeartbeats 2000000
namespace SC
open PySem PySem.Spec PyProof.Rows L2 TL
section
variable {P : Program} {w : World} {K : PySem.W.Frag} {mg : Str → Option Value} {base : Heap}
def nmKept : List Str := ["_law_label", "_law_held", "_law_came", "_law_mark"]
theorem sc_kept : FnScope nmKept ["_law_label", "_law_held", "_law_came"] (defScope s__law_kept) := ⟨rfl, rfl, rfl, by decide +kernel, rfl, by decide +kernel, by decide +kernel⟩
theorem ok_kept {f : Addr} {fd : FuncData} (F : Fun K "_law_kept" "_law_kept" s__law_kept f fd) (B : Bln mg) : FnOk P w K mg base CX0 1 f fd ["_law_label", "_law_held", "_law_came"] spKept := by
  refine F.ok sc_kept (fun vs H Q E h => ?_) (fun cdv A outer s H vs Q E hr h => ?_)
  · obtain ⟨r, h, c, rfl, _⟩ := h
    rfl
  · obtain ⟨r, h, c, rfl, hok, q⟩ := h
    refine ⟨_, pss_cons (ps_if (pt_cmpR op_eq (pv 0) pe_str (nomark _)) (pss_one (ps_ret (pe_tup (pa_cons (pv 2) (pa_cons (pv 1) pa_nil))))) pss_nil)
      (pss_cons (ps_if (pt_cmpR op_eq (pv 0) pe_str (nomark _)) (pss_one (ps_ret (pe_tup (pa_cons (pe_callB (cr_min rfl) (by rfl) B.min boot_min' (pa_cons (pe_lst (pa_cons (pv 1) (pa_cons (pv 2) pa_nil))) pa_nil)) (pa_cons (pe_callB (cr_max rfl) (by rfl) B.max boot_max' (pa_cons (pe_lst (pa_cons (pv 1) (pa_cons (pv 2) pa_nil))) pa_nil)) pa_nil))))) pss_nil)
      (pss_cons (ps_if (pt_cmpR op_eq (pv 0) pe_str (nomark _)) (pss_one (ps_ret (pe_tup (pa_cons (pe_callB (cr_max rfl) (by rfl) B.max boot_max' (pa_cons (pe_lst (pa_cons (pv 1) (pa_cons (pv 2) pa_nil))) pa_nil)) (pa_cons (pe_callB (cr_min rfl) (by rfl) B.min boot_min' (pa_cons (pe_lst (pa_cons (pv 1) (pa_cons (pv 2) pa_nil))) pa_nil)) pa_nil))))) pss_nil)
      (pss_cons (ps_if (pt_cmpR op_ne (pv 0) pe_str (nomark _)) (pss_cons (ps_set (i := 3) sc_kept.nd rfl (.inl rfl) (pe_callTy call_int_str (by rfl) B.int boot_int' (pa_cons (pe_slice sl_str (pv 0) (po_some pe_int) po_none) pa_nil)))
        (pss_one (ps_if (pt_cmpR op_lt (pe_callB call_abs (by rfl) B.abs boot_abs' (pa_cons (pe_op op_sub (pv 2) (pv 3)) pa_nil)) (pe_callB call_abs (by rfl) B.abs boot_abs' (pa_cons (pe_op op_sub (pv 1) (pv 3)) pa_nil)) (nomark _)) (pss_one (ps_ret (pe_tup (pa_cons (pv 2) (pa_cons (pv 1) pa_nil))))) pss_nil))) pss_nil)
      (pss_one (ps_ret (pe_tup (pa_cons (pv 1) (pa_cons (pv 2) pa_nil)))))))), ?_⟩
    refine ⟨_, rfl, rfl, _, rfl, ?_⟩
    cases r with
    | last =>
      refine iteD1 rfl ?_
      exact ⟨_, rfl, _, rfl, (by show 2 ≤ sizeLine; decide), fun p hp => q p _ hp (same_new hp) upd_same⟩
    | less =>
      refine iteD0 (by decide +kernel) ⟨_, rfl, rfl, _, rfl, iteD1 rfl ?_⟩
      refine ⟨_, rfl, _, rfl, (by show 2 ≤ sizeLine; decide), fun p1 hp1 => ?_⟩
      refine ⟨p1, [h, c], rfl, SqL.of upd_same, (by show 0 < 2; decide), fun m1 imm1 iym1 => ?_⟩
      have hm1 := min2 imm1 iym1
      refine ⟨_, rfl, _, rfl, (by show 2 ≤ sizeLine; decide), fun p2 hp2 => ?_⟩
      refine ⟨p2, [h, c], rfl, SqL.of upd_same, (by show 0 < 2; decide), fun m2 imm2 iym2 => ?_⟩
      have hm2 := max2 imm2 iym2
      have s1 := same_new (o := .lst [V.int h, V.int c]) hp1
      have s2 := s1.trans (same_new (o := .lst [V.int h, V.int c]) hp2)
      refine ⟨(by show 2 ≤ sizeLine; decide), fun p hp => q p _ (s2.free hp) (s2.trans (same_new hp)) ?_⟩
      rw [upd_same]
      show some (HO.tup [V.int m1, V.int m2]) = some (HO.tup [V.int ((if c < h then (c, h) else (h, c)) : Int × Int).1, V.int ((if c < h then (c, h) else (h, c)) : Int × Int).2])
      by_cases hc : c < h
      · rw [if_pos hc, hm1.2 (by omega), hm2.2 (by omega)]
      · rw [if_neg hc, hm1.1 (by omega), hm2.1 (by omega)]
    | greater =>
      refine iteD0 (by decide +kernel) ⟨_, rfl, rfl, _, rfl, iteD0 (by decide +kernel) ⟨_, rfl, rfl, _, rfl, iteD1 rfl ?_⟩⟩
      refine ⟨_, rfl, _, rfl, (by show 2 ≤ sizeLine; decide), fun p1 hp1 => ?_⟩
      refine ⟨p1, [h, c], rfl, SqL.of upd_same, (by show 0 < 2; decide), fun m1 imm1 iym1 => ?_⟩
      have hm1 := max2 imm1 iym1
      refine ⟨_, rfl, _, rfl, (by show 2 ≤ sizeLine; decide), fun p2 hp2 => ?_⟩
      refine ⟨p2, [h, c], rfl, SqL.of upd_same, (by show 0 < 2; decide), fun m2 imm2 iym2 => ?_⟩
      have hm2 := min2 imm2 iym2
      have s1 := same_new (o := .lst [V.int h, V.int c]) hp1
      have s2 := s1.trans (same_new (o := .lst [V.int h, V.int c]) hp2)
      refine ⟨(by show 2 ≤ sizeLine; decide), fun p hp => q p _ (s2.free hp) (s2.trans (same_new hp)) ?_⟩
      rw [upd_same]
      show some (HO.tup [V.int m1, V.int m2]) = some (HO.tup [V.int ((if h < c then (c, h) else (h, c)) : Int × Int).1, V.int ((if h < c then (c, h) else (h, c)) : Int × Int).2])
      by_cases hc : h < c
      · rw [if_pos hc, hm1.1 (by omega), hm2.1 (by omega)]
      · rw [if_neg hc, hm1.2 (by omega), hm2.2 (by omega)]
    | first =>
      refine iteD0 (by decide +kernel) ⟨_, rfl, rfl, _, rfl, iteD0 (by decide +kernel) ⟨_, rfl, rfl, _, rfl, iteD0 (by decide +kernel) ⟨_, rfl, rfl, _, rfl, iteNS rfl ?_⟩⟩⟩
      exact ⟨_, rfl, _, rfl, (by show 2 ≤ sizeLine; decide), fun p hp => q p _ hp (same_new hp) upd_same⟩
    | near m =>
      refine iteD0 (near_ne m (k := .last) (by decide)) ⟨_, rfl, rfl, _, rfl, iteD0 (near_ne m (k := .less) (by decide)) ⟨_, rfl, rfl, _, rfl, iteD0 (near_ne m (k := .greater) (by decide)) ⟨_, rfl, rfl, _, rfl, iteN1 (near_ne m (k := .first) (by decide)) ?_⟩⟩⟩
      refine ⟨_, rfl, _, rfl, _, rfl, Nat.le_trans (label_len (r := .near m) hok) (by decide), _, m, rfl, ?_, ?_, ?_⟩
      · show PySem.intText? (cutS (("near:" : Str) ++ numS m) (some 5) none) = some m
        rw [cut_near]
        exact numS_read hok
      · show (cutS (("near:" : Str) ++ numS m) (some 5) none).length ≤ 640
        rw [cut_near]
        exact Nat.le_trans (numS_len hok) (by decide)
      · refine ⟨_, rfl, _, rfl, _, _, rfl, rfl, _, rfl, _, rfl, _, rfl, _, _, rfl, rfl, _, rfl, _, _, rfl, rfl, _, rfl, ?_⟩
        by_cases hc : absI (c - m) < absI (h - m)
        · refine iteD1 hc ?_
          refine ⟨_, rfl, _, rfl, (by show 2 ≤ sizeLine; decide), fun p hp => q p _ hp (same_new hp) ?_⟩
          rw [upd_same, show (Rule.near m).keep h c = (c, h) from if_pos hc]
        · refine iteD0 hc ?_
          refine ⟨_, rfl, _, rfl, (by show 2 ≤ sizeLine; decide), fun p hp => q p _ hp (same_new hp) ?_⟩
          rw [upd_same, show (Rule.near m).keep h c = (h, c) from if_neg hc]
end
end SC
set_option maxRecDepth 100000
set_option maxHeartbeats 4000000
namespace SC
open PySem PySem.Spec PyProof.Rows L2 TL
def nmErr : List Str := ["_law_call", "e", "_law_kinds", "_law_names", "_law_name"]
theorem sc_err : FnScope nmErr ["_law_call"] (defScope s__law_error_of) := ⟨rfl, rfl, rfl, by decide +kernel, rfl, by decide +kernel, by decide +kernel⟩
/-- the suite's reading -/
theorem err_gives {X : Cx} {K : PySem.W.Frag} {mg : Str → Option Value} {g : Addr} {cdg : Value} {q : Str} (hK : X.K = K) (hmg : X.mg = mg) (B : Bln mg) (G : Errs K mg) {S : List Er} (T : ∀ e ∈ S, ErrT K e) :
    LamX.GivesTo X nmErr "_law_error_of" (defScope s__law_error_of) g cdg (defBody s__law_error_of) "_law_call" q (TErr0 K S) := by
  subst hK hmg
  intro f c' s H Q tl act hc h
  refine ⟨_, pss_cons (ps_try_as (i := 1) (X := (cxOf C8.CX0 X.prog X.w X.K X.mg X.base nmErr "_law_error_of" (defScope s__law_error_of) g cdg X.A X.stack s H C8.E0).nox) (c := .ref (He.ga X.K "SiftError"))
      (tb := fun W D σ H => ∃ Ec : XK, (∀ cls d σ' H', Ec cls d H' → σ'.length = nmErr.length → W cls d σ' H') ∧ σ[0]? = some (some (.ref f)) ∧ H c' = some (LamX.CodeO c' q) ∧ tl Ec H (fun _ H' => D.nx σ H'))
      (Wout := fun _ _ _ _ => False) rfl rfl sc_err.nd rfl rfl ⟨rfl, by decide, .inl G.sift⟩ takes0 (fun W pn xe tk _ => ⟨fun pins s1 σ H1 D I h1 => by
        obtain ⟨Ec, hW, e1, e2, e3⟩ := h1
        exact (pss_one (ps_expr (act _ pn xe Ec _ _ (takes_len tk) hW))).run pins s1 σ H1 D I ⟨e1, e2, e3⟩⟩)
      (fun a oe cls d pn hz hf => pss_cons (ps_set (i := 2) sc_err.nd rfl (.inl rfl) (pe_lst (pa_cons (pe_callB (call_isEP hz hf) (by rfl) B.isinstance boot_isinstance' (pa_cons (pv 1) (pa_cons (pe_glob (v := .ref (He.ga X.K "InvalidNumber")) (by rfl) (G.glo .number) rfl) pa_nil))) (pa_cons (pe_callB (call_isEP hz hf) (by rfl) B.isinstance boot_isinstance' (pa_cons (pv 1) (pa_cons (pe_glob (v := .ref (He.ga X.K "InvalidChain")) (by rfl) (G.glo .chain) rfl) pa_nil))) (pa_cons (pe_callB (call_isEP hz hf) (by rfl) B.isinstance boot_isinstance' (pa_cons (pv 1) (pa_cons (pe_glob (v := .ref (He.ga X.K "UnknownCell")) (by rfl) (G.glo .cell) rfl) pa_nil))) pa_nil)))))
        (pss_cons (ps_set (i := 2) sc_err.nd rfl (.inl rfl) (pe_op op_cat (pv 2) (pe_lst (pa_cons (pe_callB (call_isEP hz hf) (by rfl) B.isinstance boot_isinstance' (pa_cons (pv 1) (pa_cons (pe_glob (v := .ref (He.ga X.K "InvalidRow")) (by rfl) (G.glo .row) rfl) pa_nil))) (pa_cons (pe_callB (call_isEP hz hf) (by rfl) B.isinstance boot_isinstance' (pa_cons (pv 1) (pa_cons (pe_glob (v := .ref (He.ga X.K "InvalidText")) (by rfl) (G.glo .text) rfl) pa_nil))) (pa_cons (pe_callB (call_isEP hz hf) (by rfl) B.isinstance boot_isinstance' (pa_cons (pv 1) (pa_cons (pe_glob (v := .ref (He.ga X.K "TooMany")) (by rfl) (G.glo .many) rfl) pa_nil))) pa_nil))))))
        (pss_cons (ps_set (i := 2) sc_err.nd rfl (.inl rfl) (pe_op op_cat (pv 2) (pe_lst (pa_cons (pe_callB (call_isEP hz hf) (by rfl) B.isinstance boot_isinstance' (pa_cons (pv 1) (pa_cons (pe_glob (v := .ref (He.ga X.K "Contradiction")) (by rfl) (G.glo .contradiction) rfl) pa_nil))) (pa_cons (pe_callB (call_isEP hz hf) (by rfl) B.isinstance boot_isinstance' (pa_cons (pv 1) (pa_cons (pe_glob (v := .ref (He.ga X.K "InvalidName")) (by rfl) (G.glo .name) rfl) pa_nil))) (pa_cons (pe_callB (call_isEP hz hf) (by rfl) B.isinstance boot_isinstance' (pa_cons (pv 1) (pa_cons (pe_glob (v := .ref (He.ga X.K "UnknownName")) (by rfl) (G.glo .unknown) rfl) pa_nil))) pa_nil))))))
        (pss_cons (ps_set (i := 2) sc_err.nd rfl (.inl rfl) (pe_op op_cat (pv 2) (pe_lst (pa_cons (pe_callB (call_isEP hz hf) (by rfl) B.isinstance boot_isinstance' (pa_cons (pv 1) (pa_cons (pe_glob (v := .ref (He.ga X.K "InvalidOperation")) (by rfl) (G.glo .operation) rfl) pa_nil))) pa_nil))))
        (pss_cons (ps_if (PW.pt (pw_or (pt_cmpR op_ne (peC (tBM X.K "list" (rCountF X.K) (tVar 2) (tCons (tC (.bl true)) tNil)) (pe_bm PySem.F.plainAttrs_list PySem.F.slot_list_count PySem.F.type_list_count mt_countF (pv 2) (pa_cons pe_bl pa_nil))) pe_int (nomark _))
            (pw_or1 (pt_not (pt_val (pe_callB (call_isEP hz hf) (by rfl) B.isinstance boot_isinstance' (pa_cons (pv 1) (pa_cons (pe_bltn (v := .ty "ValueError") (by rfl) G.ve boot_VE rfl) pa_nil))))))))
          (pss_one (ps_ret (pe_tup (pa_cons pe_str (pa_cons pe_int pa_nil))))) pss_nil)
        (pss_cons (ps_set (i := 3) sc_err.nd rfl (.inl rfl) (pe_lst (pa_cons pe_str (pa_cons pe_str (pa_cons pe_str (pa_cons pe_str (pa_cons pe_str (pa_cons pe_str (pa_cons pe_str (pa_cons pe_str (pa_cons pe_str (pa_cons pe_str pa_nil))))))))))))
        (pss_cons (ps_set (i := 4) sc_err.nd rfl (.inl rfl) (peC (tOp (rIxL X.K) (tVar 3) (tBM X.K "list" (rIndex X.K) (tVar 2) (tCons (tC (.bl true)) tNil))) (pe_ix ix_list (pv 3) (pe_bm PySem.F.plainAttrs_list PySem.F.slot_list_index PySem.F.type_list_index mt_index (pv 2) (pa_cons pe_bl pa_nil)) (fun _ _ => rfl))))
        (pss_cons (ps_if (ptC (tTest (tOp (rIn X.K false) (tVar 4) (tLst (tCons (tC (.str "chain")) (tCons (tC (.str "row")) tNil))))) (pt_cmpR op_in_seq (pv 4) (pe_lst (pa_cons pe_str (pa_cons pe_str pa_nil))) (by rfl))) pss_never pss_nil)
        (pss_one (ps_ret (pe_tup (pa_cons (pv 4) (pa_cons (pe_ifExp (pt_cmpR op_eq (pv 4) pe_str (nomark _)) pe_never (pe_ifExp (pt_cmpR op_eq (pv 4) pe_str (nomark _)) pe_never pe_int)) pa_nil)))))))))))))) (pss_one (ps_ret pe_non)), ?_⟩
  refine ⟨_, ?_, rfl, hc, h⟩
  rintro cls d σ' H' ⟨e, hE, hb, rfl, rfl, k⟩ hlen
  obtain ⟨x0, x1, x2, x3, x4, rfl⟩ := five hlen
  have t := T e hE
  refine ⟨true, t.exm, fun _ a ha => ?_, fun z => Bool.noConfusion z⟩
  refine ⟨_, rfl, _, _, _, _, rfl, rfl, t.exk, rfl, fun u hu => hu, t.kit .number, _, rfl, _, _, _, _, rfl, rfl, t.exk, rfl, fun u hu => hu, t.kit .chain, _, rfl, _, _, _, _, rfl, rfl, t.exk, rfl, fun u hu => hu, t.kit .cell, (by show 3 ≤ sizeLine; decide), fun p1 hp1 => ?_⟩
  have s1 := same_new (o := .lst [V.bl (decide (Er.number = e)), V.bl (decide (Er.chain = e)), V.bl (decide (Er.cell = e))]) hp1
  -- three more
  refine ⟨_, rfl, _, rfl, _, _, _, _, rfl, rfl, t.exk, rfl, fun u hu => hu, t.kit .row, _, rfl, _, _, _, _, rfl, rfl, t.exk, rfl, fun u hu => hu, t.kit .text, _, rfl, _, _, _, _, rfl, rfl, t.exk, rfl, fun u hu => hu, t.kit .many, (by show 3 ≤ sizeLine; decide), fun p2 hp2 => ?_⟩
  have s2 := s1.trans (same_new (o := .lst [V.bl (decide (Er.row = e)), V.bl (decide (Er.text = e)), V.bl (decide (Er.many = e))]) hp2)
  refine ⟨p1, p2, _, _, rfl, rfl, same_new hp2 _ _ upd_same, upd_same, (by show 3 + 3 ≤ sizeLine; decide), fun p3 hp3 => ?_⟩
  have s3 := s2.trans (same_new (o := .lst [V.bl (decide (Er.number = e)), V.bl (decide (Er.chain = e)), V.bl (decide (Er.cell = e)), V.bl (decide (Er.row = e)), V.bl (decide (Er.text = e)), V.bl (decide (Er.many = e))]) hp3)
  refine ⟨_, rfl, _, rfl, _, _, _, _, rfl, rfl, t.exk, rfl, fun u hu => hu, t.kit .contradiction, _, rfl, _, _, _, _, rfl, rfl, t.exk, rfl, fun u hu => hu, t.kit .name, _, rfl, _, _, _, _, rfl, rfl, t.exk, rfl, fun u hu => hu, t.kit .unknown, (by show 3 ≤ sizeLine; decide), fun p4 hp4 => ?_⟩
  have s4 := s3.trans (same_new (o := .lst [V.bl (decide (Er.contradiction = e)), V.bl (decide (Er.name = e)), V.bl (decide (Er.unknown = e))]) hp4)
  refine ⟨p3, p4, _, _, rfl, rfl, same_new hp4 _ _ upd_same, upd_same, (by show 6 + 3 ≤ sizeLine; decide), fun p5 hp5 => ?_⟩
  have s5 := s4.trans (same_new (o := .lst [V.bl (decide (Er.number = e)), V.bl (decide (Er.chain = e)), V.bl (decide (Er.cell = e)), V.bl (decide (Er.row = e)), V.bl (decide (Er.text = e)), V.bl (decide (Er.many = e)), V.bl (decide (Er.contradiction = e)), V.bl (decide (Er.name = e)), V.bl (decide (Er.unknown = e))]) hp5)
  refine ⟨_, rfl, _, rfl, _, _, _, _, rfl, rfl, t.exk, rfl, fun u hu => hu, t.kit .operation, (by show 1 ≤ sizeLine; decide), fun p6 hp6 => ?_⟩
  have s6 := s5.trans (same_new (o := .lst [V.bl (decide (Er.operation = e))]) hp6)
  refine ⟨p5, p6, _, _, rfl, rfl, same_new hp6 _ _ upd_same, upd_same, (by show 9 + 1 ≤ sizeLine; decide), fun p7 hp7 => ?_⟩
  have s7 := s6.trans (same_new (o := .lst [V.bl (decide (Er.number = e)), V.bl (decide (Er.chain = e)), V.bl (decide (Er.cell = e)), V.bl (decide (Er.row = e)), V.bl (decide (Er.text = e)), V.bl (decide (Er.many = e)), V.bl (decide (Er.contradiction = e)), V.bl (decide (Er.name = e)), V.bl (decide (Er.unknown = e)), V.bl (decide (Er.operation = e))]) hp7)
  -- just one of them
  have fl : ([V.bl (decide (Er.number = e)), V.bl (decide (Er.chain = e)), V.bl (decide (Er.cell = e)), V.bl (decide (Er.row = e)), V.bl (decide (Er.text = e)), V.bl (decide (Er.many = e)), V.bl (decide (Er.contradiction = e)), V.bl (decide (Er.name = e)), V.bl (decide (Er.unknown = e)), V.bl (decide (Er.operation = e))] : List V).all flatV = true := rfl
  have one : ([V.bl (decide (Er.number = e)), V.bl (decide (Er.chain = e)), V.bl (decide (Er.cell = e)), V.bl (decide (Er.row = e)), V.bl (decide (Er.text = e)), V.bl (decide (Er.many = e)), V.bl (decide (Er.contradiction = e)), V.bl (decide (Er.name = e)), V.bl (decide (Er.unknown = e)), V.bl (decide (Er.operation = e))] : List V).countP (fun z => eqV z (.bl true)) = 1 := by cases e <;> rfl
  refine ⟨_, rfl, .inl ⟨rfl, _, SqL.of upd_same⟩, p7, [V.bl (decide (Er.number = e)), V.bl (decide (Er.chain = e)), V.bl (decide (Er.cell = e)), V.bl (decide (Er.row = e)), V.bl (decide (Er.text = e)), V.bl (decide (Er.many = e)), V.bl (decide (Er.contradiction = e)), V.bl (decide (Er.name = e)), V.bl (decide (Er.unknown = e)), V.bl (decide (Er.operation = e))], .bl true, rfl, rfl, SqL.of upd_same, rfl, fl, ?_⟩
  rw [one]
  refine ⟨rfl, _, rfl, iteNS rfl ?_⟩
  refine ⟨_, rfl, _, _, _, true, rfl, rfl, t.exk, rfl, fun u hu => hu, t.kitV, _, rfl, iteF ?_⟩
  -- its word
  refine ⟨(by show 10 ≤ sizeLine; decide), fun p8 hp8 => ?_⟩
  have s8 := s7.trans (same_new (o := .lst erWs) hp8)
  refine ⟨_, rfl, _, rfl, .inl ⟨rfl, _, SqL.of (same_new hp8 _ _ upd_same)⟩, p7, erBs e, .bl true, e.ix, .bl true, rfl, rfl, SqL.of (same_new hp8 _ _ upd_same), rfl, rfl, er_at e, rfl, er_first e, ?_⟩
  refine ⟨p8, erWs, _, .str e.word, rfl, rfl, SqL.of upd_same, atI_nat (er_word e), ?_⟩
  refine ⟨_, rfl, (by show 2 ≤ sizeLine; decide), fun p9 hp9 => ?_⟩
  have s9 := s8.trans (same_new (o := .lst [V.str "chain", V.str "row"]) hp9)
  have nin : inV (V.str e.word) [V.str "chain", V.str "row"] = false := by cases e <;> first | (exact absurd hb (by decide)) | decide +kernel
  refine ⟨p9, [V.str "chain", V.str "row"], rfl, .inl (SqL.of upd_same), rfl, rfl, inV (V.str e.word) [V.str "chain", V.str "row"], rfl, ?_⟩
  rw [nin]
  refine iteF ?_
  have nt : ¬ V.str e.word = V.str "text" := by cases e <;> first | (exact absurd hb (by decide)) | decide +kernel
  have no : ¬ V.str e.word = V.str "operation" := by cases e <;> first | (exact absurd hb (by decide)) | decide +kernel
  refine ⟨_, rfl, _, rfl, rfl, _, rfl, iteD0 nt ?_⟩
  refine ⟨_, rfl, rfl, _, rfl, iteD0 no ?_⟩
  refine ⟨(by show 2 ≤ sizeLine; decide), fun p hp => ?_⟩
  exact k p _ (s9.free hp) (s9.trans (same_new hp)) upd_same
end SC
set_option maxRecDepth 100000
set_option maxHeartbeats 8000000
namespace SC
open PySem PySem.Spec PyProof.Rows L2 TL
def nmLaw : List Str := ["_law_script", "_law_d", "_law_step", "_law_mark", "_law_cells", "_law_labels", "_law_opposite", "_law_k", "_law_other", "_law_pair", "_law_held", "_law_came", "_law_odd"]
theorem sc_law : FnScope nmLaw ["_law_script"] (defScope s_law) := ⟨rfl, rfl, rfl, by decide +kernel, rfl, by decide +kernel, by decide +kernel⟩
def rules (m : Int) : List Rule := [.first, .last, .less, .greater, .near m]
/-- between the statements of a turn, once the two numbers are drawn -/
structure Mid (K : PySem.W.Frag) (T : List (Addr × Str)) (d pc pl po : Addr) (m : Int) (cs : List Addr) (H : Hp) : Prop where
  ds : ∃ ds, DOk ds ∧ H d = some (.lst (ds.map V.int))
  tab : LamX.Tabs T H
  cells : H pc = some (.lst (cs.map V.ref))
  each : ∀ (i : Nat) (r : Rule), (rules m)[i]? = some r → ∃ c, cs[i]? = some c ∧ CellAt K H c r
  labels : H pl = some (.lst ((rules m).map fun r => .str r.label))
  opp : H po = some (.lst ((rules m).map fun r => .str r.neg.label))
theorem Mid.same {K : PySem.W.Frag} {T : List (Addr × Str)} {d pc pl po : Addr} {m : Int} {cs : List Addr} {H H' : Hp} (M : Mid K T d pc pl po m cs H) (s : Same H H') : Mid K T d pc pl po m cs H' := by
  obtain ⟨ds, h1, h2⟩ := M.ds
  refine ⟨⟨ds, h1, s _ _ h2⟩, M.tab.ext s, s _ _ M.cells, fun i r h => ?_, s _ _ M.labels, s _ _ M.opp⟩
  obtain ⟨c, e, ca⟩ := M.each i r h
  exact ⟨c, e, ca.same s⟩
theorem rules_ok {m : Int} (h : numOk m) {i : Nat} {r : Rule} (hr : (rules m)[i]? = some r) : r.ok := by
  match i, hr with
  | 0, hr => cases hr; trivial
  | 1, hr => cases hr; trivial
  | 2, hr => cases hr; trivial
  | 3, hr => cases hr; trivial
  | 4, hr => cases hr; exact h
  | n + 5, hr => simp [rules] at hr
theorem rules_at {m k : Int} (h0 : 0 ≤ k) (h5 : k < 5) : ∃ (j : Nat) (r : Rule), k = (j : Int) ∧ j < 5 ∧ (rules m)[j]? = some r := by
  have : k = 0 ∨ k = 1 ∨ k = 2 ∨ k = 3 ∨ k = 4 := by omega
  rcases this with rfl | rfl | rfl | rfl | rfl
  · exact ⟨0, _, rfl, by decide, rfl⟩
  · exact ⟨1, _, rfl, by decide, rfl⟩
  · exact ⟨2, _, rfl, by decide, rfl⟩
  · exact ⟨3, _, rfl, by decide, rfl⟩
  · exact ⟨4, _, rfl, by decide, rfl⟩
theorem rules_inj {m : Int} {i j : Nat} {r : Rule} (hi : (rules m)[i]? = some r) (hj : (rules m)[j]? = some r) : i = j := by
  have nd : (rules m).Nodup := by simp [rules]
  exact nd_ix nd hi hj
theorem map_at {m : Int} {f : Rule → V} {j : Nat} {r : Rule} (h : (rules m)[j]? = some r) : ((rules m).map f)[j]? = some (f r) := by
  rw [List.getElem?_map, h]
  rfl
theorem ref_at {cs : List Addr} {j : Nat} {c : Addr} (h : cs[j]? = some c) : (cs.map V.ref)[j]? = some (.ref c) := by
  rw [List.getElem?_map, h]
  rfl
theorem word_at {m : Int} {j : Nat} {r : Rule} (h : (rules m)[j]? = some r) : [V.str "first", V.str "last", V.str "less", V.str "greater", V.str "near"][j]? = some (.str r.kd.word) := by
  match j, h with
  | 0, h => cases h; rfl
  | 1, h => cases h; rfl
  | 2, h => cases h; rfl
  | 3, h => cases h; rfl
  | 4, h => cases h; rfl
  | n + 5, h => simp [rules] at h
/-- the law's promise -/
def spLaw (K : PySem.W.Frag) : Sp := fun vs H Q _ => ∃ (a : Addr) (ns : List Int), vs = [.ref a] ∧ SqL K H a (ns.map V.int) ∧ ns.length ≤ 63 ∧ H (He.cT K ("law", none)).2 = some (.tbl #[]) ∧ ∀ H', Q (.bl true) H'
section
variable {P : Program} {w : World} {K : PySem.W.Frag} {mg : Str → Option Value} {base : Heap}
theorem units64 {A : Around} {k : Nat} (hr : Room k A) : A.units + 64 < cLine := hr.units
theorem ok_law {f fB fR fE fK fX : Addr} {fd dS dB dN dR dE dK : FuncData} (F : Fun K "law" "law" s_law f fd) (hf : f = He.ga K "law") (B : Bln mg) (TC : Cells K mg) (LB : LabelsOk P w K mg base 1) (CO : CellsOk P w K mg base 6) (ER : Errs K mg) (ET : ∀ e ∈ [Er.number], ErrT K e)
    (GS : FnOk P w K mg base CX0 1 (He.ga K "_law_random") dS ["_law_script", "_law_salt"] (spRandom K)) (bS : Binds K dS ["_law_script", "_law_salt"] []) (kS : PySem.W.keepIn K (.ref (He.ga K "_law_random")) = true) (gS : mg "_law_random" = some (.ref (He.ga K "_law_random")))
    (GB : FnOk P w K mg base CX0 1 fB dB ["_law_d", "_law_limit"] spBelow) (bB : Binds K dB ["_law_d", "_law_limit"] []) (kB : PySem.W.keepIn K (.ref fB) = true) (gB : mg "_law_below" = some (.ref fB))
    (GN : FnOk P w K mg base (L2.CX P w) 4 (He.ma K (He.ga K "Near") "__init__") dN ["self", "mark"] (spNearInit K)) (bN : Binds K dN ["self", "mark"] [])
    (GR : FnOk P w K mg base CX0 2 fR dR ["_law_d", "_law_most"] spRow) (bR : Binds K dR ["_law_d", "_law_most"] []) (kR : PySem.W.keepIn K (.ref fR) = true) (gR : mg "_law_row" = some (.ref fR))
    (GE : FnOk P w K mg base CX0 3 fE dE ["_law_actual", "_law_expected"] (spEqual K 2)) (bE : Binds K dE ["_law_actual", "_law_expected"] []) (kE : PySem.W.keepIn K (.ref fE) = true) (gE : mg "_law_equal" = some (.ref fE))
    (GK : FnOk P w K mg base CX0 1 fK dK ["_law_label", "_law_held", "_law_came"] spKept) (bK : Binds K dK ["_law_label", "_law_held", "_law_came"] []) (kK : PySem.W.keepIn K (.ref fK) = true) (gK : mg "_law_kept" = some (.ref fK))
    (FX : ∃ fdX, Fun K "_law_error_of" "_law_error_of" s__law_error_of fX fdX) (gX : mg "_law_error_of" = some (.ref fX))
    (TB : LamX.TabB base mg (He.cT K ("law", none)).1 (He.cT K ("law", none)).2) :
    FnOk P w K mg base CX0 20 f fd ["_law_script"] (spLaw K) := by
  obtain ⟨fdX, FX⟩ := FX
  have bX := FX.binds (ps := ["_law_call"]) fun _ _ _ _ _ _ us hl => match us, hl with | [_], _ => rfl
  obtain ⟨⟨ocX, odX, kVX, docX, pmX, anX, cdX0, ctX, oslX, rfl, lkX, cdX⟩, kX⟩ := FX
  obtain ⟨⟨oc, od, kV, doc, pm, an, cdv, ct, osl, rfl, lk, hcd⟩, kp⟩ := F
  obtain ⟨c0, rfl⟩ := He.codeIn_ref hcd
  have ec : He.codeOf K ("law", none) = c0 := by
    subst hf
    exact He.codeOf_eq (p := ("law", none)) lk rfl
  have hcode0 : (He.cT K ("law", none)).1 = c0 := ec
  refine fn_of lk hcd sc_law (fun vs H Q E h => ?_) (fun A outer s H vs Q E hr h => ?_)
  · obtain ⟨a, ns, rfl, _⟩ := h
    rfl
  · obtain ⟨a, ns, rfl, hS, hl, hT0, q⟩ := h
    have hcode : (cxOf CX0 P w K mg base nmLaw "law" (defScope s_law) f (.ref c0) A outer s H E).nox.env.code = .ref (He.cT K ("law", none)).1 := by
      rw [hcode0]
      rfl
    refine ⟨_, PSs.nox (pss_cons (ps_set (i := 1) sc_law.nd rfl (.inl rfl) (pe_call GS (hr.mono (by decide)) (by rfl) gS kS bS .nil pass0 (pa_cons (pv 0) (pa_cons pe_int pa_nil))))
      (pss_cons (ps_for PassesOwn.never rfl (pi_range1 (by rfl) B.range (pa_cons pe_int pa_nil)) (pg_name (i := 2) sc_law.nd rfl (.inl rfl))
          (pss_cons (ps_set (i := 3) sc_law.nd rfl (.inl rfl) (pe_ix ix_list (pe_lst (pa_cons pe_int (pa_cons (pe_op op_pow pe_int pe_int) (pa_cons (pe_op op_sub pe_int (pe_op op_pow pe_int pe_int)) (pa_cons (pe_op op_sub (pe_call GB (hr.mono (by decide)) (by rfl) gB kB bB .nil pass0 (pa_cons (pv 1) (pa_cons pe_int pa_nil))) pe_int) (pa_cons (pe_call GB (hr.mono (by decide)) (by rfl) gB kB bB .nil pass0 (pa_cons (pv 1) (pa_cons (pe_op op_pow pe_int pe_int) pa_nil))) pa_nil)))))) (pe_call GB (hr.mono (by decide)) (by rfl) gB kB bB .nil pass0 (pa_cons (pv 1) (pa_cons pe_int pa_nil))) (fun _ _ => rfl)))
          (pss_cons (ps_set (i := 4) sc_law.nd rfl (.inl rfl) (pe_lst (pa_cons (pe_mk0 (TC.mk0 .first (by decide)) (by rfl) (TC.glo .first)) (pa_cons (pe_mk0 (TC.mk0 .last (by decide)) (by rfl) (TC.glo .last)) (pa_cons (pe_mk0 (TC.mk0 .less (by decide)) (by rfl) (TC.glo .less)) (pa_cons (pe_mk0 (TC.mk0 .greater (by decide)) (by rfl) (TC.glo .greater)) (pa_cons (pe_make TC.mkN GN (hr.mono (by decide)) (by rfl) (TC.glo .near) bN .nil passL (pa_cons (pv 3) pa_nil)) pa_nil)))))))
          (pss_cons (ps_set (i := 5) sc_law.nd rfl (.inl rfl) (pe_lst (pa_cons pe_str (pa_cons pe_str (pa_cons pe_str (pa_cons pe_str (pa_cons (pe_op op_add_str pe_str (pe_callTy call_str_int (by rfl) B.str boot_str' (pa_cons (pv 3) pa_nil))) pa_nil)))))))
          (pss_cons (ps_set (i := 6) sc_law.nd rfl (.inl rfl) (pe_lst (pa_cons pe_str (pa_cons pe_str (pa_cons pe_str (pa_cons pe_str (pa_cons (pe_op op_add_str pe_str (pe_callTy call_str_int (by rfl) B.str boot_str' (pa_cons (pe_op op_sub pe_int (pv 3)) pa_nil))) pa_nil)))))))
          (pss_cons (ps_par (i := 7) (j := 8) (by rfl) sc_law.nd rfl rfl (by decide) rfl rfl (pa_cons (pe_call GB (hr.mono (by decide)) (by rfl) gB kB bB .nil pass0 (pa_cons (pv 1) (pa_cons pe_int pa_nil))) (pa_cons (pe_call GB (hr.mono (by decide)) (by rfl) gB kB bB .nil pass0 (pa_cons (pv 1) (pa_cons pe_int pa_nil))) pa_nil)) (by rfl))
          (pss_cons (ps_set (i := 9) sc_law.nd rfl (.inl rfl) (pe_call GR (hr.mono (by decide)) (by rfl) gR kR bR .nil pass0 (pa_cons (pv 1) (pa_cons pe_int pa_nil))))
          (C8.pss_cut (ps_asg (pe_slice sl_list (pe_op op_cat (pv 9) (pe_lst (pa_cons (pe_op op_add (pv 3) pe_int) (pa_cons (pe_op op_sub (pv 3) pe_int) pa_nil)))) po_none (po_some pe_int)) (pg_unl (by rfl) (pgs_cons (pg_name (i := 10) sc_law.nd rfl (.inl rfl)) (pgs_cons (pg_name (i := 11) sc_law.nd rfl (.inl rfl)) pgs_nil)) (by rfl)))
          (C8.pss_cut (ps_if (pt_not (pt_val (pe_call GE (hr.mono (by decide)) (by rfl) gE kE bE .nil pass0 (pa_cons (pe_lst (pa_cons (pe_label TC LB (n := 1) (hr.mono (by decide)) (pe_ix ix_list (pv 4) (pv 7) (fun _ _ => rfl))) (pa_cons (pe_label TC LB (n := 1) (hr.mono (by decide)) (pe_un (un_negCell CO (hr.mono (by decide))) (pe_ix ix_list (pv 4) (pv 7) (fun _ _ => rfl)))) pa_nil))) (pa_cons (pe_lst (pa_cons (pe_ix ix_list (pv 5) (pv 7) (fun _ _ => rfl)) (pa_cons (pe_ix ix_list (pv 6) (pv 7) (fun _ _ => rfl)) pa_nil))) pa_nil))))) (pss_one (ps_ret pe_bl)) pss_nil)
          (C8.pss_cut (ps_if (pt_not (pt_val (pe_call GE (hr.mono (by decide)) (by rfl) gE kE bE .nil pass0 (pa_cons (pe_cellCall (pe_ix ix_list (pv 4) (pv 7) (fun _ _ => rfl)) CO (hr.mono (by decide)) (pa_cons (pv 10) (pa_cons (pv 11) pa_nil))) (pa_cons (pe_call GK (hr.mono (by decide)) (by rfl) gK kK bK .nil pass0 (pa_cons (pe_ix ix_list (pv 5) (pv 7) (fun _ _ => rfl)) (pa_cons (pv 10) (pa_cons (pv 11) pa_nil)))) pa_nil))))) (pss_one (ps_ret pe_bl)) pss_nil)
          (C8.pss_cut (ps_if (PW.pt (pw_or (pt_cmpR op_ne (pe_cmpR (op_eqCell CO (hr.mono (by decide))) (pe_ix ix_list (pv 4) (pv 7) (fun _ _ => rfl)) (pe_ix ix_list (pv 4) (pv 8) (fun _ _ => rfl)) (nomark _)) (pe_cmpR op_eq (pv 7) (pv 8) (nomark _)) (nomark _)) (pw_or (pt_cmpR (op_eqCell CO (hr.mono (by decide))) (pe_ix ix_list (pv 4) (pv 7) (fun _ _ => rfl)) (pe_ix ix_list (pv 5) (pv 7) (fun _ _ => rfl)) (nomark _)) (pw_or1 (pt_not (pt_val (pe_callB call_isi (by rfl) B.isinstance boot_isinstance' (pa_cons (pe_ix ix_list (pv 4) (pv 7) (fun _ _ => rfl)) (pa_cons (pe_glob (v := .ref (He.ga K "Cell")) (by rfl) (TC.glo .first) rfl) pa_nil))))))))) (pss_one (ps_ret pe_bl)) pss_nil)
          (C8.pss_cut (ps_if (PW.pt (pw_or (pt_not (pt_val (pe_call GE (hr.mono (by decide)) (by rfl) gE kE bE .nil pass0 (pa_cons (pe_kind TC (pe_ix ix_list (pv 4) (pv 7) (fun _ _ => rfl))) (pa_cons (pe_ix ix_list (pe_lst (pa_cons pe_str (pa_cons pe_str (pa_cons pe_str (pa_cons pe_str (pa_cons pe_str pa_nil)))))) (pv 7) (fun _ _ => rfl)) pa_nil))))) (pw_or1 (pt_cmpR (op_neCell CO (hr.mono (by decide))) (pe_un (un_negCell CO (hr.mono (by decide))) (pe_un (un_negCell CO (hr.mono (by decide))) (pe_ix ix_list (pv 4) (pv 7) (fun _ _ => rfl)))) (pe_ix ix_list (pv 4) (pv 7) (fun _ _ => rfl)) (nomark _))))) (pss_one (ps_ret pe_bl)) pss_nil)
          (C8.pss_cut (ps_if (PW.pt (pw_or (pt_cmpR (op_eqCell CO (hr.mono (by decide))) (pe_ix ix_list (pv 4) pe_int (fun _ _ => rfl)) (pe_make TC.mkN GN (hr.mono (by decide)) (by rfl) (TC.glo .near) bN .nil passL (pa_cons (pe_ifExp (pt_cmpR op_lt (pv 3) (pe_op op_pow pe_int pe_int) (nomark _)) (pe_op op_add (pv 3) pe_int) pe_int) pa_nil)) (nomark _)) (pw_or1 (pt_cmpR (op_neCell CO (hr.mono (by decide))) (pe_ix ix_list (pv 4) pe_int (fun _ _ => rfl)) (pe_make TC.mkN GN (hr.mono (by decide)) (by rfl) (TC.glo .near) bN .nil passL (pa_cons (pv 3) pa_nil)) (nomark _))))) (pss_one (ps_ret pe_bl)) pss_nil)
          (pss_cons (ps_set (i := 12) sc_law.nd rfl (.inr rfl) (pe_ix ix_list (pe_lst (pa_cons (pe_op op_add (pe_op op_pow pe_int pe_int) pe_int) (pa_cons (pe_op op_sub (pe_op op_sub pe_int (pe_op op_pow pe_int pe_int)) pe_int) (pa_cons pe_non (pa_cons pe_bl (pa_cons pe_str (pa_cons (pe_tup (pa_cons pe_int pa_nil)) pa_nil))))))) (pe_call GB (hr.mono (by decide)) (by rfl) gB kB bB .nil pass0 (pa_cons (pv 1) (pa_cons pe_int pa_nil))) (fun _ _ => rfl)))
          (pss_one (ps_if (pt_cmpR (op_neD (units64 hr)) (LamX.pe_lamcall (k := 5) (T := [((He.cT K ("law", none)).2, ("law" : Str) ++ ".<locals>." ++ "<lambda>")]) (TT := TErr0 K [.number]) (c := (He.cT K ("law", none)).1) (P := (He.cT K ("law", none)).2) (by rfl) gX kX lkX cdX bX sc_err rfl (.inl rfl) (err_gives rfl rfl B ER ET) TB hcode List.mem_cons_self (fun p hp _ => by rw [List.mem_singleton.mp hp]; rfl) (hr.mono (by decide)) (LamX.lamS_by (sc := defScope s_law) (by decide +kernel)) rfl (fun _ _ _ _ _ => rfl)
            (fun A0 outer0 s0 H0 E1 f0 c0 hr0 => pe_make TC.mkN GN hr0 (by rfl) (TC.glo .near) bN .nil (passes_call (takes_of rfl rfl rfl rfl) (fun _ _ _ _ h => h)) (pa_cons (pv 12) pa_nil))) (pe_tup (pa_cons pe_str (pa_cons pe_int pa_nil))) (nomark _)) (pss_one (ps_ret pe_bl)) pss_nil))))))))))))))))
      (pss_one (ps_ret pe_bl)))), ?_⟩
    refine ⟨_, rfl, a, ns, 1, rfl, hS, hl, by decide, by decide, fun d H1 ds0 hd0 s1 hD0 hd1 => ?_⟩
    have T0 : LamX.Tabs [((He.cT K ("law", none)).2, ("law" : Str) ++ ".<locals>." ++ "<lambda>")] H1 := fun p hp => by
      rw [List.mem_singleton.mp hp]
      exact LamX.TabS.nil (s1 _ _ hT0)
    refine ⟨6, rfl, by decide, by decide, for_range (lo := 0) (n := 6) (fun _ σ H2 => ∃ x2 x3 x4 x5 x6 x7 x8 x9 x10 x11 x12 : Option V, σ = [some (.ref a), some (.ref d), x2, x3, x4, x5, x6, x7, x8, x9, x10, x11, x12] ∧
        (∃ ds, DOk ds ∧ H2 d = some (.lst (ds.map V.int))) ∧ LamX.Tabs [((He.cT K ("law", none)).2, ("law" : Str) ++ ".<locals>." ++ "<lambda>")] H2) ?_ ?_ ?_⟩
    · exact ⟨_, _, _, _, _, _, _, _, _, _, _, rfl, ⟨ds0, hD0, hd1⟩, T0⟩
    · rintro i σ H2 hi ⟨x2, x3, x4, x5, x6, x7, x8, x9, x10, x11, x12, rfl, ⟨ds, hd, hD⟩, hT⟩
      have ep : ((10 : Int) ^ (9 : Int).toNat) = 1000000000 := by decide +kernel
      have dT : d ≠ (He.cT K ("law", none)).2 := fun z => by
        obtain ⟨ps, h, _⟩ := hT _ List.mem_cons_self
        rw [z] at hD
        have h2 : H2 (He.cT K ("law", none)).2 = some (.tbl ps) := h
        rw [h2] at hD
        cases hD
      -- the mark
      refine ⟨_, _, rfl, rfl, ⟨by decide, by decide, by decide⟩, _, _, rfl, rfl, ⟨by decide, by decide, by decide⟩, _, _, rfl, rfl, _, rfl, d, 9, ds, rfl, by decide, by decide, hD, hd, fun n1 ds1 n10 n19 hd1 => ?_⟩
      refine ⟨_, _, rfl, rfl, _, rfl, _, _, rfl, rfl, ⟨by decide, by decide, by decide⟩, d, _, ds1, rfl, by rw [ep]; decide, by rw [ep]; decide, upd_same, hd1, fun n2 ds2 n20 n29 hd2 => ?_⟩
      refine ⟨(by show 5 ≤ sizeLine; decide), fun p1 hp1 => ?_⟩
      have f1 : Fr1 d H2 (upd (upd H2 d (.lst (ds1.map V.int))) d (.lst (ds2.map V.int))) := Fr1.at.trans Fr1.at
      have np1 : d ≠ p1 := fun z => by
        rw [← z, upd_same] at hp1
        cases hp1
      refine ⟨_, rfl, d, 5, ds2, rfl, by decide, by decide, by rw [upd_ne np1, upd_same], hd2, fun n3 ds3 n30 n35 hd3 => ?_⟩
      obtain ⟨m, hm, hok⟩ : ∃ m : Int, atI [V.int 0, V.int ((10 : Int) ^ (9 : Int).toNat), V.int (0 - (10 : Int) ^ (9 : Int).toNat), V.int (n1 - 4), V.int n2] n3 = some (.int m) ∧ numOk m := by
        rw [ep] at n29 ⊢
        have : n3 = 0 ∨ n3 = 1 ∨ n3 = 2 ∨ n3 = 3 ∨ n3 = 4 := by omega
        rcases this with rfl | rfl | rfl | rfl | rfl
        · exact ⟨_, rfl, by decide, by decide⟩
        · exact ⟨_, rfl, by decide, by decide⟩
        · exact ⟨_, rfl, by decide, by decide⟩
        · exact ⟨_, rfl, by constructor <;> omega⟩
        · exact ⟨_, rfl, by constructor <;> omega⟩
      refine ⟨p1, _, n3, _, rfl, rfl, SqL.of (by rw [upd_ne np1.symm, upd_same]), hm, ?_⟩
      have fA : Fr1 d H2 (upd (upd (upd (upd H2 d (.lst (ds1.map V.int))) d (.lst (ds2.map V.int))) p1 (.lst [V.int 0, V.int ((10 : Int) ^ (9 : Int).toNat), V.int (0 - (10 : Int) ^ (9 : Int).toNat), V.int (n1 - 4), V.int n2])) d (.lst (ds3.map V.int))) := (f1.new hp1).trans Fr1.at
      have hDA : (upd (upd (upd (upd H2 d (.lst (ds1.map V.int))) d (.lst (ds2.map V.int))) p1 (.lst [V.int 0, V.int ((10 : Int) ^ (9 : Int).toNat), V.int (0 - (10 : Int) ^ (9 : Int).toNat), V.int (n1 - 4), V.int n2])) d (.lst (ds3.map V.int))) d = some (.lst (ds3.map V.int)) := upd_same
      generalize (upd (upd (upd (upd H2 d (.lst (ds1.map V.int))) d (.lst (ds2.map V.int))) p1 (.lst [V.int 0, V.int ((10 : Int) ^ (9 : Int).toNat), V.int (0 - (10 : Int) ^ (9 : Int).toNat), V.int (n1 - 4), V.int n2])) d (.lst (ds3.map V.int))) = HA at fA hDA ⊢
      have hTA := tabs_fr hT hD fA
      -- five cells
      intro c0a y0 a0 b0 e0 c1 y1 a1 b1 e1 c2 y2 a2 b2 e2 c3 y3 a3 b3 e3
      refine ⟨_, rfl, fun c4 y4 a4 b4 e4 => ?_⟩
      refine ⟨c4, y4, _, rfl, upd_same, .inl ⟨m, rfl, fun _ => ⟨rfl, ?_⟩, fun z => absurd hok z⟩⟩
      rw [upd_upd]
      refine ⟨(by show 5 ≤ sizeLine; decide), fun pc hpc => ?_⟩
      have sB0 : Same HA (upd (upd HA y0 (.own c0a)) c0a (.ins (He.ga K Kd.first.cn) y0 [])) := made_same' a0 b0
      have kB0 : CellAt K (upd (upd HA y0 (.own c0a)) c0a (.ins (He.ga K Kd.first.cn) y0 [])) c0a (.first) := made_cell (r := .first) trivial
      have sB1 : Same (upd (upd HA y0 (.own c0a)) c0a (.ins (He.ga K Kd.first.cn) y0 [])) (upd (upd (upd (upd HA y0 (.own c0a)) c0a (.ins (He.ga K Kd.first.cn) y0 [])) y1 (.own c1)) c1 (.ins (He.ga K Kd.last.cn) y1 [])) := made_same' a1 b1
      have kB1 : CellAt K (upd (upd (upd (upd HA y0 (.own c0a)) c0a (.ins (He.ga K Kd.first.cn) y0 [])) y1 (.own c1)) c1 (.ins (He.ga K Kd.last.cn) y1 [])) c1 (.last) := made_cell (r := .last) trivial
      have sB2 : Same (upd (upd (upd (upd HA y0 (.own c0a)) c0a (.ins (He.ga K Kd.first.cn) y0 [])) y1 (.own c1)) c1 (.ins (He.ga K Kd.last.cn) y1 [])) (upd (upd (upd (upd (upd (upd HA y0 (.own c0a)) c0a (.ins (He.ga K Kd.first.cn) y0 [])) y1 (.own c1)) c1 (.ins (He.ga K Kd.last.cn) y1 [])) y2 (.own c2)) c2 (.ins (He.ga K Kd.less.cn) y2 [])) := made_same' a2 b2
      have kB2 : CellAt K (upd (upd (upd (upd (upd (upd HA y0 (.own c0a)) c0a (.ins (He.ga K Kd.first.cn) y0 [])) y1 (.own c1)) c1 (.ins (He.ga K Kd.last.cn) y1 [])) y2 (.own c2)) c2 (.ins (He.ga K Kd.less.cn) y2 [])) c2 (.less) := made_cell (r := .less) trivial
      have sB3 : Same (upd (upd (upd (upd (upd (upd HA y0 (.own c0a)) c0a (.ins (He.ga K Kd.first.cn) y0 [])) y1 (.own c1)) c1 (.ins (He.ga K Kd.last.cn) y1 [])) y2 (.own c2)) c2 (.ins (He.ga K Kd.less.cn) y2 [])) (upd (upd (upd (upd (upd (upd (upd (upd HA y0 (.own c0a)) c0a (.ins (He.ga K Kd.first.cn) y0 [])) y1 (.own c1)) c1 (.ins (He.ga K Kd.last.cn) y1 [])) y2 (.own c2)) c2 (.ins (He.ga K Kd.less.cn) y2 [])) y3 (.own c3)) c3 (.ins (He.ga K Kd.greater.cn) y3 [])) := made_same' a3 b3
      have kB3 : CellAt K (upd (upd (upd (upd (upd (upd (upd (upd HA y0 (.own c0a)) c0a (.ins (He.ga K Kd.first.cn) y0 [])) y1 (.own c1)) c1 (.ins (He.ga K Kd.last.cn) y1 [])) y2 (.own c2)) c2 (.ins (He.ga K Kd.less.cn) y2 [])) y3 (.own c3)) c3 (.ins (He.ga K Kd.greater.cn) y3 [])) c3 (.greater) := made_cell (r := .greater) trivial
      have sB4 : Same (upd (upd (upd (upd (upd (upd (upd (upd HA y0 (.own c0a)) c0a (.ins (He.ga K Kd.first.cn) y0 [])) y1 (.own c1)) c1 (.ins (He.ga K Kd.last.cn) y1 [])) y2 (.own c2)) c2 (.ins (He.ga K Kd.less.cn) y2 [])) y3 (.own c3)) c3 (.ins (He.ga K Kd.greater.cn) y3 [])) (upd (upd (upd (upd (upd (upd (upd (upd (upd (upd HA y0 (.own c0a)) c0a (.ins (He.ga K Kd.first.cn) y0 [])) y1 (.own c1)) c1 (.ins (He.ga K Kd.last.cn) y1 [])) y2 (.own c2)) c2 (.ins (He.ga K Kd.less.cn) y2 [])) y3 (.own c3)) c3 (.ins (He.ga K Kd.greater.cn) y3 [])) y4 (.own c4)) c4 (.ins (He.ga K "Near") y4 [("mark", .int m)])) := made_same' a4 b4
      have kB4 : CellAt K (upd (upd (upd (upd (upd (upd (upd (upd (upd (upd HA y0 (.own c0a)) c0a (.ins (He.ga K Kd.first.cn) y0 [])) y1 (.own c1)) c1 (.ins (He.ga K Kd.last.cn) y1 [])) y2 (.own c2)) c2 (.ins (He.ga K Kd.less.cn) y2 [])) y3 (.own c3)) c3 (.ins (He.ga K Kd.greater.cn) y3 [])) y4 (.own c4)) c4 (.ins (He.ga K "Near") y4 [("mark", .int m)])) c4 (.near m) := made_cell (r := .near m) hok
      have sBp : Same (upd (upd (upd (upd (upd (upd (upd (upd (upd (upd HA y0 (.own c0a)) c0a (.ins (He.ga K Kd.first.cn) y0 [])) y1 (.own c1)) c1 (.ins (He.ga K Kd.last.cn) y1 [])) y2 (.own c2)) c2 (.ins (He.ga K Kd.less.cn) y2 [])) y3 (.own c3)) c3 (.ins (He.ga K Kd.greater.cn) y3 [])) y4 (.own c4)) c4 (.ins (He.ga K "Near") y4 [("mark", .int m)])) (upd (upd (upd (upd (upd (upd (upd (upd (upd (upd (upd HA y0 (.own c0a)) c0a (.ins (He.ga K Kd.first.cn) y0 [])) y1 (.own c1)) c1 (.ins (He.ga K Kd.last.cn) y1 [])) y2 (.own c2)) c2 (.ins (He.ga K Kd.less.cn) y2 [])) y3 (.own c3)) c3 (.ins (He.ga K Kd.greater.cn) y3 [])) y4 (.own c4)) c4 (.ins (He.ga K "Near") y4 [("mark", .int m)])) pc (.lst [V.ref c0a, V.ref c1, V.ref c2, V.ref c3, V.ref c4])) := same_new hpc
      have sB : Same HA (upd (upd (upd (upd (upd (upd (upd (upd (upd (upd (upd HA y0 (.own c0a)) c0a (.ins (He.ga K Kd.first.cn) y0 [])) y1 (.own c1)) c1 (.ins (He.ga K Kd.last.cn) y1 [])) y2 (.own c2)) c2 (.ins (He.ga K Kd.less.cn) y2 [])) y3 (.own c3)) c3 (.ins (He.ga K Kd.greater.cn) y3 [])) y4 (.own c4)) c4 (.ins (He.ga K "Near") y4 [("mark", .int m)])) pc (.lst [V.ref c0a, V.ref c1, V.ref c2, V.ref c3, V.ref c4])) := ((((sB0.trans sB1).trans sB2).trans sB3).trans sB4).trans sBp
      have eB : ∀ (i : Nat) (r : Rule), (rules m)[i]? = some r → ∃ c, [c0a, c1, c2, c3, c4][i]? = some c ∧ CellAt K (upd (upd (upd (upd (upd (upd (upd (upd (upd (upd (upd HA y0 (.own c0a)) c0a (.ins (He.ga K Kd.first.cn) y0 [])) y1 (.own c1)) c1 (.ins (He.ga K Kd.last.cn) y1 [])) y2 (.own c2)) c2 (.ins (He.ga K Kd.less.cn) y2 [])) y3 (.own c3)) c3 (.ins (He.ga K Kd.greater.cn) y3 [])) y4 (.own c4)) c4 (.ins (He.ga K "Near") y4 [("mark", .int m)])) pc (.lst [V.ref c0a, V.ref c1, V.ref c2, V.ref c3, V.ref c4])) c r := by
        intro i r h
        match i, h with
        | 0, h => cases h; exact ⟨_, rfl, ((((kB0.same sB1).same sB2).same sB3).same sB4).same sBp⟩
        | 1, h => cases h; exact ⟨_, rfl, (((kB1.same sB2).same sB3).same sB4).same sBp⟩
        | 2, h => cases h; exact ⟨_, rfl, ((kB2.same sB3).same sB4).same sBp⟩
        | 3, h => cases h; exact ⟨_, rfl, (kB3.same sB4).same sBp⟩
        | 4, h => cases h; exact ⟨_, rfl, kB4.same sBp⟩
        | n + 5, h => simp [rules] at h
      have cB : (upd (upd (upd (upd (upd (upd (upd (upd (upd (upd (upd HA y0 (.own c0a)) c0a (.ins (He.ga K Kd.first.cn) y0 [])) y1 (.own c1)) c1 (.ins (He.ga K Kd.last.cn) y1 [])) y2 (.own c2)) c2 (.ins (He.ga K Kd.less.cn) y2 [])) y3 (.own c3)) c3 (.ins (He.ga K Kd.greater.cn) y3 [])) y4 (.own c4)) c4 (.ins (He.ga K "Near") y4 [("mark", .int m)])) pc (.lst [V.ref c0a, V.ref c1, V.ref c2, V.ref c3, V.ref c4])) pc = some (.lst ([c0a, c1, c2, c3, c4].map V.ref)) := upd_same
      generalize (upd (upd (upd (upd (upd (upd (upd (upd (upd (upd (upd HA y0 (.own c0a)) c0a (.ins (He.ga K Kd.first.cn) y0 [])) y1 (.own c1)) c1 (.ins (He.ga K Kd.last.cn) y1 [])) y2 (.own c2)) c2 (.ins (He.ga K Kd.less.cn) y2 [])) y3 (.own c3)) c3 (.ins (He.ga K Kd.greater.cn) y3 [])) y4 (.own c4)) c4 (.ins (He.ga K "Near") y4 [("mark", .int m)])) pc (.lst [V.ref c0a, V.ref c1, V.ref c2, V.ref c3, V.ref c4])) = HB at sB eB cB ⊢
      clear kB0 kB1 kB2 kB3 kB4 sB0 sB1 sB2 sB3 sB4 sBp hpc a0 a1 a2 a3 a4 b0 b1 b2 b3 b4
      have hTB := hTA.ext sB
      have hDB := sB _ _ hDA
      -- their labels, the opposite ones
      refine ⟨_, rfl, m, rfl, numS_log hok, _, _, rfl, rfl, Nat.le_trans (show 5 + (numS m).length ≤ 16 from (by have := numS_len hok; omega)) (by decide), (by show 5 ≤ sizeLine; decide), fun pl hpl => ?_⟩
      have sC : Same HB (upd HB pl (.lst [V.str "first", V.str "last", V.str "less", V.str "greater", V.str (("near:" : Str) ++ Str.ofString (toString m))])) := same_new hpl
      have cC : (upd HB pl (.lst [V.str "first", V.str "last", V.str "less", V.str "greater", V.str (("near:" : Str) ++ Str.ofString (toString m))])) pl = some (.lst ((rules m).map fun r => .str r.label)) := upd_same
      generalize (upd HB pl (.lst [V.str "first", V.str "last", V.str "less", V.str "greater", V.str (("near:" : Str) ++ Str.ofString (toString m))])) = HC at sC cC ⊢
      have hokn : numOk (0 - m) := by
        have := Rule.neg_ok (r := .near m) hok
        rw [Int.zero_sub]
        exact this
      refine ⟨_, rfl, _, _, rfl, rfl, 0 - m, rfl, numS_log hokn, _, _, rfl, rfl, Nat.le_trans (show 5 + (numS (0 - m)).length ≤ 16 from (by have := numS_len hokn; omega)) (by decide), (by show 5 ≤ sizeLine; decide), fun po hpo => ?_⟩
      have en : [V.str "first", V.str "last", V.str "greater", V.str "less", V.str (("near:" : Str) ++ Str.ofString (toString (0 - m)))] = (rules m).map fun r => V.str r.neg.label := by
        rw [Int.zero_sub]
        rfl
      have sD : Same HC (upd HC po (.lst [V.str "first", V.str "last", V.str "greater", V.str "less", V.str (("near:" : Str) ++ Str.ofString (toString (0 - m)))])) := same_new hpo
      have cD : (upd HC po (.lst [V.str "first", V.str "last", V.str "greater", V.str "less", V.str (("near:" : Str) ++ Str.ofString (toString (0 - m)))])) po = some (.lst ((rules m).map fun r => .str r.neg.label)) := by
        rw [upd_same, en]
      generalize (upd HC po (.lst [V.str "first", V.str "last", V.str "greater", V.str "less", V.str (("near:" : Str) ++ Str.ofString (toString (0 - m)))])) = HE at sD cD ⊢
      -- two indexes
      have hDE := sD _ _ (sC _ _ hDB)
      refine ⟨_, rfl, d, 5, ds3, rfl, by decide, by decide, hDE, hd3, fun k ds4 k0 k5 hd4 => ?_⟩
      refine ⟨_, rfl, d, 5, ds4, rfl, by decide, by decide, upd_same, hd4, fun o ds5 o0 o5 hd5 => ⟨_, _, rfl, ?_⟩⟩
      have fF : Fr1 d HE (upd (upd HE d (.lst (ds4.map V.int))) d (.lst (ds5.map V.int))) := Fr1.at.trans Fr1.at
      have hDF : (upd (upd HE d (.lst (ds4.map V.int))) d (.lst (ds5.map V.int))) d = some (.lst (ds5.map V.int)) := upd_same
      generalize (upd (upd HE d (.lst (ds4.map V.int))) d (.lst (ds5.map V.int))) = HF at fF hDF ⊢
      -- two numbers
      refine ⟨_, rfl, d, 2, ds5, rfl, by decide, by decide, hDF, hd5, fun pr HG nr ds6 hpr fG hd6 hDG hnr hlen hnum => ?_⟩
      have fG' : Fr1 d HE HG := fF.trans fG
      have hTE : LamX.Tabs [((He.cT K ("law", none)).2, ("law" : Str) ++ ".<locals>." ++ "<lambda>")] HE := (hTB.ext sC).ext sD
      obtain ⟨sd0, bd0, rd0, ed0, _⟩ := id hd3
      have npc : pc ≠ d := ne_of cB hDB (fun z => by rw [ed0] at z; cases z)
      have npl : pl ≠ d := ne_of cC (sC _ _ hDB) (fun z => by rw [ed0] at z; cases z)
      have npo : po ≠ d := ne_of cD hDE (fun z => by rw [ed0] at z; cases z)
      have M0 : Mid K [((He.cT K ("law", none)).2, ("law" : Str) ++ ".<locals>." ++ "<lambda>")] d pc pl po m [c0a, c1, c2, c3, c4] HG := by
        refine ⟨⟨ds6, hd6, hDG⟩, tabs_fr hTE hDE fG', fG' _ _ (sD _ _ (sC _ _ cB)) npc, fun i r h => ?_, fG' _ _ (sD _ _ cC) npl, fG' _ _ cD npo⟩
        obtain ⟨c, e, ca⟩ := eB i r h
        exact ⟨c, e, ((ca.same sC).same sD).fr hDE fG'⟩
      clear eB cB cC cD sB sC sD fF fG fG' hTE hTB hTA hDE hDF hDB hDA fA
      refine ⟨fun σ' H' => ∃ h c : Int, σ' = [some (.ref a), some (.ref d), some (.int (0 + (i : Int))), some (.int m), some (.ref pc), some (.ref pl), some (.ref po), some (.int k), some (.int o), some (.ref pr), some (.int h), some (.int c), x12] ∧
          Mid K [((He.cT K ("law", none)).2, ("law" : Str) ++ ".<locals>." ++ "<lambda>")] d pc pl po m [c0a, c1, c2, c3, c4] H', ?_, ?_⟩
      · refine ⟨_, rfl, _, rfl, _, _, rfl, rfl, _, rfl, _, _, rfl, rfl, (by show 2 ≤ sizeLine; decide), fun p5 hp5 => ?_⟩
        have q5 : Same HG (upd HG p5 (.lst [V.int (m + 1), V.int (m - 1)])) := same_new hp5
        have hl2 : nr.length ≤ 2 := by omega
        refine ⟨pr, p5, _, _, rfl, rfl, q5 _ _ hnr, upd_same, ?_, fun p6 hp6 => ?_⟩
        · rw [List.length_map]
          exact Nat.le_trans (show nr.length + 2 ≤ 4 by omega) (by decide)
        refine ⟨2, rfl, p6, _, rfl, SqL.of upd_same, fun p7 hp7 => ?_⟩
        have q6 := q5.trans (same_new (o := .lst (nr.map V.int ++ [V.int (m + 1), V.int (m - 1)])) hp6)
        obtain ⟨h, c, e⟩ : ∃ h c : Int, cutV (nr.map V.int ++ [V.int (m + 1), V.int (m - 1)]) none (some 2) = [.int h, .int c] := by
          match nr, hl2 with
          | [], _ => exact ⟨_, _, rfl⟩
          | [x], _ => exact ⟨_, _, rfl⟩
          | [x, y], _ => exact ⟨_, _, rfl⟩
        rw [e]
        have q7 := q6.trans (same_new (o := .lst [V.int h, V.int c]) hp7)
        refine ⟨p7, _, rfl, SqL.of upd_same, rfl, _, _, rfl, _, _, rfl, rfl, ?_⟩
        exact ⟨h, c, rfl, M0.same q7⟩
      · rintro σ' H3 ⟨h, c, rfl, M⟩
        clear M0 hnr
        obtain ⟨j, r, rfl, hj, hrj⟩ := rules_at (m := m) k0 k5
        obtain ⟨jo, ro, rfl, hjo, hrjo⟩ := rules_at (m := m) o0 o5
        have rok := rules_ok hok hrj
        -- labels
        refine ⟨fun σ' H' => σ' = [some (.ref a), some (.ref d), some (.int (0 + (i : Int))), some (.int m), some (.ref pc), some (.ref pl), some (.ref po), some (.int (j : Int)), some (.int (jo : Int)), some (.ref pr), some (.int h), some (.int c), x12] ∧ Mid K [((He.cT K ("law", none)).2, ("law" : Str) ++ ".<locals>." ++ "<lambda>")] d pc pl po m [c0a, c1, c2, c3, c4] H', ?_, ?_⟩
        · obtain ⟨cj, hcj, ca⟩ := M.each j r hrj
          refine ⟨_, rfl, _, rfl, pc, _, _, _, rfl, rfl, SqL.of M.cells, atI_nat (ref_at hcj), cj, r, rfl, ca, _, rfl, _, rfl, pc, _, _, _, rfl, rfl, SqL.of M.cells, atI_nat (ref_at hcj), cj, r, rfl, ca, fun p1 H4 hp1 s4 cn1 => ⟨p1, r.neg, rfl, cn1, (by show 2 ≤ sizeLine; decide), fun p2 hp2 => ?_⟩⟩
          have s5 := s4.trans (same_new (o := .lst [V.str r.label, V.str r.neg.label]) hp2)
          have M5 := M.same s5
          refine ⟨_, rfl, _, rfl, pl, _, _, _, rfl, rfl, SqL.of M5.labels, atI_nat (map_at hrj), _, rfl, _, rfl, po, _, _, _, rfl, rfl, SqL.of M5.opp, atI_nat (map_at hrj), (by show 2 ≤ sizeLine; decide), fun p3 hp3 => ?_⟩
          have s6 := s5.trans (same_new (o := .lst [V.str r.label, V.str r.neg.label]) hp3)
          refine ⟨_, _, rfl, eqLst (same_new hp3 _ _ upd_same) upd_same rfl (by show 2 ≤ 100000; decide), fun H7 s7 => ⟨_, rfl, iteF ?_⟩⟩
          exact ⟨rfl, M.same (s6.trans s7)⟩
        · rintro σ' H4 ⟨rfl, M⟩
          -- what is kept and passed on
          refine ⟨fun σ' H' => σ' = [some (.ref a), some (.ref d), some (.int (0 + (i : Int))), some (.int m), some (.ref pc), some (.ref pl), some (.ref po), some (.int (j : Int)), some (.int (jo : Int)), some (.ref pr), some (.int h), some (.int c), x12] ∧ Mid K [((He.cT K ("law", none)).2, ("law" : Str) ++ ".<locals>." ++ "<lambda>")] d pc pl po m [c0a, c1, c2, c3, c4] H', ?_, ?_⟩
          · obtain ⟨cj, hcj, ca⟩ := M.each j r hrj
            refine ⟨_, rfl, _, rfl, pc, _, _, _, rfl, rfl, SqL.of M.cells, atI_nat (ref_at hcj), cj, rfl, _, rfl, _, rfl, r, h, c, rfl, ca, fun p1 hp1 => ?_⟩
            have s5 : Same H4 (upd H4 p1 (.tup [.int (r.keep h c).1, .int (r.keep h c).2])) := same_new hp1
            have M5 := M.same s5
            refine ⟨_, rfl, _, rfl, pl, _, _, _, rfl, rfl, SqL.of M5.labels, atI_nat (map_at hrj), _, rfl, _, rfl, r, h, c, rfl, rok, fun p2 H6 hp2 s6 h6 => ?_⟩
            refine ⟨_, _, rfl, eqTup (s6 _ _ upd_same) h6 rfl (by show 2 ≤ 100000; decide), fun H7 s7 => ⟨_, rfl, iteF ?_⟩⟩
            exact ⟨rfl, M.same ((s5.trans s6).trans s7)⟩
          rintro σ' H5 ⟨rfl, M⟩
          -- which are equal
          refine ⟨fun σ' H' => σ' = [some (.ref a), some (.ref d), some (.int (0 + (i : Int))), some (.int m), some (.ref pc), some (.ref pl), some (.ref po), some (.int (j : Int)), some (.int (jo : Int)), some (.ref pr), some (.int h), some (.int c), x12] ∧ Mid K [((He.cT K ("law", none)).2, ("law" : Str) ++ ".<locals>." ++ "<lambda>")] d pc pl po m [c0a, c1, c2, c3, c4] H', ?_, ?_⟩
          · obtain ⟨cj, hcj, ca⟩ := M.each j r hrj
            obtain ⟨co, hco, cb⟩ := M.each jo ro hrjo
            have e : V.bl (decide (r.label = ro.label)) = V.bl (decide (V.int (j : Int) = V.int (jo : Int))) := by
              by_cases z : r.label = ro.label
              · have e1 : r = ro := label_inj rok (rules_ok hok hrjo) z
                rw [← e1] at hrjo
                have e2 : j = jo := rules_inj hrj hrjo
                rw [decide_eq_true z, e2]
                simp
              · have e2 : ¬ V.int (j : Int) = V.int (jo : Int) := fun y => by
                  have y2 : (j : Int) = (jo : Int) := V.int.inj y
                  have y3 : j = jo := by omega
                  rw [y3, hrjo] at hrj
                  exact z (by rw [Option.some.inj hrj])
                rw [decide_eq_false z, decide_eq_false e2]
            refine ⟨_, rfl, _, rfl, pc, _, _, _, rfl, rfl, SqL.of M.cells, atI_nat (ref_at hcj), _, rfl, _, rfl, pc, _, _, _, rfl, rfl, SqL.of M.cells, atI_nat (ref_at hco), cj, r, rfl, ca, .inl ⟨co, ro, rfl, cb, _, rfl, _, rfl, rfl, rfl, _, rfl, iteNS e ?_⟩⟩
            refine ⟨_, rfl, _, rfl, pc, _, _, _, rfl, rfl, SqL.of M.cells, atI_nat (ref_at hcj), _, rfl, _, rfl, pl, _, _, _, rfl, rfl, SqL.of M.labels, atI_nat (map_at hrj), cj, r, rfl, ca, .inr ⟨_, rfl, _, rfl, iteF ?_⟩⟩
            refine ⟨_, rfl, _, rfl, pc, _, _, _, rfl, rfl, SqL.of M.cells, atI_nat (ref_at hcj), _, _, _, _, true, rfl, .own _, ca.ty TC, TC.kit r.kd, _, rfl, iteF ?_⟩
            exact ⟨rfl, M⟩
          rintro σ' H6 ⟨rfl, M⟩
          -- kinds, opposites of opposites
          refine ⟨fun σ' H' => σ' = [some (.ref a), some (.ref d), some (.int (0 + (i : Int))), some (.int m), some (.ref pc), some (.ref pl), some (.ref po), some (.int (j : Int)), some (.int (jo : Int)), some (.ref pr), some (.int h), some (.int c), x12] ∧ Mid K [((He.cT K ("law", none)).2, ("law" : Str) ++ ".<locals>." ++ "<lambda>")] d pc pl po m [c0a, c1, c2, c3, c4] H', ?_, ?_⟩
          · obtain ⟨cj, hcj, ca⟩ := M.each j r hrj
            refine ⟨_, rfl, _, rfl, pc, _, _, _, rfl, rfl, SqL.of M.cells, atI_nat (ref_at hcj), cj, r, rfl, ca, (by show 5 ≤ sizeLine; decide), fun p1 hp1 => ?_⟩
            have s5 : Same H6 (upd H6 p1 (.lst [V.str "first", V.str "last", V.str "less", V.str "greater", V.str "near"])) := same_new hp1
            refine ⟨_, rfl, p1, _, _, _, rfl, rfl, SqL.of upd_same, atI_nat (word_at hrj), ?_⟩
            refine ⟨_, _, rfl, eq0 rfl, fun H7 s7 => ⟨_, rfl, iteF ?_⟩⟩
            have M7 := M.same (s5.trans s7)
            have ca7 := ca.same (s5.trans s7)
            refine ⟨_, rfl, _, rfl, pc, _, _, _, rfl, rfl, SqL.of M7.cells, atI_nat (ref_at hcj), cj, r, rfl, ca7, fun p2 H8 hp2 s8 cn1 => ⟨p2, r.neg, rfl, cn1, fun p3 H9 hp3 s9 cn2 => ?_⟩⟩
            have M9 := M7.same (s8.trans s9)
            refine ⟨_, rfl, _, rfl, pc, _, _, _, rfl, rfl, SqL.of M9.cells, atI_nat (ref_at hcj), p3, r.neg.neg, cj, r, rfl, rfl, by rw [Rule.neg_neg], cn2, ca7.same (s8.trans s9), _, rfl, iteNS (by rw [Rule.neg_neg]) ?_⟩
            exact ⟨rfl, M9⟩
          rintro σ' H7 ⟨rfl, M⟩
          -- other marks, the same mark
          refine ⟨fun σ' H' => σ' = [some (.ref a), some (.ref d), some (.int (0 + (i : Int))), some (.int m), some (.ref pc), some (.ref pl), some (.ref po), some (.int (j : Int)), some (.int (jo : Int)), some (.ref pr), some (.int h), some (.int c), x12] ∧ Mid K [((He.cT K ("law", none)).2, ("law" : Str) ++ ".<locals>." ++ "<lambda>")] d pc pl po m [c0a, c1, c2, c3, c4] H', ?_, ?_⟩
          · obtain ⟨c4', hc4, ca⟩ := M.each 4 (.near m) rfl
            refine ⟨_, rfl, pc, _, _, _, rfl, rfl, SqL.of M.cells, atI_nat (j := 4) (ref_at hc4), _, rfl, _, _, rfl, rfl, ⟨by decide, by decide, by decide⟩, _, _, rfl, rfl, _, rfl, ?_⟩
            by_cases hlt : m < (10 : Int) ^ (9 : Int).toNat
            · refine iteD1 hlt ⟨_, rfl, _, _, rfl, rfl, fun x dx h1 h2 h3 => ?_⟩
              have hm' : numOk (m + 1) := ⟨by have := hok.1; omega, by rw [ep] at hlt; omega⟩
              have hne : (Rule.near m).label ≠ (Rule.near (m + 1)).label := fun z => by
                have z2 := label_inj (r := .near m) (r' := .near (m + 1)) hok hm' z
                injection z2 with z3
                have := hlt
                rw [ep] at this
                omega
              refine ⟨x, dx, _, rfl, upd_same, .inl ⟨m + 1, rfl, fun _ => ⟨rfl, ?_⟩, fun z => absurd hm' z⟩⟩
              rw [upd_upd]
              have s8 : Same H7 (upd (upd H7 dx (.own x)) x (.ins (He.ga K "Near") dx [("mark", .int (m + 1))])) := made_same' h1 h2
              have M8 := M.same s8
              refine ⟨c4', .near m, rfl, ca.same s8, .inl ⟨x, .near (m + 1), rfl, made_cell (r := .near (m + 1)) hm', _, rfl, iteD0 hne ?_⟩⟩
              refine ⟨_, rfl, pc, _, _, _, rfl, rfl, SqL.of M8.cells, atI_nat (j := 4) (ref_at hc4), _, rfl, fun x2' dx2 g1 g2 g3 => ?_⟩
              refine ⟨x2', dx2, _, rfl, upd_same, .inl ⟨m, rfl, fun _ => ⟨rfl, ?_⟩, fun z => absurd hok z⟩⟩
              rw [upd_upd]
              have s9 := s8.trans (made_same' (C := He.ga K "Near") (fs := [("mark", .int m)]) g1 g2)
              refine ⟨c4', .near m, x2', .near m, rfl, rfl, rfl, ca.same s9, made_cell (r := .near m) hok, _, rfl, iteNS rfl ?_⟩
              exact ⟨rfl, M.same s9⟩
            · refine iteD0 hlt (fun x dx h1 h2 h3 => ?_)
              have hm' : numOk (0) := ⟨by decide, by decide⟩
              have hne : (Rule.near m).label ≠ (Rule.near (0)).label := fun z => by
                have z2 := label_inj (r := .near m) (r' := .near (0)) hok hm' z
                injection z2 with z3
                have := hlt
                rw [ep] at this
                omega
              refine ⟨x, dx, _, rfl, upd_same, .inl ⟨0, rfl, fun _ => ⟨rfl, ?_⟩, fun z => absurd hm' z⟩⟩
              rw [upd_upd]
              have s8 : Same H7 (upd (upd H7 dx (.own x)) x (.ins (He.ga K "Near") dx [("mark", .int (0))])) := made_same' h1 h2
              have M8 := M.same s8
              refine ⟨c4', .near m, rfl, ca.same s8, .inl ⟨x, .near (0), rfl, made_cell (r := .near (0)) hm', _, rfl, iteD0 hne ?_⟩⟩
              refine ⟨_, rfl, pc, _, _, _, rfl, rfl, SqL.of M8.cells, atI_nat (j := 4) (ref_at hc4), _, rfl, fun x2' dx2 g1 g2 g3 => ?_⟩
              refine ⟨x2', dx2, _, rfl, upd_same, .inl ⟨m, rfl, fun _ => ⟨rfl, ?_⟩, fun z => absurd hok z⟩⟩
              rw [upd_upd]
              have s9 := s8.trans (made_same' (C := He.ga K "Near") (fs := [("mark", .int m)]) g1 g2)
              refine ⟨c4', .near m, x2', .near m, rfl, rfl, rfl, ca.same s9, made_cell (r := .near m) hok, _, rfl, iteNS rfl ?_⟩
              exact ⟨rfl, M.same s9⟩
          rintro σ' H8 ⟨rfl, M⟩
          -- values that are no marks
          obtain ⟨ds7, hd7, hD7⟩ := M.ds
          refine ⟨_, _, rfl, rfl, ⟨by decide, by decide, by decide⟩, _, _, rfl, rfl, _, _, rfl, rfl, ⟨by decide, by decide, by decide⟩, _, _, rfl, rfl, _, _, rfl, rfl, (by show 1 ≤ sizeLine; decide), fun pt hpt => ?_⟩
          refine ⟨(by show 6 ≤ sizeLine; decide), fun p1 hp1 => ?_⟩
          have s9 : Same H8 (upd H8 pt (.tup [V.int 1])) := same_new hpt
          have s10 := s9.trans (same_new (o := .lst [V.int ((10 : Int) ^ (9 : Int).toNat + 1), V.int (0 - (10 : Int) ^ (9 : Int).toNat - 1), V.non, V.bl true, V.str "1", V.ref pt]) hp1)
          refine ⟨_, rfl, d, 6, ds7, rfl, by decide, by decide, s10 _ _ hD7, hd7, fun n ds8 n0 n6 hd8 => ?_⟩
          have npt : pt ≠ d := fun z => by
            rw [z, hD7] at hpt
            cases hpt
          have np1 : p1 ≠ d := fun z => by
            rw [z, s9 _ _ hD7] at hp1
            cases hp1
          have npp : pt ≠ p1 := ne_of_none upd_same hp1
          obtain ⟨v, hv, hodd⟩ : ∃ v, atI [V.int ((10 : Int) ^ (9 : Int).toNat + 1), V.int (0 - (10 : Int) ^ (9 : Int).toNat - 1), V.non, V.bl true, V.str "1", V.ref pt] n = some v ∧ ((∃ z : Int, v = .int z ∧ ¬ numOk z) ∨ ∃ Tn : String, Tn ∈ oddT ∧ ∀ H', H' pt = some (.tup [V.int 1]) → TyX K H' v (.type Tn)) := by
            rw [ep]
            have : n = 0 ∨ n = 1 ∨ n = 2 ∨ n = 3 ∨ n = 4 ∨ n = 5 := by omega
            rcases this with rfl | rfl | rfl | rfl | rfl | rfl
            · exact ⟨_, rfl, .inl ⟨_, rfl, fun z => absurd z.2 (by decide)⟩⟩
            · exact ⟨_, rfl, .inl ⟨_, rfl, fun z => absurd z.1 (by decide)⟩⟩
            · exact ⟨_, rfl, .inr ⟨"NoneType", by decide, fun _ _ => .base .non⟩⟩
            · exact ⟨_, rfl, .inr ⟨"bool", by decide, fun _ _ => .base (.bl true)⟩⟩
            · exact ⟨_, rfl, .inr ⟨"str", by decide, fun _ _ => .base (.str _)⟩⟩
            · exact ⟨_, rfl, .inr ⟨"tuple", by decide, fun _ h => .base (.tup h)⟩⟩
          refine ⟨p1, _, n, v, rfl, rfl, SqL.of (by rw [upd_ne np1, upd_same]), hv, ?_⟩
          have fL : Fr1 d H8 (upd (upd (upd H8 pt (.tup [V.int 1])) p1 (.lst [V.int ((10 : Int) ^ (9 : Int).toNat + 1), V.int (0 - (10 : Int) ^ (9 : Int).toNat - 1), V.non, V.bl true, V.str "1", V.ref pt])) d (.lst (ds8.map V.int))) := (Fr1.of s10).trans Fr1.at
          have hDL : (upd (upd (upd H8 pt (.tup [V.int 1])) p1 (.lst [V.int ((10 : Int) ^ (9 : Int).toNat + 1), V.int (0 - (10 : Int) ^ (9 : Int).toNat - 1), V.non, V.bl true, V.str "1", V.ref pt])) d (.lst (ds8.map V.int))) d = some (.lst (ds8.map V.int)) := upd_same
          have hpL : (upd (upd (upd H8 pt (.tup [V.int 1])) p1 (.lst [V.int ((10 : Int) ^ (9 : Int).toNat + 1), V.int (0 - (10 : Int) ^ (9 : Int).toNat - 1), V.non, V.bl true, V.str "1", V.ref pt])) d (.lst (ds8.map V.int))) pt = some (.tup [V.int 1]) := by
            rw [upd_ne npt, upd_ne npp, upd_same]
          generalize (upd (upd (upd H8 pt (.tup [V.int 1])) p1 (.lst [V.int ((10 : Int) ^ (9 : Int).toNat + 1), V.int (0 - (10 : Int) ^ (9 : Int).toNat - 1), V.non, V.bl true, V.str "1", V.ref pt])) d (.lst (ds8.map V.int))) = HL at fL hDL hpL ⊢
          have hTL := tabs_fr M.tab hD7 fL
          refine ⟨hTL, fun HM eM TM => ?_⟩
          refine ⟨_, rfl, fun x dx h1 h2 h3 => ?_⟩
          have sM : Same HM (upd (upd HM dx (.own x)) x (.ins (He.ga K "Near") dx [])) := made_same' h1 h2
          have hDM := eM _ _ hDL (fun ps z => by cases z)
          have hpM := eM _ _ hpL (fun ps z => by cases z)
          refine ⟨x, dx, v, rfl, upd_same, ?_⟩
          rcases hodd with ⟨z, rfl, hz⟩ | ⟨Tn, hTn, hty⟩
          · refine .inl ⟨z, rfl, fun y => absurd y hz, fun _ => ⟨.number, List.mem_cons_self, rfl, rfl, rfl, fun p HN hp sN hN => ?_⟩⟩
            refine ⟨(by show 2 ≤ sizeLine; decide), fun p2 hp2 => ?_⟩
            have sO := (sM.trans sN).trans (same_new (o := .tup [V.str "number", V.int 0]) hp2)
            refine ⟨.tuple [.str "number", .int 0], .tuple [.str "number", .int 0], .tup (SqT.of (same_new hp2 _ _ hN)) (.cons (.str _) (.cons (.int _) .nil)), .tup (SqT.of upd_same) (.cons (.str _) (.cons (.int _) .nil)), by decide +kernel, by decide +kernel, _, rfl, ?_⟩
            refine (if_neg (by decide +kernel)).mpr ?_
            exact ⟨_, _, _, _, _, _, _, _, _, _, _, rfl, ⟨ds8, hd8, sO _ _ hDM⟩, TM.ext sO⟩
          · refine .inr ⟨Tn, hTn, hty _ (sM _ _ hpM), ⟨.number, List.mem_cons_self, rfl, rfl, rfl, fun p HN hp sN hN => ?_⟩⟩
            refine ⟨(by show 2 ≤ sizeLine; decide), fun p2 hp2 => ?_⟩
            have sO := (sM.trans sN).trans (same_new (o := .tup [V.str "number", V.int 0]) hp2)
            refine ⟨.tuple [.str "number", .int 0], .tuple [.str "number", .int 0], .tup (SqT.of (same_new hp2 _ _ hN)) (.cons (.str _) (.cons (.int _) .nil)), .tup (SqT.of upd_same) (.cons (.str _) (.cons (.int _) .nil)), by decide +kernel, by decide +kernel, _, rfl, ?_⟩
            refine (if_neg (by decide +kernel)).mpr ?_
            exact ⟨_, _, _, _, _, _, _, _, _, _, _, rfl, ⟨ds8, hd8, sO _ _ hDM⟩, TM.ext sO⟩
    · rintro σ H2 ⟨x2, x3, x4, x5, x6, x7, x8, x9, x10, x11, x12, rfl, _⟩
      exact q H2
end
end SC
set_option maxRecDepth 100000
set_option maxHeartbeats 4000000
namespace SC
open PySem PySem.Spec PyProof.Rows L2 TL
section
variable {h : Heap} {K : PySem.W.Frag} {mg : Str → Option Value}
theorem mkBln (c : Says dps fxs tfs h K) (X : K.In h) (G : h.Ns mainGlobals mg) : Bln mg := ⟨He.free_ok X G (c.fact _ (List.mem_of_getElem? (l := fxs) (i := 0) rfl)), He.free_ok X G (c.fact _ (List.mem_of_getElem? (l := fxs) (i := 1) rfl)), He.free_ok X G (c.fact _ (List.mem_of_getElem? (l := fxs) (i := 2) rfl)), He.free_ok X G (c.fact _ (List.mem_of_getElem? (l := fxs) (i := 3) rfl)), He.free_ok X G (c.fact _ (List.mem_of_getElem? (l := fxs) (i := 4) rfl)), He.free_ok X G (c.fact _ (List.mem_of_getElem? (l := fxs) (i := 5) rfl)), He.free_ok X G (c.fact _ (List.mem_of_getElem? (l := fxs) (i := 6) rfl)), He.free_ok X G (c.fact _ (List.mem_of_getElem? (l := fxs) (i := 7) rfl)), He.free_ok X G (c.fact _ (List.mem_of_getElem? (l := fxs) (i := 8) rfl)), He.free_ok X G (c.fact _ (List.mem_of_getElem? (l := fxs) (i := 9) rfl)), He.free_ok X G (c.fact _ (List.mem_of_getElem? (l := fxs) (i := 10) rfl)), He.free_ok X G (c.fact _ (List.mem_of_getElem? (l := fxs) (i := 11) rfl))⟩
theorem mkCells (c : Says dps fxs tfs h K) (X : K.In h) (G : h.Ns mainGlobals mg) : Cells K mg := by
  constructor
  · intro k
    cases k with
    | first => exact He.cls_ok (c.fact _ (List.mem_of_getElem? (l := fxs) (i := 47) rfl))
    | last => exact He.cls_ok (c.fact _ (List.mem_of_getElem? (l := fxs) (i := 48) rfl))
    | less => exact He.cls_ok (c.fact _ (List.mem_of_getElem? (l := fxs) (i := 49) rfl))
    | greater => exact He.cls_ok (c.fact _ (List.mem_of_getElem? (l := fxs) (i := 50) rfl))
    | near => exact He.cls_ok (c.fact _ (List.mem_of_getElem? (l := fxs) (i := 51) rfl))
  · intro k
    cases k with
    | first => exact fx_isi (c.fact _ (List.mem_of_getElem? (l := fxs) (i := 77) rfl))
    | last => exact fx_isi (c.fact _ (List.mem_of_getElem? (l := fxs) (i := 78) rfl))
    | less => exact fx_isi (c.fact _ (List.mem_of_getElem? (l := fxs) (i := 79) rfl))
    | greater => exact fx_isi (c.fact _ (List.mem_of_getElem? (l := fxs) (i := 80) rfl))
    | near => exact fx_isi (c.fact _ (List.mem_of_getElem? (l := fxs) (i := 81) rfl))
  · intro k
    cases k with
    | first => exact He.glo_ok X G (c.fact _ (List.mem_of_getElem? (l := fxs) (i := 41) rfl))
    | last => exact He.glo_ok X G (c.fact _ (List.mem_of_getElem? (l := fxs) (i := 42) rfl))
    | less => exact He.glo_ok X G (c.fact _ (List.mem_of_getElem? (l := fxs) (i := 43) rfl))
    | greater => exact He.glo_ok X G (c.fact _ (List.mem_of_getElem? (l := fxs) (i := 44) rfl))
    | near => exact He.glo_ok X G (c.fact _ (List.mem_of_getElem? (l := fxs) (i := 45) rfl))
  · intro k
    cases k with
    | first => exact fx_spec (c.fact _ (List.mem_of_getElem? (l := fxs) (i := 57) rfl))
    | last => exact fx_spec (c.fact _ (List.mem_of_getElem? (l := fxs) (i := 58) rfl))
    | less => exact fx_spec (c.fact _ (List.mem_of_getElem? (l := fxs) (i := 59) rfl))
    | greater => exact fx_spec (c.fact _ (List.mem_of_getElem? (l := fxs) (i := 60) rfl))
    | near => exact fx_spec (c.fact _ (List.mem_of_getElem? (l := fxs) (i := 61) rfl))
  · intro k
    cases k with
    | first => exact fx_spec (c.fact _ (List.mem_of_getElem? (l := fxs) (i := 62) rfl))
    | last => exact fx_spec (c.fact _ (List.mem_of_getElem? (l := fxs) (i := 63) rfl))
    | less => exact fx_spec (c.fact _ (List.mem_of_getElem? (l := fxs) (i := 64) rfl))
    | greater => exact fx_spec (c.fact _ (List.mem_of_getElem? (l := fxs) (i := 65) rfl))
    | near => exact fx_spec (c.fact _ (List.mem_of_getElem? (l := fxs) (i := 66) rfl))
  · intro k
    cases k with
    | first => exact fx_spec (c.fact _ (List.mem_of_getElem? (l := fxs) (i := 67) rfl))
    | last => exact fx_spec (c.fact _ (List.mem_of_getElem? (l := fxs) (i := 68) rfl))
    | less => exact fx_spec (c.fact _ (List.mem_of_getElem? (l := fxs) (i := 69) rfl))
    | greater => exact fx_spec (c.fact _ (List.mem_of_getElem? (l := fxs) (i := 70) rfl))
    | near => exact fx_spec (c.fact _ (List.mem_of_getElem? (l := fxs) (i := 71) rfl))
  · intro k
    cases k with
    | first => exact fx_none (c.fact _ (List.mem_of_getElem? (l := fxs) (i := 72) rfl))
    | last => exact fx_none (c.fact _ (List.mem_of_getElem? (l := fxs) (i := 73) rfl))
    | less => exact fx_none (c.fact _ (List.mem_of_getElem? (l := fxs) (i := 74) rfl))
    | greater => exact fx_none (c.fact _ (List.mem_of_getElem? (l := fxs) (i := 75) rfl))
    | near => exact fx_none (c.fact _ (List.mem_of_getElem? (l := fxs) (i := 76) rfl))
  · intro k
    cases k with
    | first => exact fx_prop (c.fact _ (List.mem_of_getElem? (l := fxs) (i := 52) rfl))
    | last => exact fx_prop (c.fact _ (List.mem_of_getElem? (l := fxs) (i := 53) rfl))
    | less => exact fx_prop (c.fact _ (List.mem_of_getElem? (l := fxs) (i := 54) rfl))
    | greater => exact fx_prop (c.fact _ (List.mem_of_getElem? (l := fxs) (i := 55) rfl))
    | near => exact fx_prop (c.fact _ (List.mem_of_getElem? (l := fxs) (i := 56) rfl))
  · intro k
    cases k with
    | first => exact fx_con (c.fact _ (List.mem_of_getElem? (l := fxs) (i := 98) rfl))
    | last => exact fx_con (c.fact _ (List.mem_of_getElem? (l := fxs) (i := 99) rfl))
    | less => exact fx_con (c.fact _ (List.mem_of_getElem? (l := fxs) (i := 100) rfl))
    | greater => exact fx_con (c.fact _ (List.mem_of_getElem? (l := fxs) (i := 101) rfl))
    | near => exact fx_con (c.fact _ (List.mem_of_getElem? (l := fxs) (i := 102) rfl))
  · intro k l
    cases k <;> cases l
    · exact fx_sub (c.fact _ (List.mem_of_getElem? (l := fxs) (i := 108) rfl))
    · exact fx_sub (c.fact _ (List.mem_of_getElem? (l := fxs) (i := 109) rfl))
    · exact fx_sub (c.fact _ (List.mem_of_getElem? (l := fxs) (i := 110) rfl))
    · exact fx_sub (c.fact _ (List.mem_of_getElem? (l := fxs) (i := 111) rfl))
    · exact fx_sub (c.fact _ (List.mem_of_getElem? (l := fxs) (i := 112) rfl))
    · exact fx_sub (c.fact _ (List.mem_of_getElem? (l := fxs) (i := 113) rfl))
    · exact fx_sub (c.fact _ (List.mem_of_getElem? (l := fxs) (i := 114) rfl))
    · exact fx_sub (c.fact _ (List.mem_of_getElem? (l := fxs) (i := 115) rfl))
    · exact fx_sub (c.fact _ (List.mem_of_getElem? (l := fxs) (i := 116) rfl))
    · exact fx_sub (c.fact _ (List.mem_of_getElem? (l := fxs) (i := 117) rfl))
    · exact fx_sub (c.fact _ (List.mem_of_getElem? (l := fxs) (i := 118) rfl))
    · exact fx_sub (c.fact _ (List.mem_of_getElem? (l := fxs) (i := 119) rfl))
    · exact fx_sub (c.fact _ (List.mem_of_getElem? (l := fxs) (i := 120) rfl))
    · exact fx_sub (c.fact _ (List.mem_of_getElem? (l := fxs) (i := 121) rfl))
    · exact fx_sub (c.fact _ (List.mem_of_getElem? (l := fxs) (i := 122) rfl))
    · exact fx_sub (c.fact _ (List.mem_of_getElem? (l := fxs) (i := 123) rfl))
    · exact fx_sub (c.fact _ (List.mem_of_getElem? (l := fxs) (i := 124) rfl))
    · exact fx_sub (c.fact _ (List.mem_of_getElem? (l := fxs) (i := 125) rfl))
    · exact fx_sub (c.fact _ (List.mem_of_getElem? (l := fxs) (i := 126) rfl))
    · exact fx_sub (c.fact _ (List.mem_of_getElem? (l := fxs) (i := 127) rfl))
    · exact fx_sub (c.fact _ (List.mem_of_getElem? (l := fxs) (i := 128) rfl))
    · exact fx_sub (c.fact _ (List.mem_of_getElem? (l := fxs) (i := 129) rfl))
    · exact fx_sub (c.fact _ (List.mem_of_getElem? (l := fxs) (i := 130) rfl))
    · exact fx_sub (c.fact _ (List.mem_of_getElem? (l := fxs) (i := 131) rfl))
    · exact fx_sub (c.fact _ (List.mem_of_getElem? (l := fxs) (i := 132) rfl))
  · intro k
    cases k with
    | first => exact fx_sub (c.fact _ (List.mem_of_getElem? (l := fxs) (i := 133) rfl))
    | last => exact fx_sub (c.fact _ (List.mem_of_getElem? (l := fxs) (i := 134) rfl))
    | less => exact fx_sub (c.fact _ (List.mem_of_getElem? (l := fxs) (i := 135) rfl))
    | greater => exact fx_sub (c.fact _ (List.mem_of_getElem? (l := fxs) (i := 136) rfl))
    | near => exact fx_sub (c.fact _ (List.mem_of_getElem? (l := fxs) (i := 137) rfl))
  · intro k
    cases k with
    | first => exact fx_kit (c.fact _ (List.mem_of_getElem? (l := fxs) (i := 87) rfl))
    | last => exact fx_kit (c.fact _ (List.mem_of_getElem? (l := fxs) (i := 88) rfl))
    | less => exact fx_kit (c.fact _ (List.mem_of_getElem? (l := fxs) (i := 89) rfl))
    | greater => exact fx_kit (c.fact _ (List.mem_of_getElem? (l := fxs) (i := 90) rfl))
    | near => exact fx_kit (c.fact _ (List.mem_of_getElem? (l := fxs) (i := 91) rfl))
  · exact fx_kit (c.fact _ (List.mem_of_getElem? (l := fxs) (i := 107) rfl))
  · intro k hk
    cases k with
    | first => exact fx_mk0 (c.fact _ (List.mem_of_getElem? (l := fxs) (i := 92) rfl))
    | last => exact fx_mk0 (c.fact _ (List.mem_of_getElem? (l := fxs) (i := 93) rfl))
    | less => exact fx_mk0 (c.fact _ (List.mem_of_getElem? (l := fxs) (i := 94) rfl))
    | greater => exact fx_mk0 (c.fact _ (List.mem_of_getElem? (l := fxs) (i := 95) rfl))
    | near => exact absurd rfl hk
  · exact He.mkr_ok (c.fact _ (List.mem_of_getElem? (l := fxs) (i := 96) rfl))
  · exact He.noat_ok (c.fact _ (List.mem_of_getElem? (l := fxs) (i := 97) rfl))
theorem mkErr0_InvalidNumber (c : Says dps fxs tfs h K) (X : K.In h) (G : h.Ns mainGlobals mg) : Err0 K mg "InvalidNumber" := by
  obtain ⟨h1, h2, h3, h4⟩ := He.exc_ok (c.fact _ (List.mem_of_getElem? (l := fxs) (i := 138) rfl))
  exact ⟨h1, h2, h3, h4, He.glo_ok X G (c.fact _ (List.mem_of_getElem? (l := fxs) (i := 31) rfl))⟩
theorem mkErr0_UnknownCell (c : Says dps fxs tfs h K) (X : K.In h) (G : h.Ns mainGlobals mg) : Err0 K mg "UnknownCell" := by
  obtain ⟨h1, h2, h3, h4⟩ := He.exc_ok (c.fact _ (List.mem_of_getElem? (l := fxs) (i := 139) rfl))
  exact ⟨h1, h2, h3, h4, He.glo_ok X G (c.fact _ (List.mem_of_getElem? (l := fxs) (i := 33) rfl))⟩
theorem mkErr0_TooMany (c : Says dps fxs tfs h K) (X : K.In h) (G : h.Ns mainGlobals mg) : Err0 K mg "TooMany" := by
  obtain ⟨h1, h2, h3, h4⟩ := He.exc_ok (c.fact _ (List.mem_of_getElem? (l := fxs) (i := 140) rfl))
  exact ⟨h1, h2, h3, h4, He.glo_ok X G (c.fact _ (List.mem_of_getElem? (l := fxs) (i := 36) rfl))⟩
theorem mkErr0_Contradiction (c : Says dps fxs tfs h K) (X : K.In h) (G : h.Ns mainGlobals mg) : Err0 K mg "Contradiction" := by
  obtain ⟨h1, h2, h3, h4⟩ := He.exc_ok (c.fact _ (List.mem_of_getElem? (l := fxs) (i := 141) rfl))
  exact ⟨h1, h2, h3, h4, He.glo_ok X G (c.fact _ (List.mem_of_getElem? (l := fxs) (i := 37) rfl))⟩
theorem mkErr0_InvalidName (c : Says dps fxs tfs h K) (X : K.In h) (G : h.Ns mainGlobals mg) : Err0 K mg "InvalidName" := by
  obtain ⟨h1, h2, h3, h4⟩ := He.exc_ok (c.fact _ (List.mem_of_getElem? (l := fxs) (i := 142) rfl))
  exact ⟨h1, h2, h3, h4, He.glo_ok X G (c.fact _ (List.mem_of_getElem? (l := fxs) (i := 38) rfl))⟩
theorem mkErr0_UnknownName (c : Says dps fxs tfs h K) (X : K.In h) (G : h.Ns mainGlobals mg) : Err0 K mg "UnknownName" := by
  obtain ⟨h1, h2, h3, h4⟩ := He.exc_ok (c.fact _ (List.mem_of_getElem? (l := fxs) (i := 143) rfl))
  exact ⟨h1, h2, h3, h4, He.glo_ok X G (c.fact _ (List.mem_of_getElem? (l := fxs) (i := 39) rfl))⟩
theorem mkErrs (c : Says dps fxs tfs h K) (X : K.In h) (G : h.Ns mainGlobals mg) : Errs K mg := by
  constructor
  · intro e
    cases e with
    | number => exact He.glo_ok X G (c.fact _ (List.mem_of_getElem? (l := fxs) (i := 31) rfl))
    | chain => exact He.glo_ok X G (c.fact _ (List.mem_of_getElem? (l := fxs) (i := 32) rfl))
    | cell => exact He.glo_ok X G (c.fact _ (List.mem_of_getElem? (l := fxs) (i := 33) rfl))
    | row => exact He.glo_ok X G (c.fact _ (List.mem_of_getElem? (l := fxs) (i := 34) rfl))
    | text => exact He.glo_ok X G (c.fact _ (List.mem_of_getElem? (l := fxs) (i := 35) rfl))
    | many => exact He.glo_ok X G (c.fact _ (List.mem_of_getElem? (l := fxs) (i := 36) rfl))
    | contradiction => exact He.glo_ok X G (c.fact _ (List.mem_of_getElem? (l := fxs) (i := 37) rfl))
    | name => exact He.glo_ok X G (c.fact _ (List.mem_of_getElem? (l := fxs) (i := 38) rfl))
    | unknown => exact He.glo_ok X G (c.fact _ (List.mem_of_getElem? (l := fxs) (i := 39) rfl))
    | operation => exact He.glo_ok X G (c.fact _ (List.mem_of_getElem? (l := fxs) (i := 40) rfl))
  · exact He.glo_ok X G (c.fact _ (List.mem_of_getElem? (l := fxs) (i := 30) rfl))
  · exact He.free_ok X G (c.fact _ (List.mem_of_getElem? (l := fxs) (i := 12) rfl))
theorem mkErrT_number (c : Says dps fxs tfs h K) : ErrT K .number := by
  constructor
  · exact He.exm_ok (c.fact _ (List.mem_of_getElem? (l := fxs) (i := 146) rfl))
  · exact fx_exk (c.fact _ (List.mem_of_getElem? (l := fxs) (i := 144) rfl)) (c.fact _ (List.mem_of_getElem? (l := fxs) (i := 145) rfl))
  · intro y
    cases y with
    | number => exact fx_kit (c.fact _ (List.mem_of_getElem? (l := fxs) (i := 148) rfl))
    | chain => exact fx_kit (c.fact _ (List.mem_of_getElem? (l := fxs) (i := 149) rfl))
    | cell => exact fx_kit (c.fact _ (List.mem_of_getElem? (l := fxs) (i := 150) rfl))
    | row => exact fx_kit (c.fact _ (List.mem_of_getElem? (l := fxs) (i := 151) rfl))
    | text => exact fx_kit (c.fact _ (List.mem_of_getElem? (l := fxs) (i := 152) rfl))
    | many => exact fx_kit (c.fact _ (List.mem_of_getElem? (l := fxs) (i := 153) rfl))
    | contradiction => exact fx_kit (c.fact _ (List.mem_of_getElem? (l := fxs) (i := 154) rfl))
    | name => exact fx_kit (c.fact _ (List.mem_of_getElem? (l := fxs) (i := 155) rfl))
    | unknown => exact fx_kit (c.fact _ (List.mem_of_getElem? (l := fxs) (i := 156) rfl))
    | operation => exact fx_kit (c.fact _ (List.mem_of_getElem? (l := fxs) (i := 157) rfl))
  · exact fx_kit (c.fact _ (List.mem_of_getElem? (l := fxs) (i := 147) rfl))
theorem mkErrT_cell (c : Says dps fxs tfs h K) : ErrT K .cell := by
  constructor
  · exact He.exm_ok (c.fact _ (List.mem_of_getElem? (l := fxs) (i := 160) rfl))
  · exact fx_exk (c.fact _ (List.mem_of_getElem? (l := fxs) (i := 158) rfl)) (c.fact _ (List.mem_of_getElem? (l := fxs) (i := 159) rfl))
  · intro y
    cases y with
    | number => exact fx_kit (c.fact _ (List.mem_of_getElem? (l := fxs) (i := 162) rfl))
    | chain => exact fx_kit (c.fact _ (List.mem_of_getElem? (l := fxs) (i := 163) rfl))
    | cell => exact fx_kit (c.fact _ (List.mem_of_getElem? (l := fxs) (i := 164) rfl))
    | row => exact fx_kit (c.fact _ (List.mem_of_getElem? (l := fxs) (i := 165) rfl))
    | text => exact fx_kit (c.fact _ (List.mem_of_getElem? (l := fxs) (i := 166) rfl))
    | many => exact fx_kit (c.fact _ (List.mem_of_getElem? (l := fxs) (i := 167) rfl))
    | contradiction => exact fx_kit (c.fact _ (List.mem_of_getElem? (l := fxs) (i := 168) rfl))
    | name => exact fx_kit (c.fact _ (List.mem_of_getElem? (l := fxs) (i := 169) rfl))
    | unknown => exact fx_kit (c.fact _ (List.mem_of_getElem? (l := fxs) (i := 170) rfl))
    | operation => exact fx_kit (c.fact _ (List.mem_of_getElem? (l := fxs) (i := 171) rfl))
  · exact fx_kit (c.fact _ (List.mem_of_getElem? (l := fxs) (i := 161) rfl))
theorem mkErrT_many (c : Says dps fxs tfs h K) : ErrT K .many := by
  constructor
  · exact He.exm_ok (c.fact _ (List.mem_of_getElem? (l := fxs) (i := 174) rfl))
  · exact fx_exk (c.fact _ (List.mem_of_getElem? (l := fxs) (i := 172) rfl)) (c.fact _ (List.mem_of_getElem? (l := fxs) (i := 173) rfl))
  · intro y
    cases y with
    | number => exact fx_kit (c.fact _ (List.mem_of_getElem? (l := fxs) (i := 176) rfl))
    | chain => exact fx_kit (c.fact _ (List.mem_of_getElem? (l := fxs) (i := 177) rfl))
    | cell => exact fx_kit (c.fact _ (List.mem_of_getElem? (l := fxs) (i := 178) rfl))
    | row => exact fx_kit (c.fact _ (List.mem_of_getElem? (l := fxs) (i := 179) rfl))
    | text => exact fx_kit (c.fact _ (List.mem_of_getElem? (l := fxs) (i := 180) rfl))
    | many => exact fx_kit (c.fact _ (List.mem_of_getElem? (l := fxs) (i := 181) rfl))
    | contradiction => exact fx_kit (c.fact _ (List.mem_of_getElem? (l := fxs) (i := 182) rfl))
    | name => exact fx_kit (c.fact _ (List.mem_of_getElem? (l := fxs) (i := 183) rfl))
    | unknown => exact fx_kit (c.fact _ (List.mem_of_getElem? (l := fxs) (i := 184) rfl))
    | operation => exact fx_kit (c.fact _ (List.mem_of_getElem? (l := fxs) (i := 185) rfl))
  · exact fx_kit (c.fact _ (List.mem_of_getElem? (l := fxs) (i := 175) rfl))
theorem mkErrT_contradiction (c : Says dps fxs tfs h K) : ErrT K .contradiction := by
  constructor
  · exact He.exm_ok (c.fact _ (List.mem_of_getElem? (l := fxs) (i := 188) rfl))
  · exact fx_exk (c.fact _ (List.mem_of_getElem? (l := fxs) (i := 186) rfl)) (c.fact _ (List.mem_of_getElem? (l := fxs) (i := 187) rfl))
  · intro y
    cases y with
    | number => exact fx_kit (c.fact _ (List.mem_of_getElem? (l := fxs) (i := 190) rfl))
    | chain => exact fx_kit (c.fact _ (List.mem_of_getElem? (l := fxs) (i := 191) rfl))
    | cell => exact fx_kit (c.fact _ (List.mem_of_getElem? (l := fxs) (i := 192) rfl))
    | row => exact fx_kit (c.fact _ (List.mem_of_getElem? (l := fxs) (i := 193) rfl))
    | text => exact fx_kit (c.fact _ (List.mem_of_getElem? (l := fxs) (i := 194) rfl))
    | many => exact fx_kit (c.fact _ (List.mem_of_getElem? (l := fxs) (i := 195) rfl))
    | contradiction => exact fx_kit (c.fact _ (List.mem_of_getElem? (l := fxs) (i := 196) rfl))
    | name => exact fx_kit (c.fact _ (List.mem_of_getElem? (l := fxs) (i := 197) rfl))
    | unknown => exact fx_kit (c.fact _ (List.mem_of_getElem? (l := fxs) (i := 198) rfl))
    | operation => exact fx_kit (c.fact _ (List.mem_of_getElem? (l := fxs) (i := 199) rfl))
  · exact fx_kit (c.fact _ (List.mem_of_getElem? (l := fxs) (i := 189) rfl))
theorem mkErrT_name (c : Says dps fxs tfs h K) : ErrT K .name := by
  constructor
  · exact He.exm_ok (c.fact _ (List.mem_of_getElem? (l := fxs) (i := 202) rfl))
  · exact fx_exk (c.fact _ (List.mem_of_getElem? (l := fxs) (i := 200) rfl)) (c.fact _ (List.mem_of_getElem? (l := fxs) (i := 201) rfl))
  · intro y
    cases y with
    | number => exact fx_kit (c.fact _ (List.mem_of_getElem? (l := fxs) (i := 204) rfl))
    | chain => exact fx_kit (c.fact _ (List.mem_of_getElem? (l := fxs) (i := 205) rfl))
    | cell => exact fx_kit (c.fact _ (List.mem_of_getElem? (l := fxs) (i := 206) rfl))
    | row => exact fx_kit (c.fact _ (List.mem_of_getElem? (l := fxs) (i := 207) rfl))
    | text => exact fx_kit (c.fact _ (List.mem_of_getElem? (l := fxs) (i := 208) rfl))
    | many => exact fx_kit (c.fact _ (List.mem_of_getElem? (l := fxs) (i := 209) rfl))
    | contradiction => exact fx_kit (c.fact _ (List.mem_of_getElem? (l := fxs) (i := 210) rfl))
    | name => exact fx_kit (c.fact _ (List.mem_of_getElem? (l := fxs) (i := 211) rfl))
    | unknown => exact fx_kit (c.fact _ (List.mem_of_getElem? (l := fxs) (i := 212) rfl))
    | operation => exact fx_kit (c.fact _ (List.mem_of_getElem? (l := fxs) (i := 213) rfl))
  · exact fx_kit (c.fact _ (List.mem_of_getElem? (l := fxs) (i := 203) rfl))
theorem mkErrT_unknown (c : Says dps fxs tfs h K) : ErrT K .unknown := by
  constructor
  · exact He.exm_ok (c.fact _ (List.mem_of_getElem? (l := fxs) (i := 216) rfl))
  · exact fx_exk (c.fact _ (List.mem_of_getElem? (l := fxs) (i := 214) rfl)) (c.fact _ (List.mem_of_getElem? (l := fxs) (i := 215) rfl))
  · intro y
    cases y with
    | number => exact fx_kit (c.fact _ (List.mem_of_getElem? (l := fxs) (i := 218) rfl))
    | chain => exact fx_kit (c.fact _ (List.mem_of_getElem? (l := fxs) (i := 219) rfl))
    | cell => exact fx_kit (c.fact _ (List.mem_of_getElem? (l := fxs) (i := 220) rfl))
    | row => exact fx_kit (c.fact _ (List.mem_of_getElem? (l := fxs) (i := 221) rfl))
    | text => exact fx_kit (c.fact _ (List.mem_of_getElem? (l := fxs) (i := 222) rfl))
    | many => exact fx_kit (c.fact _ (List.mem_of_getElem? (l := fxs) (i := 223) rfl))
    | contradiction => exact fx_kit (c.fact _ (List.mem_of_getElem? (l := fxs) (i := 224) rfl))
    | name => exact fx_kit (c.fact _ (List.mem_of_getElem? (l := fxs) (i := 225) rfl))
    | unknown => exact fx_kit (c.fact _ (List.mem_of_getElem? (l := fxs) (i := 226) rfl))
    | operation => exact fx_kit (c.fact _ (List.mem_of_getElem? (l := fxs) (i := 227) rfl))
  · exact fx_kit (c.fact _ (List.mem_of_getElem? (l := fxs) (i := 217) rfl))
end
theorem fnR_of {P : Program} {w : World} {K : PySem.W.Frag} {mg : Str → Option Value} {base : Heap} {CX : CXT} {k : Nat} {f : Addr} {fd : FuncData} {ps : List Str} {sp : Sp} (F : FnOk P w K mg base CX k f fd ps sp) (hb : Binds K fd ps []) : FnR P w K mg base CX k f sp :=
  (F.raw (dvs := []) hb .nil).imp fun vs H Q E h => by
    show sp (vs ++ []) H Q E
    rw [List.append_nil]
    exact h
theorem lawAt (w : World) (K : PySem.W.Frag) (h : Heap) (mg : Str → Option Value) (fa : Addr) (X : K.In h) (G : h.Ns mainGlobals mg) (hfa : mg ("law" : Str) = some (.ref fa)) (c : Says dps fxs tfs h K) :
    LamX.LawAtS PySem.Challenge.rw_siftchain_k01_cells_and_labels w K CX0 20 63 "_law_script" mg fa h := by
  have B := mkBln c X G
  have TC := mkCells c X G
  have E0_InvalidNumber := mkErr0_InvalidNumber c X G
  have E0_UnknownCell := mkErr0_UnknownCell c X G
  have E0_TooMany := mkErr0_TooMany c X G
  have E0_Contradiction := mkErr0_Contradiction c X G
  have E0_InvalidName := mkErr0_InvalidName c X G
  have E0_UnknownName := mkErr0_UnknownName c X G
  have ER := mkErrs c X G
  have h_ValueError := He.free_ok X G (c.fact _ (List.mem_of_getElem? (l := fxs) (i := 12) rfl))
  have h_enumerate := He.free_ok X G (c.fact _ (List.mem_of_getElem? (l := fxs) (i := 13) rfl))
  have h_zip := He.free_ok X G (c.fact _ (List.mem_of_getElem? (l := fxs) (i := 14) rfl))
  have h_sorted := He.free_ok X G (c.fact _ (List.mem_of_getElem? (l := fxs) (i := 15) rfl))
  have h_sum := He.free_ok X G (c.fact _ (List.mem_of_getElem? (l := fxs) (i := 16) rfl))
  have h_set := He.free_ok X G (c.fact _ (List.mem_of_getElem? (l := fxs) (i := 17) rfl))
  have h_dict := He.free_ok X G (c.fact _ (List.mem_of_getElem? (l := fxs) (i := 18) rfl))
  have h_reversed := He.free_ok X G (c.fact _ (List.mem_of_getElem? (l := fxs) (i := 19) rfl))
  obtain ⟨fd_is_within, F_is_within⟩ := c.defs _ (List.mem_of_getElem? (l := dps) (i := 0) rfl)
  obtain ⟨fd_is_number, F_is_number⟩ := c.defs _ (List.mem_of_getElem? (l := dps) (i := 1) rfl)
  obtain ⟨fd_check_number, F_check_number⟩ := c.defs _ (List.mem_of_getElem? (l := dps) (i := 2) rfl)
  obtain ⟨fd_Cell_call, F_Cell_call⟩ := c.defs _ (List.mem_of_getElem? (l := dps) (i := 3) rfl)
  obtain ⟨fd_Cell_eq, F_Cell_eq⟩ := c.defs _ (List.mem_of_getElem? (l := dps) (i := 4) rfl)
  obtain ⟨fd_Cell_neg, F_Cell_neg⟩ := c.defs _ (List.mem_of_getElem? (l := dps) (i := 5) rfl)
  obtain ⟨fd_Cell_label, F_Cell_label⟩ := c.defs _ (List.mem_of_getElem? (l := dps) (i := 6) rfl)
  obtain ⟨fd_Last_call, F_Last_call⟩ := c.defs _ (List.mem_of_getElem? (l := dps) (i := 7) rfl)
  obtain ⟨fd_Last_eq, F_Last_eq⟩ := c.defs _ (List.mem_of_getElem? (l := dps) (i := 8) rfl)
  obtain ⟨fd_Last_neg, F_Last_neg⟩ := c.defs _ (List.mem_of_getElem? (l := dps) (i := 9) rfl)
  obtain ⟨fd_Last_label, F_Last_label⟩ := c.defs _ (List.mem_of_getElem? (l := dps) (i := 10) rfl)
  obtain ⟨fd_Less_call, F_Less_call⟩ := c.defs _ (List.mem_of_getElem? (l := dps) (i := 11) rfl)
  obtain ⟨fd_Less_eq, F_Less_eq⟩ := c.defs _ (List.mem_of_getElem? (l := dps) (i := 12) rfl)
  obtain ⟨fd_Less_neg, F_Less_neg⟩ := c.defs _ (List.mem_of_getElem? (l := dps) (i := 13) rfl)
  obtain ⟨fd_Less_label, F_Less_label⟩ := c.defs _ (List.mem_of_getElem? (l := dps) (i := 14) rfl)
  obtain ⟨fd_Greater_call, F_Greater_call⟩ := c.defs _ (List.mem_of_getElem? (l := dps) (i := 15) rfl)
  obtain ⟨fd_Greater_eq, F_Greater_eq⟩ := c.defs _ (List.mem_of_getElem? (l := dps) (i := 16) rfl)
  obtain ⟨fd_Greater_neg, F_Greater_neg⟩ := c.defs _ (List.mem_of_getElem? (l := dps) (i := 17) rfl)
  obtain ⟨fd_Greater_label, F_Greater_label⟩ := c.defs _ (List.mem_of_getElem? (l := dps) (i := 18) rfl)
  obtain ⟨fd_Near_init, F_Near_init⟩ := c.defs _ (List.mem_of_getElem? (l := dps) (i := 19) rfl)
  obtain ⟨fd_Near_call, F_Near_call⟩ := c.defs _ (List.mem_of_getElem? (l := dps) (i := 20) rfl)
  obtain ⟨fd_Near_eq, F_Near_eq⟩ := c.defs _ (List.mem_of_getElem? (l := dps) (i := 21) rfl)
  obtain ⟨fd_Near_neg, F_Near_neg⟩ := c.defs _ (List.mem_of_getElem? (l := dps) (i := 22) rfl)
  obtain ⟨fd_Near_label, F_Near_label⟩ := c.defs _ (List.mem_of_getElem? (l := dps) (i := 23) rfl)
  obtain ⟨fd__law_random, F__law_random⟩ := c.defs _ (List.mem_of_getElem? (l := dps) (i := 24) rfl)
  obtain ⟨fd__law_below, F__law_below⟩ := c.defs _ (List.mem_of_getElem? (l := dps) (i := 25) rfl)
  obtain ⟨fd__law_row, F__law_row⟩ := c.defs _ (List.mem_of_getElem? (l := dps) (i := 26) rfl)
  obtain ⟨fd__law_equal, F__law_equal⟩ := c.defs _ (List.mem_of_getElem? (l := dps) (i := 27) rfl)
  obtain ⟨fd__law_kept, F__law_kept⟩ := c.defs _ (List.mem_of_getElem? (l := dps) (i := 28) rfl)
  obtain ⟨fd__law_error_of, F__law_error_of⟩ := c.defs _ (List.mem_of_getElem? (l := dps) (i := 29) rfl)
  obtain ⟨fd_law, F_law⟩ := c.defs _ (List.mem_of_getElem? (l := dps) (i := 30) rfl)
  obtain ⟨t_LIMIT, c_LIMIT⟩ := He.int_ok X G (c.fact _ (List.mem_of_getElem? (l := fxs) (i := 46) rfl))
  have e := hfa.symm.trans (He.glo_ok X G (c.fact _ (List.mem_of_getElem? (l := fxs) (i := 29) rfl)))
  cases e
  have b_is_within := F_is_within.binds (ps := ["value", "least", "most"]) fun _ _ _ _ _ _ us hl => match us, hl with | [_, _, _], _ => rfl
  have b_is_number := F_is_number.binds (ps := ["value"]) fun _ _ _ _ _ _ us hl => match us, hl with | [_], _ => rfl
  have b_check_number := F_check_number.binds (ps := ["value"]) fun _ _ _ _ _ _ us hl => match us, hl with | [_], _ => rfl
  have b_Cell_call := F_Cell_call.binds (ps := ["self", "held", "came"]) fun _ _ _ _ _ _ us hl => match us, hl with | [_, _, _], _ => rfl
  have b_Cell_eq := F_Cell_eq.binds (ps := ["self", "other"]) fun _ _ _ _ _ _ us hl => match us, hl with | [_, _], _ => rfl
  have b_Cell_neg := F_Cell_neg.binds (ps := ["self"]) fun _ _ _ _ _ _ us hl => match us, hl with | [_], _ => rfl
  have b_Cell_label := F_Cell_label.binds (ps := ["self"]) fun _ _ _ _ _ _ us hl => match us, hl with | [_], _ => rfl
  have b_Last_call := F_Last_call.binds (ps := ["self", "held", "came"]) fun _ _ _ _ _ _ us hl => match us, hl with | [_, _, _], _ => rfl
  have b_Last_eq := F_Last_eq.binds (ps := ["self", "other"]) fun _ _ _ _ _ _ us hl => match us, hl with | [_, _], _ => rfl
  have b_Last_neg := F_Last_neg.binds (ps := ["self"]) fun _ _ _ _ _ _ us hl => match us, hl with | [_], _ => rfl
  have b_Last_label := F_Last_label.binds (ps := ["self"]) fun _ _ _ _ _ _ us hl => match us, hl with | [_], _ => rfl
  have b_Less_call := F_Less_call.binds (ps := ["self", "held", "came"]) fun _ _ _ _ _ _ us hl => match us, hl with | [_, _, _], _ => rfl
  have b_Less_eq := F_Less_eq.binds (ps := ["self", "other"]) fun _ _ _ _ _ _ us hl => match us, hl with | [_, _], _ => rfl
  have b_Less_neg := F_Less_neg.binds (ps := ["self"]) fun _ _ _ _ _ _ us hl => match us, hl with | [_], _ => rfl
  have b_Less_label := F_Less_label.binds (ps := ["self"]) fun _ _ _ _ _ _ us hl => match us, hl with | [_], _ => rfl
  have b_Greater_call := F_Greater_call.binds (ps := ["self", "held", "came"]) fun _ _ _ _ _ _ us hl => match us, hl with | [_, _, _], _ => rfl
  have b_Greater_eq := F_Greater_eq.binds (ps := ["self", "other"]) fun _ _ _ _ _ _ us hl => match us, hl with | [_, _], _ => rfl
  have b_Greater_neg := F_Greater_neg.binds (ps := ["self"]) fun _ _ _ _ _ _ us hl => match us, hl with | [_], _ => rfl
  have b_Greater_label := F_Greater_label.binds (ps := ["self"]) fun _ _ _ _ _ _ us hl => match us, hl with | [_], _ => rfl
  have b_Near_init := F_Near_init.binds (ps := ["self", "mark"]) fun _ _ _ _ _ _ us hl => match us, hl with | [_, _], _ => rfl
  have b_Near_call := F_Near_call.binds (ps := ["self", "held", "came"]) fun _ _ _ _ _ _ us hl => match us, hl with | [_, _, _], _ => rfl
  have b_Near_eq := F_Near_eq.binds (ps := ["self", "other"]) fun _ _ _ _ _ _ us hl => match us, hl with | [_, _], _ => rfl
  have b_Near_neg := F_Near_neg.binds (ps := ["self"]) fun _ _ _ _ _ _ us hl => match us, hl with | [_], _ => rfl
  have b_Near_label := F_Near_label.binds (ps := ["self"]) fun _ _ _ _ _ _ us hl => match us, hl with | [_], _ => rfl
  have b__law_random := F__law_random.binds (ps := ["_law_script", "_law_salt"]) fun _ _ _ _ _ _ us hl => match us, hl with | [_, _], _ => rfl
  have b__law_below := F__law_below.binds (ps := ["_law_d", "_law_limit"]) fun _ _ _ _ _ _ us hl => match us, hl with | [_, _], _ => rfl
  have b__law_row := F__law_row.binds (ps := ["_law_d", "_law_most"]) fun _ _ _ _ _ _ us hl => match us, hl with | [_, _], _ => rfl
  have b__law_equal := F__law_equal.binds (ps := ["_law_actual", "_law_expected"]) fun _ _ _ _ _ _ us hl => match us, hl with | [_, _], _ => rfl
  have b__law_kept := F__law_kept.binds (ps := ["_law_label", "_law_held", "_law_came"]) fun _ _ _ _ _ _ us hl => match us, hl with | [_, _, _], _ => rfl
  have b__law_error_of := F__law_error_of.binds (ps := ["_law_call"]) fun _ _ _ _ _ _ us hl => match us, hl with | [_], _ => rfl
  have g_is_within := He.glo_ok X G (c.fact _ (List.mem_of_getElem? (l := fxs) (i := 20) rfl))
  have g_is_number := He.glo_ok X G (c.fact _ (List.mem_of_getElem? (l := fxs) (i := 21) rfl))
  have g_check_number := He.glo_ok X G (c.fact _ (List.mem_of_getElem? (l := fxs) (i := 22) rfl))
  have g__law_random := He.glo_ok X G (c.fact _ (List.mem_of_getElem? (l := fxs) (i := 23) rfl))
  have g__law_below := He.glo_ok X G (c.fact _ (List.mem_of_getElem? (l := fxs) (i := 24) rfl))
  have g__law_row := He.glo_ok X G (c.fact _ (List.mem_of_getElem? (l := fxs) (i := 25) rfl))
  have g__law_equal := He.glo_ok X G (c.fact _ (List.mem_of_getElem? (l := fxs) (i := 26) rfl))
  have g__law_kept := He.glo_ok X G (c.fact _ (List.mem_of_getElem? (l := fxs) (i := 27) rfl))
  have g__law_error_of := He.glo_ok X G (c.fact _ (List.mem_of_getElem? (l := fxs) (i := 28) rfl))
  have g_law := He.glo_ok X G (c.fact _ (List.mem_of_getElem? (l := fxs) (i := 29) rfl))
  refine ⟨fd_law, [He.cT K ("law", none)], spLaw K, fun p hp => ?_, fun p hp => ?_, fun p hp => ?_, fun s u => ?_, fun H a ns hl _ hT hS => ?_, fun base _ _ TB => ?_⟩
  · rw [List.mem_singleton.mp hp]
    exact c.empty ("law", none) List.mem_cons_self
  · rw [List.mem_singleton.mp hp]
    exact c.out ("law", none) List.mem_cons_self
  · rw [List.mem_singleton.mp hp]
    exact PySem.W.codeHd_of_K X (c.hd ("law", none) List.mem_cons_self)
  · obtain ⟨⟨oc, od, kV, doc, pm, an, cdv, ct, osl, e, _⟩, _⟩ := F_law
    rw [e]
    exact .of_eq rfl
  · exact ⟨a, ns, rfl, hS, hl, hT _ List.mem_cons_self, fun _ => rfl⟩
  · have LB : LabelsOk PySem.Challenge.rw_siftchain_k01_cells_and_labels.prog w K mg base 1 := by
      intro k
      cases k with
      | first => exact ⟨_, _, ok_Cell_label F_Cell_label TC, b_Cell_label⟩
      | last => exact ⟨_, _, ok_Last_label F_Last_label TC, b_Last_label⟩
      | less => exact ⟨_, _, ok_Less_label F_Less_label TC, b_Less_label⟩
      | greater => exact ⟨_, _, ok_Greater_label F_Greater_label TC, b_Greater_label⟩
      | near => exact ⟨_, _, ok_Near_label F_Near_label TC, b_Near_label⟩
    have GI := ok_within (P := PySem.Challenge.rw_siftchain_k01_cells_and_labels.prog) (w := w) (base := base) F_is_within B
    have GW := ok_number (P := PySem.Challenge.rw_siftchain_k01_cells_and_labels.prog) (w := w) (base := base) F_is_number F_is_within B g_is_within c_LIMIT
    have GCN := ok_checknum F_check_number GW b_is_number F_is_number.kp g_is_number E0_InvalidNumber
    have GN := ok_ninit F_Near_init GCN b_check_number F_check_number.kp g_check_number TC
    have CO : CellsOk PySem.Challenge.rw_siftchain_k01_cells_and_labels.prog w K mg base 6 := by
      refine ⟨TC, fun k => ?_, fun k => ?_, fun k => ?_⟩
      · cases k with
        | first => exact (fnR_of (ok_Cell_call F_Cell_call B TC) b_Cell_call).mono (by decide)
        | last => exact (fnR_of (ok_Last_call F_Last_call B TC) b_Last_call).mono (by decide)
        | less => exact (fnR_of (ok_Less_call F_Less_call B TC) b_Less_call).mono (by decide)
        | greater => exact (fnR_of (ok_Greater_call F_Greater_call B TC) b_Greater_call).mono (by decide)
        | near => exact (fnR_of (ok_Near_call F_Near_call B TC) b_Near_call).mono (by decide)
      · cases k with
        | first => exact (fnR_of (ok_Cell_eq F_Cell_eq B TC LB) b_Cell_eq).mono (by decide)
        | last => exact (fnR_of (ok_Last_eq F_Last_eq B TC LB) b_Last_eq).mono (by decide)
        | less => exact (fnR_of (ok_Less_eq F_Less_eq B TC LB) b_Less_eq).mono (by decide)
        | greater => exact (fnR_of (ok_Greater_eq F_Greater_eq B TC LB) b_Greater_eq).mono (by decide)
        | near => exact (fnR_of (ok_Near_eq F_Near_eq B TC LB) b_Near_eq).mono (by decide)
      · cases k with
        | first => exact (fnR_of (ok_Cell_neg F_Cell_neg TC) b_Cell_neg).mono (by decide)
        | last => exact (fnR_of (ok_Last_neg F_Last_neg TC) b_Last_neg).mono (by decide)
        | less => exact (fnR_of (ok_Less_neg F_Less_neg TC) b_Less_neg).mono (by decide)
        | greater => exact (fnR_of (ok_Greater_neg F_Greater_neg TC) b_Greater_neg).mono (by decide)
        | near => exact (fnR_of (ok_Near_neg F_Near_neg TC GN b_Near_init) b_Near_neg).mono (by decide)
    have GB := ok_below (P := PySem.Challenge.rw_siftchain_k01_cells_and_labels.prog) (w := w) (base := base) F__law_below B
    have GR := ok_random (P := PySem.Challenge.rw_siftchain_k01_cells_and_labels.prog) (w := w) (base := base) F__law_random B
    have GRw := ok_row F__law_row B GB b__law_below F__law_below.kp g__law_below
    have GK := ok_kept (P := PySem.Challenge.rw_siftchain_k01_cells_and_labels.prog) (w := w) (base := base) F__law_kept B
    have GE := ok_equal (P := PySem.Challenge.rw_siftchain_k01_cells_and_labels.prog) (w := w) (base := base) F__law_equal B g__law_equal 3
    have ET : ∀ e ∈ [Er.number], ErrT K e := fun e he => by
      rw [List.mem_singleton.mp he]
      exact mkErrT_number c
    exact ok_law F_law rfl B TC LB CO ER ET GR b__law_random F__law_random.kp g__law_random GB b__law_below F__law_below.kp g__law_below GN b_Near_init
      GRw b__law_row F__law_row.kp g__law_row (ok_equal F__law_equal B g__law_equal 2) b__law_equal F__law_equal.kp g__law_equal
      GK b__law_kept F__law_kept.kp g__law_kept ⟨_, F__law_error_of⟩ g__law_error_of (TB _ List.mem_cons_self)
end SC
open PySem PySem.W PySem.Calls PyProof.Rows
set_option maxRecDepth 100000 in
set_option maxHeartbeats 0 in
theorem PySem.Challenge.cw_siftchain_k01_cells_and_labels_holds : PySem.Challenge.rw_siftchain_k01_cells_and_labels.Holds := by
  w_on; o_law
  refine HandSHeadRun.head_any (r := SC.R) (q := view SC.R.prog [30]) (H := SC.hk) (ob := SC.ob) (M := 12000) (loose := SC.loose) (d := HandSHeadRun.topDef SC.R.prog 30) (kwd := []) SC.ob_eq
    (by kernel_rfl) (fun s => by kernel_rfl) SC.run (by kernel_rfl) (by kernel_rfl) (by kernel_rfl) (by rfl) (by first | assumption | decide +kernel) (by decide +kernel) ⟨rfl, rfl, rfl, rfl, rfl, by decide +kernel⟩ ?hw ?hc
  case hw => w_witness2
  case hc =>
    refine LamX.walk_ofTsE (l := PySem.Challenge.rw_siftchain_k01_cells_and_labels) (n := 63) (k := 20) (x := "_law_script") (CX := fun _ => L2.CX0) rfl (by decide) (by kernel_rfl) ⟨rfl, by decide, by decide⟩ ?F (fun _ _ _ _ _ z => z)
    intro w mg fa h Y G hmg0
    obtain ⟨K, KX, c⟩ := Y
    have en : (HandSHeadRun.topDef SC.R.prog 30).name = ("law" : PySem.Str) := by kernel_rfl
    rw [en] at hmg0
    exact ⟨K, KX, SC.lawAt w K h mg fa KX G hmg0 c⟩
