import PyProof.Rows.All
import Wide.All
import OpenK.AllK
import Wide.FinOn
import KE.KStateDown
import KE.KMathGC
import KE.KTupSum
import KE.GoesEnum
import KE.KUnpackStar
import HandS.StrMore
import HandS.Zip
import HandS.ClsMeth
import HandS.Codes
import HandS.ForMost
import HandS.Exc
import HandS.TryOnly
import HandS.ExcOwn
import HandS.ExcValue
import HandS.WordsExc
import HandS.Defaults
import HandS.Property
import HandS.Conv
import HandS.Flow
import HandS.Wide
import HandS.IsInst
import HandS.TupAny
import HandS.Deep
import HandS.Evl
import HandS.Lambda
import HandS.EndTab
import HandS.HeadWalk
import HandS.GenList
import HandS.RevRange
import HandS.Gcd
import HandS.CallLocal
import HandS.TryMany
import HandS.SetKeys
import HandS.Star
import HandS.SortKw
import KE.DatumOrd
import PyProof.GenComp
import KE.HD3
import HandS.HeadEnd
import HandS.HeadHook1
import HandS.HeadHook2
import HandS.HeadHook4
import HandS.NestedK
import PySem.Challenge.RW_ticketwrap_k18_texts_of_halls
set_option Elab.async false
set_option linter.all false
set_option maxRecDepth 100000
set_option maxHeartbeats 4000000
/-! ### A. Rules and facts of our own -/
namespace Tk
open PySem PySem.Spec PyProof.Rows L2
section
variable {X : Cx}

/-! math.lcm, sum of a tuple -/
def rLcm : List V → Hp → VK → Prop := fun vs H Q => ∃ a b : Nat, vs = [.int a, .int b] ∧ a < 1000000 ∧ b < 1000000 ∧ Q (.int ((Nat.lcm a b : Nat) : Int)) H
theorem cr_lcm : CallR X (.builtin "math.lcm") rLcm := by
  intro pins s σ H vs us Q I r h
  obtain ⟨a, b, rfl, ha, hb, q⟩ := h
  obtain ⟨t, u, rfl⟩ := Vals.int2 r
  refine PySem.W.mc_lcm (by simp; omega) (by simp; omega) fun _ => ⟨.int _, H, I.tok _, ⟨_, rfl⟩, ?_⟩
  simpa using q
def rSumT (K : PySem.W.Frag) : List V → Hp → VK → Prop := fun vs H Q => ∃ (a : Addr) (ns : List Int), vs = [V.ref a] ∧ SqT K H a (ns.map V.int) ∧ Q (.int ns.sum) H
theorem istup_old {h : Heap} {t : Addr} {its : List Value} (p : IsTup h t its.toArray) : h.IsTuple t its.toArray := by
  obtain ⟨o, ho, hc, n, hd⟩ := p
  exact ⟨o, ho, hc, n, hd⟩
theorem cr_sumT (hc : X.calm = true) : CallR X (.builtin "sum") (rSumT X.K) := by
  intro pins s σ H vs us Q I r h
  obtain ⟨a, ns, rfl, hs, q⟩ := h
  obtain ⟨its, rv, hl, _⟩ := I.tuple hs
  rw [Vals.ref1 r]
  have hi := rv.ints
  obtain ⟨xs, hx⟩ := hi.allInts.items
  have hn : numsOf its.toArray.toList = ns := by rw [show its.toArray.toList = its from rfl, hi.numsOf]
  have ht := istup_old hl
  rw [hx] at ht hn
  rw [nums_intItems] at hn
  refine PySem.W.ktm_sumG (I.ok.hd hc) ht fun h' tk t' hk => ?_
  rw [preSum_eq, List.take_of_length_le (by simp), hn]
  exact ⟨.int _, H, I.kept hk, ⟨_, rfl⟩, q⟩
/-- f(e, ..), f a name for a built-in function of a module -/
theorem pfun {x : Str} {p pos : Pos} {e : Expr} {es : List Expr} {t : TA} {id : String} {r : List V → Hp → VK → Prop} (hc : CallR X (.builtin id) r) (hg : Gl X x) (hm : X.mg x = some (.builtin id)) (ha : PA X (e :: es) t) (hdb : (x == ("__debug__" : Str)) = false := by decide)
    (he : starEach (e :: es) X.env = (false, eval e X.env) :: starEach es X.env := by rfl) (hpl : (backTo pos (starEach es X.env)).any (·.1) = false := by rfl) : PE X (.Call (.Name x p) (e :: es) [] pos) (tCB r t) :=
  ⟨fun pins s σ H _ I h => wpAny_Call_Name_kw (ld_glob I hg hm (PyProof.Rows.callWith_builtin1 (thn (ha.run pos pins s σ H _ I h) fun us s1 ⟨vs, H1, I1, r1, q1⟩ => hc pins s1 σ H1 vs us _ I1 r1 q1) he hpl) hdb)⟩

/-! a comprehension within a comprehension -/
theorem look_relabel {env : Env} : ∀ {names : List (Str × NameKind)} {x : Str}, names.lookup x = some .cell ∨ names.lookup x = some .free →
    (names.map fun (n, k) => if (k == NameKind.free && env.scope.kind == .function && env.kindOf n == some .cell) then (n, NameKind.cell) else (n, k)).lookup x = some .cell ∨
    (names.map fun (n, k) => if (k == NameKind.free && env.scope.kind == .function && env.kindOf n == some .cell) then (n, NameKind.cell) else (n, k)).lookup x = some .free
  | [], x, h => by rcases h with h | h <;> simp at h
  | (n, k) :: r, x, h => by
    have ih := @look_relabel env r x
    show List.lookup x ((if (k == NameKind.free && env.scope.kind == .function && env.kindOf n == some .cell) = true then (n, NameKind.cell) else (n, k)) :: _) = _ ∨ List.lookup x ((if (k == NameKind.free && env.scope.kind == .function && env.kindOf n == some .cell) = true then (n, NameKind.cell) else (n, k)) :: _) = _
    cases hx : x == n with
    | true =>
      simp only [List.lookup_cons, hx] at h
      by_cases hc : (k == NameKind.free && env.scope.kind == .function && env.kindOf n == some .cell) = true
      · rw [if_pos hc]
        simp [List.lookup_cons, hx]
      · rw [if_neg hc]
        simp only [List.lookup_cons, hx]
        exact h
    | false =>
      simp only [List.lookup_cons, hx] at h
      by_cases hc : (k == NameKind.free && env.scope.kind == .function && env.kindOf n == some .cell) = true
      · rw [if_pos hc]; simp only [List.lookup_cons, hx]; exact ih h
      · rw [if_neg hc]; simp only [List.lookup_cons, hx]; exact ih h
theorem blkRe {N : List Str} {sc scope : Scope} {own : List (Str × Nat)} {env : Env} (h : BlkOk N sc scope own) : BlkOk N (relabel sc env) scope own :=
  ⟨h.kind, h.uniq, h.ix, fun y hy e => look_relabel (h.free y hy e), h.own⟩
/-! a def that stands at a and keeps a promise; its calls -/
structure OkF (P : Program) (w : World) (K : PySem.W.Frag) (mg : Str → Option Value) (base : Heap) (k : Nat) (a : Addr) (ps : List Str) (sp : Sp) : Prop where
  ex : ∃ fd, FnOk P w K mg base (L2.CX P w) k a fd ps sp ∧ Binds K fd ps []
  kp : PySem.W.keepIn K (.ref a) = true
theorem OkF.one {P : Program} {w : World} {K : PySem.W.Frag} {mg : Str → Option Value} {base : Heap} {k : Nat} {a : Addr} {ps : List Str} {sp : Sp} (O : OkF P w K mg base k a ps sp) : FnOk P w K mg base (L2.CX P w) k a (Classical.choose O.ex) ps sp := (Classical.choose_spec O.ex).1
theorem OkF.two {P : Program} {w : World} {K : PySem.W.Frag} {mg : Str → Option Value} {base : Heap} {k : Nat} {a : Addr} {ps : List Str} {sp : Sp} (O : OkF P w K mg base k a ps sp) : Binds K (Classical.choose O.ex) ps [] := (Classical.choose_spec O.ex).2
variable {x : Str} {pos : Pos}
/-- a constant of the module -/
theorem pe_gint {v : Int} (hg : Gl X x) (h : ∃ t, X.mg x = some (.int v t)) (hd : (x == ("__debug__" : Str)) = false := by decide) : PE X (.Name x pos) (tC (.int v)) := by
  obtain ⟨t, h⟩ := h
  exact pe_glob hg h ⟨t, rfl⟩ hd
end

/-! facts of the top, read by a Hook -/
abbrev FnP (K : PySem.W.Frag) (x qual : Str) (st : Stmt) (f : Addr) (fd : FuncData) : Prop := FunD K x qual (defArgs st) (defBody st) (defScope st) [] [] f fd
/-- where a def stands, and the def -/
structure Dp where
  at_ : PySem.W.Frag → Addr
  d : He.DefD
def look (K : PySem.W.Frag) (a : Addr) : He.FnW := match K.lookup a with
  | some o => (match o.data with
    | .func fd => some (fd.name, fd.qualname, fd.params, fd.body, fd.scope, fd.globals, fd.closure, fd.builtins)
    | _ => none)
  | none => none
def okA (K : PySem.W.Frag) (a : Addr) (d : He.DefD) : Bool := PySem.W.keepIn K (.ref a) && (match K.lookup a with
  | some o => (match o.data with
    | .func fd => PySem.W.codeIn K fd.code d.qual && (He.dflB K fd.defaults (d.dvs K) && He.kwdB K fd.kwdefaults (d.kws K))
    | _ => false)
  | none => false)
theorem fun_at {K : PySem.W.Frag} {a : Addr} {d : He.DefD} (e : look K a = d.val) (c : okA K a d = true) : ∃ fd, FunD K d.name d.qual d.params d.body d.scope (d.dvs K) (d.kws K) a fd := by
  obtain ⟨kp, c2⟩ := He.ba c
  unfold look at e
  cases q : K.lookup a with
  | none => rw [q] at c2; cases c2
  | some o =>
    obtain ⟨oc, od, dt, osl⟩ := o
    rw [q] at c2 e
    cases dt with
    | func fd =>
      obtain ⟨n1, n2, n3, n4, n5, n6, n7, n8, n9, n10, n11, n12, n13, n14, n15⟩ := fd
      have z : (some (n1, n2, n3, n4, n5, n6, n7, n15) : He.FnW) = d.val := e
      unfold He.DefD.val at z
      simp only [Option.some.injEq, Prod.mk.injEq] at z
      obtain ⟨rfl, rfl, rfl, rfl, rfl, rfl, rfl, rfl⟩ := z
      obtain ⟨c3, c4⟩ := He.ba (show (PySem.W.codeIn K n13 d.qual && (He.dflB K n8 (d.dvs K) && He.kwdB K n9 (d.kws K))) = true from c2)
      obtain ⟨c5, c6⟩ := He.ba c4
      exact ⟨_, ⟨oc, od, n8, n9, n10, n11, n12, n13, n14, osl, rfl, q, c3, He.dflB_ok c5, He.kwdB_ok c6⟩, kp⟩
    | _ => cases c2
abbrev Al : Type := Bool × List He.FnW
def obsT (fa : List (PySem.W.Frag → Bool)) (fn : List Dp) (K : PySem.W.Frag) : Al := ((fa.all fun f => f K) && fn.all fun d => okA K (d.at_ K) d.d, fn.map fun d => look K (d.at_ K))
def valT (fn : List Dp) : Al := (true, fn.map fun d => d.d.val)
def Says (fa : List (PySem.W.Frag → Bool)) (fn : List Dp) (K : PySem.W.Frag) : Prop := obsT fa fn K = valT fn
/-! defs that make functions: their code objects, the tables of these -/
def codeAt (K : PySem.W.Frag) (a : Addr) : Addr := match K.lookup a with
  | some ⟨_, _, .func fd, _⟩ => (match fd.code with
    | .ref c => c
    | _ => 0)
  | _ => 0
def ctAt (K : PySem.W.Frag) (a : Addr) : Addr × Addr := (codeAt K a, He.tabOf K (codeAt K a))
theorem codeAt_eq {K : PySem.W.Frag} {a : Addr} {oc : Value} {od : Option Addr} {osl : Array (Option Value)} {fd : FuncData} {cd : Value} {q : Str} (lk : K.lookup a = some ⟨oc, od, .func fd, osl⟩) (e : fd.code = cd) (h : PySem.W.codeIn K cd q = true) : cd = .ref (codeAt K a) := by
  obtain ⟨c, rfl⟩ := He.codeIn_ref h
  unfold codeAt
  rw [lk]
  show Value.ref c = .ref (match fd.code with | .ref c => c | _ => 0)
  rw [e]
abbrev Mk_ : Type := PySem.W.Frag → Addr
/-- what is looked at: what is reached from the module, and the notes on builtins -/
def asX (g : Addr → Option Obj) (n : Nat) : List Addr := cStatics :: He.asD g n
structure Tells (tf : List Mk_) (h : Heap) (K : PySem.W.Frag) : Prop where
  hd : ∀ p ∈ tf, PySem.W.codeHdIn K (ctAt K (p K)).1 (ctAt K (p K)).2 = true
  out : ∀ p ∈ tf, K.lookup (ctAt K (p K)).2 = none
  empty : ∀ p ∈ tf, h.get? (ctAt K (p K)).2 = some { cls := .none, data := .fields #[] }
  apart : (tf.map fun p => (ctAt K (p K)).2).Nodup
def tabsB (g : Addr → Option Obj) (tf : List Mk_) (K : PySem.W.Frag) : Bool := (tf.all fun p => PySem.W.codeHdIn K (ctAt K (p K)).1 (ctAt K (p K)).2 && (match g (ctAt K (p K)).2 with
  | some o => He.emptyTab o
  | none => false)) && decide ((tf.map fun p => (ctAt K (p K)).2).Nodup)
abbrev AlX : Type := Al × Bool
def obsG (n : Nat) (fa : List (PySem.W.Frag → Bool)) (fn : List Dp) (tf : List Mk_) (g : Addr → Option Obj) : AlX := (obsT fa fn (He.frT g (asX g n)), tabsB g tf (He.frT g (asX g n)))
theorem tells_of {n : Nat} {tf : List Mk_} {h : Heap} (e : tabsB h.get? tf (He.frT h.get? (asX h.get? n)) = true) : Tells tf h (He.frT h.get? (asX h.get? n)) := by
  obtain ⟨h2, h5⟩ := He.ba e
  have key : ∀ p ∈ tf, PySem.W.codeHdIn (He.frT h.get? (asX h.get? n)) (ctAt (He.frT h.get? (asX h.get? n)) (p (He.frT h.get? (asX h.get? n)))).1 (ctAt (He.frT h.get? (asX h.get? n)) (p (He.frT h.get? (asX h.get? n)))).2 = true ∧
      ∃ o, h.get? (ctAt (He.frT h.get? (asX h.get? n)) (p (He.frT h.get? (asX h.get? n)))).2 = some o ∧ He.emptyTab o = true := fun p hp => by
    obtain ⟨h3, h4⟩ := He.ba (List.all_eq_true.mp h2 p hp)
    refine ⟨h3, ?_⟩
    generalize h.get? (ctAt (He.frT h.get? (asX h.get? n)) (p (He.frT h.get? (asX h.get? n)))).2 = z at h4
    cases z with
    | none => cases h4
    | some o => exact ⟨o, rfl, h4⟩
  exact ⟨fun p hp => (key p hp).1, fun p hp => by
    obtain ⟨_, o, q, z⟩ := key p hp
    exact He.frT_none q z, fun p hp => by
    obtain ⟨_, o, q, z⟩ := key p hp
    rw [q, He.emptyTab_eq z], of_decide_eq_true h5⟩
def hook (n : Nat) (fa : List (PySem.W.Frag → Bool)) (fn : List Dp) (tf : List Mk_) : PySem.W.Hook where
  α := AlX
  obs := fun s => obsG n fa fn tf s.heap.get?
  val := fun _ => (valT fn, true)
  says := fun _ h => ∃ K : PySem.W.Frag, K.In h ∧ Says fa fn K ∧ Tells tf h K
  of := fun _ _ e => ⟨_, He.frT_in, congrArg (fun z : AlX => z.1) e, tells_of (congrArg (fun z : AlX => z.2) e)⟩
  keeps := fun _ _ _ ⟨K, hK, c, t⟩ q => ⟨K, PySem.W.Frag.In.keeps hK q, c, t.hd, t.out, fun p hp => q _ _ (t.empty p hp), t.apart⟩
theorem obsG_eq {n : Nat} {fa : List (PySem.W.Frag → Bool)} {fn : List Dp} {tf : List Mk_} {g : Addr → Option Obj} {s : Shared} (h : ∀ a, g a = s.heap.get? a) : obsG n fa fn tf g = (hook n fa fn tf).obs s :=
  congrArg (obsG n fa fn tf) (funext h)
section
variable {fa : List (PySem.W.Frag → Bool)} {fn : List Dp} {K : PySem.W.Frag}
theorem Says.fact (c : Says fa fn K) (i : Nat) {f : PySem.W.Frag → Bool} (h : fa[i]? = some f := by rfl) : f K = true :=
  List.all_eq_true.mp (He.ba (show ((fa.all fun f => f K) && fn.all fun d => okA K (d.at_ K) d.d) = true from congrArg (fun z : Al => z.1) c)).1 f (List.mem_of_getElem? h)
theorem Says.def_ (c : Says fa fn K) (i : Nat) {d : Dp} (h : fn[i]? = some d := by rfl) : (∃ fd, FunD K d.d.name d.d.qual d.d.params d.d.body d.d.scope (d.d.dvs K) (d.d.kws K) (d.at_ K) fd) ∧ PySem.W.keepIn K (.ref (d.at_ K)) = true := by
  have c2 := (He.ba (show ((fa.all fun f => f K) && fn.all fun d => okA K (d.at_ K) d.d) = true from congrArg (fun z : Al => z.1) c)).2
  have c3 := List.all_eq_true.mp c2 d (List.mem_of_getElem? h)
  have e : (fn.map fun d => look K (d.at_ K))[i]? = (fn.map fun d => d.d.val)[i]? := congrArg (fun z : Al => z.2[i]?) c
  rw [List.getElem?_map, List.getElem?_map, h] at e
  exact ⟨fun_at (Option.some.inj e) c3, (He.ba c3).1⟩
end
/-! single facts -/
/-- where the property f of the class C has its getter -/
def propAt (K : PySem.W.Frag) (C : Addr) (f : Str) : Addr := match PySem.W.findIn K (.ref C) f with
  | some (some (.ref p)) => p
  | _ => 0
def getAt (K : PySem.W.Frag) (C : Addr) (f : Str) : Addr := match PySem.W.recIn K (propAt K C f) "property" with
  | some (.ref g :: _) => g
  | _ => 0
def propB (K : PySem.W.Frag) (C : Addr) (f : Str) : Bool := decide (PySem.W.findIn K (.ref C) f = some (some (.ref (propAt K C f)))) && (decide (PySem.W.specialIn K (.ref (propAt K C f)) "__get__" = some (some (.builtin "property.__get__"))) &&
  (decide (PySem.W.takesIn K (.ref (propAt K C f)) = some true) && (match PySem.W.recIn K (propAt K C f) "property" with
    | some (v :: _) => decide (v = .ref (getAt K C f))
    | _ => false)))
theorem prop_ok {K : PySem.W.Frag} {C : Addr} {f : Str} (h : propB K C f = true) : PropOf K C f (propAt K C f) (getAt K C f) := by
  obtain ⟨h1, h⟩ := He.ba h
  obtain ⟨h2, h⟩ := He.ba h
  obtain ⟨h3, h4⟩ := He.ba h
  refine ⟨of_decide_eq_true h1, of_decide_eq_true h2, of_decide_eq_true h3, ?_⟩
  cases e : PySem.W.recIn K (propAt K C f) "property" with
  | none => rw [e] at h4; cases h4
  | some l =>
    rw [e] at h4
    cases l with
    | nil => cases h4
    | cons v r => exact ⟨r, by rw [show v = _ from of_decide_eq_true h4]⟩
def bltB (x : Str) (id : String) (K : PySem.W.Frag) : Bool := decide (PySem.W.nsIn K mainGlobals x = some (some (.builtin id)))
theorem blt_ok {K : PySem.W.Frag} {h : Heap} {mg : Str → Option Value} (X : K.In h) (G : h.Ns mainGlobals mg) {x : Str} {id : String} (c : bltB x id K = true) : mg x = some (.builtin id) := PySem.W.mg_of X G (of_decide_eq_true c)
def fcB (f : He.Fa) (K : PySem.W.Frag) : Bool := f.ok K

/-- the class method m of the class C: its record, its def -/
def cmAt (K : PySem.W.Frag) (C : Addr) (m : Str) : Addr := match PySem.W.findIn K (.ref C) m with
  | some (some (.ref p)) => p
  | _ => 0
def cmFn (K : PySem.W.Frag) (C : Addr) (m : Str) : Addr := match PySem.W.recIn K (cmAt K C m) "classmethod" with
  | some (.ref g :: _) => g
  | _ => 0
def cmB (K : PySem.W.Frag) (C : Addr) (m : Str) : Bool := PySem.W.readsIn K C (.type "type") && (decide (PySem.W.specialIn K (.ref C) "__getattribute__" = some (some (.builtin "type.__getattribute__"))) && ((match PySem.W.findCls K (.ref C) (.type "type") m with
    | some (.get a b c d) => decide (a = .builtin "classmethod.__get__") && (decide (b = .ref (cmAt K C m)) && (decide (c = .none) && decide (d = .ref C)))
    | _ => false) && ((match PySem.W.recIn K (cmAt K C m) "classmethod" with
    | some (v :: _) => decide (v = .ref (cmFn K C m))
    | _ => false) && PySem.W.fnIn K (cmFn K C m))))
theorem cm_ok {K : PySem.W.Frag} {C : Addr} {m : Str} (h : cmB K C m = true) : ClX.CRead K C (.type "type") ∧ ClX.CMet K C (.type "type") m (cmAt K C m) (cmFn K C m) := by
  obtain ⟨h1, h⟩ := He.ba h
  obtain ⟨h2, h⟩ := He.ba h
  obtain ⟨h3, h⟩ := He.ba h
  obtain ⟨h4, h5⟩ := He.ba h
  refine ⟨⟨h1, of_decide_eq_true h2⟩, ?_, ?_, h5⟩
  · cases e : PySem.W.findCls K (.ref C) (.type "type") m with
    | none => rw [e] at h3; cases h3
    | some z =>
      rw [e] at h3
      cases z with
      | get a b c d =>
        obtain ⟨z1, z⟩ := He.ba (show (decide (a = .builtin "classmethod.__get__") && (decide (b = .ref (cmAt K C m)) && (decide (c = .none) && decide (d = .ref C)))) = true from h3)
        obtain ⟨z2, z⟩ := He.ba z
        obtain ⟨z3, z4⟩ := He.ba z
        rw [of_decide_eq_true z1, of_decide_eq_true z2, of_decide_eq_true z3, of_decide_eq_true z4]
      | _ => cases h3
  · cases e : PySem.W.recIn K (cmAt K C m) "classmethod" with
    | none => rw [e] at h4; cases h4
    | some l =>
      rw [e] at h4
      cases l with
      | nil => cases h4
      | cons v r => exact ⟨r, by rw [show v = _ from of_decide_eq_true h4]⟩
/-- a tuple of texts of the module -/
def strsB : List Value → List Str → Bool
  | [], [] => true
  | .str x _ :: r, y :: s => decide (x = y) && strsB r s
  | _, _ => false
theorem strs_ok : ∀ {l : List Value} {ss : List Str}, strsB l ss = true → Vals (ss.map V.str) l
  | [], [], _ => .nil
  | [], _ :: _, h => by cases h
  | v :: r, ss, h => by
    cases v with
    | str x t =>
      cases ss with
      | nil => cases h
      | cons y s =>
        obtain ⟨h1, h2⟩ := He.ba (show (decide (x = y) && strsB r s) = true from h)
        rw [List.map_cons]
        exact .cons ⟨t, by rw [of_decide_eq_true h1]⟩ (strs_ok h2)
    | _ => cases h
def tupB (x : Str) (ss : List Str) (K : PySem.W.Frag) : Bool := match K.lookup (He.ga K x) with
  | some ⟨.type c, _, .seq its _, _⟩ => decide (c = "tuple") && (decide (its.size ≤ 1000) && strsB its.toList ss)
  | _ => false
theorem tup_ok {K : PySem.W.Frag} {x : Str} {ss : List Str} (h : tupB x ss K = true) (H : Hp) : SqT K H (He.ga K x) (ss.map V.str) := by
  unfold tupB at h
  cases q : K.lookup (He.ga K x) with
  | none => rw [q] at h; cases h
  | some o =>
    obtain ⟨oc, od, dt, osl⟩ := o
    rw [q] at h
    cases oc with
    | type c =>
      cases dt with
      | seq its n =>
        obtain ⟨h1, h⟩ := He.ba (show (decide (c = "tuple") && (decide (its.size ≤ 1000) && strsB its.toList ss)) = true from h)
        obtain ⟨h2, h3⟩ := He.ba h
        refine .inr ⟨_, its, n, q, congrArg Value.type (of_decide_eq_true h1), rfl, ?_, strs_ok h3⟩
        have := of_decide_eq_true h2
        rw [sizeLine_eq]
        omega
      | _ => cases h
    | _ => cases dt <;> cases h
/-- a place, as a value -/
abbrev vnI (i : Nat) : V := .int (i : Int)

/-! named readings -/
namespace Rd
def rJoin (K : PySem.W.Frag) : V → List V → Hp → VK → Prop := fun x xs H Q => ∃ a p, ∃ ys : List Str, x = .str a ∧ xs = [.ref p] ∧ (SqL K H p (ys.map V.str) ∨ SqT K H p (ys.map V.str)) ∧ (ys.map (·.length)).sum + ys.length * a.length ≤ 16777216 ∧ Q (.str (Txt.join a ys)) H
def rSplit : V → List V → Hp → VK → Prop := fun x xs H Q => ∃ a b, x = .str a ∧ xs = [.str b] ∧ (b.length == 0) = false ∧ a.length + 2 ≤ sizeLine ∧ rNewStrs (Txt.split a b) H Q
def rMax2 : List V → Hp → VK → Prop := fun xs H Q => ∃ i j, xs = [.int i, .int j] ∧ Q (.int (if j > i then j else i)) H
def rMin2 : List V → Hp → VK → Prop := fun xs H Q => ∃ i j, xs = [.int i, .int j] ∧ Q (.int (if j < i then j else i)) H
def rIsN : R2 := fun x y H Q => y = .non ∧ Q (.bl (decide (x = .non))) H
def rNotN : R2 := fun x y H Q => y = .non ∧ Q (.bl (!decide (x = .non))) H
def rLst (K : PySem.W.Frag) : List V → Hp → VK → Prop := fun xs H Q => ∃ p ys, xs = [.ref p] ∧ (SqL K H p ys ∨ SqT K H p ys) ∧ ∀ l, H l = none → Q (.ref l) (upd H l (.lst ys))
def rTpl (K : PySem.W.Frag) : List V → Hp → VK → Prop := fun xs H Q => ∃ p ys, xs = [.ref p] ∧ ((SqL K H p ys ∧ ∀ l, H l = none → Q (.ref l) (upd H l (.tup ys))) ∨ (SqT K H p ys ∧ Q (.ref p) H))
def rStrI : List V → Hp → VK → Prop := fun xs H Q => ∃ i : Int, xs = [.int i] ∧ i.natAbs.log2 < 1920 ∧ Q (.str (toString i)) H
def rAddS : R2 := fun x y H Q => ∃ i j, x = .str i ∧ y = .str j ∧ i.length + j.length ≤ sizeLine ∧ Q (.str (i ++ j)) H
def rLenStr : List V → Hp → VK → Prop := fun xs H Q => ∃ z, xs = [.str z] ∧ z.length ≤ sizeLine ∧ Q (.int z.length) H
end Rd
section
variable {X : Cx} {o e : Expr} {to te : TE} {K : PySem.W.Frag}
theorem starAK {e : Expr} {p : Pos} {es : List Expr} {te : TE} {t : TA} (he : PE X e te) (hr : PA X es t) (hK : X.K = K := by rfl) (hs : starEach (.Starred e p :: es) X.env = (true, eval e X.env) :: starEach es X.env := by rfl) : PA X (.Starred e p :: es) (StX.tStar K te t) := hK ▸ StX.pa_star he hr hs
theorem ixLK (hK : X.K = K := by rfl) : IxR X (rIxL K) := hK ▸ ix_list
theorem ixTK (hK : X.K = K := by rfl) : IxR X (rIxT K) := hK ▸ ix_tup
theorem ixSK (hK : X.K = K := by rfl) : IxR X (rIx K) := hK ▸ ix_seq
theorem lenK (hK : X.K = K := by rfl) : CallR X (.builtin "len") (Evl.rLenS K) := hK ▸ call_len_seq
theorem tplK (hK : X.K = K := by rfl) : CallR X (.type "tuple") (Rd.rTpl K) := hK ▸ call_tuple_of
theorem lstK (hK : X.K = K := by rfl) : CallR X (.type "list") (Rd.rLst K) := hK ▸ call_list_of
theorem slLK (hK : X.K = K := by rfl) : SlR X (rSlL K) := hK ▸ sl_list
theorem slAK (hK : X.K = K := by rfl) : SlR X (rSlA K) := hK ▸ sl_tupA
theorem eqDK (hu : X.A.units + 64 < cLine) (hK : X.K = K := by rfl) : OpR X (compareOp .Eq) (rEqD K) := hK ▸ op_eqD hu
theorem neDK (hu : X.A.units + 64 < cLine) (hK : X.K = K := by rfl) : OpR X (compareOp .NotEq) (rNeD K) := hK ▸ op_neD hu
theorem inK (hK : X.K = K := by rfl) : OpR X (compareOp .In) (rIn K false) := hK ▸ op_in_seq
theorem notInK (hK : X.K = K := by rfl) : OpR X (compareOp .NotIn) (rIn K true) := hK ▸ op_notIn_seq
theorem sumTK (hc : X.calm = true := by rfl) (hK : X.K = K := by rfl) : CallR X (.builtin "sum") (rSumT K) := hK ▸ cr_sumT hc
theorem sumLK (hc : X.calm = true := by rfl) (hK : X.K = K := by rfl) : CallR X (.builtin "sum") (rSum K) := hK ▸ cr_sum hc
theorem maxLK (hc : X.calm = true := by rfl) (hK : X.K = K := by rfl) : CallR X (.builtin "max") (rMax K) := hK ▸ cr_max hc
theorem minLK (hc : X.calm = true := by rfl) (hK : X.K = K := by rfl) : CallR X (.builtin "min") (rMin K) := hK ▸ cr_min hc
theorem allLK (hc : X.calm = true := by rfl) (hK : X.K = K := by rfl) : CallR X (.builtin "all") (rAll K) := hK ▸ cr_all hc
theorem isiK (hK : X.K = K := by rfl) : CallR X (.builtin "isinstance") (rIsi K) := hK ▸ call_isi
theorem catAK (hK : X.K = K := by rfl) : OpR X (binaryOp .Add) (rCatA K) := hK ▸ op_catA
theorem pi_listK {tg l : Expr} {tl : TE} (hl : PE X l tl) (hK : X.K = K := by rfl) : PI X tg l (iList K tl) := hK ▸ pi_list hl
theorem pi_tupK {tg l : Expr} {tl : TE} (hl : PE X l tl) (hK : X.K = K := by rfl) : PI X tg l (iTup K tl) := hK ▸ pi_tup hl
theorem pe_joinR {apos pos : Pos} (ho : PE X o to) (he : PE X e te) (hK : X.K = K := by rfl) (hs : starEach [e] X.env = [(false, eval e X.env)] := by rfl) (hbase : attributeBase o "join" X.env (eval o X.env) = eval o X.env := by rfl) (hline : (apos.endLine == pos.line) = true := by rfl) :
    PE X (.Call (.Attribute o "join" apos) [e] [] pos) (tM1 (Rd.rJoin K) to te) := by
  subst hK
  exact pe_join ho he hs hbase hline
theorem pe_splitR {apos pos : Pos} (ho : PE X o to) (he : PE X e te) (hs : starEach [e] X.env = [(false, eval e X.env)] := by rfl) (hbase : attributeBase o "split" X.env (eval o X.env) = eval o X.env := by rfl) (hline : (apos.endLine == pos.line) = true := by rfl) :
    PE X (.Call (.Attribute o "split" apos) [e] [] pos) (tM1 Rd.rSplit to te) := pe_split ho he hs hbase hline
end
/-! small words -/
theorem own_cx {X : Cx} {K : Value → Shared → Prop} {E₁ : Value → Shared → Prop} (hx : X.xe = fun e s' => wpAny (model X.prog X.w) X.A (leaving X.env e) (fun _ s'' => K e s'') E₁ s' := by rfl) : PassesOwn (model X.prog X.w) X.A X.env X.xe := passes_of hx
theorem FnP.okF {P : Program} {w : World} {K : PySem.W.Frag} {mg : Str → Option Value} {base : Heap} {x qual : Str} {st : Stmt} {f : Addr} {N ps : List Str} {k : Nat} {sp : Sp} (F : ∃ fd, FnP K x qual st f fd) (S : FnScope N ps (defScope st))
    (hb : ∀ (kV doc pm : Value) (an : Option Addr) (cdv ct : Value) (us : List Value), us.length = ps.length → bindArgs (PySem.W.fnOf x qual (defArgs st) (defBody st) (defScope st) .none kV doc pm an cdv ct) ⟨us, []⟩ = pure (ps.zip us))
    (len : ∀ vs H Q E, sp vs H Q E → vs.length = ps.length)
    (hbody : ∀ (cdv : Value) (A : Around) (outer : List Env) (s : Shared) (H : Hp) (vs : List V) (Q : VK) (E : XK), Room k (A.deeper (envOfC qual (defScope st) s.heap.objs.size f cdv)) → sp vs H Q E →
      ∃ t, PSs (cxOf (L2.CX P w) P w K mg base N qual (defScope st) f cdv A outer s H E) (defBody st) t ∧ t { nx := fun _ H' => Q .non H', rt := Q } (start N vs) H) : OkF P w K mg base (k + 1) f ps sp := by
  obtain ⟨fd, F⟩ := F
  exact ⟨⟨fd, F.ok S len hbody, F.bindsN hb⟩, F.kp⟩
/-- the law's own def: nothing leaves it -/
theorem okLaw {P : Program} {w : World} {K : PySem.W.Frag} {mg : Str → Option Value} {base : Heap} {x qual : Str} {st : Stmt} {f : Addr} {fd : FuncData} {N ps : List Str} {k : Nat} {sp : Sp} (F : FnP K x qual st f fd) (S : FnScope N ps (defScope st)) (len : ∀ vs H Q E, sp vs H Q E → vs.length = ps.length)
    (hbody : ∀ (cdv : Value) (A : Around) (outer : List Env) (s : Shared) (H : Hp) (vs : List V) (Q : VK) (E : XK), Room k (A.deeper (envOfC qual (defScope st) s.heap.objs.size f cdv)) → sp vs H Q E →
      ∃ t, PSs (cxOf CX0 P w K mg base N qual (defScope st) f cdv A outer s H E).nox (defBody st) t ∧ t { nx := fun _ H' => Q .non H', rt := Q } (start N vs) H) : FnOk P w K mg base CX0 (k + 1) f fd ps sp :=
  F.ok S len fun cdv A outer s H vs Q E hr h => by
    obtain ⟨t, h1, h2⟩ := hbody cdv A outer s H vs Q E hr h
    exact ⟨t, h1.nox, h2⟩
def spLaw (K : PySem.W.Frag) : Sp := fun vs H Q _ => ∃ (a : Addr) (ns : List Int), vs = [.ref a] ∧ SqL K H a (ns.map V.int) ∧ ns.length ≤ 63 ∧ ∀ H', Q (.bl true) H'
/-- the same, the tables of the defs that make functions there -/
def spLawT (K : PySem.W.Frag) (T : List (Addr × Str)) : Sp := fun vs H Q _ => ∃ (a : Addr) (ns : List Int), vs = [.ref a] ∧ SqL K H a (ns.map V.int) ∧ ns.length ≤ 63 ∧ LamX.Tabs T H ∧ ∀ H', Q (.bl true) H'
/-- all but what stands at d is as it was -/
def But (d : Addr) (H H' : Hp) : Prop := ∀ b o, b ≠ d → H b = some o → H' b = some o
end Tk
/-! ### B. The text by places -/
namespace Tk
open PySem PySem.Spec PyProof.Rows L2
def top (i : Nat) : Stmt := PySem.Challenge.pw_ticketwrap_k18_texts_of_halls.main.body.getD i (.Pass ⟨0, 0, 0, 0⟩)
abbrev s_is_integer_within : Stmt := top 9
abbrev N_is_integer_within : List Str := ["value", "low", "high"]
theorem sc_is_integer_within : FnScope N_is_integer_within ["value", "low", "high"] (defScope s_is_integer_within) := ⟨rfl, rfl, rfl, by decide +kernel, rfl, by decide +kernel, by decide +kernel⟩
abbrev s_write_line : Stmt := top 16
abbrev N_write_line : List Str := ["word", "numbers", "number"]
theorem sc_write_line : FnScope N_write_line ["word", "numbers"] (defScope s_write_line) := ⟨rfl, rfl, rfl, by decide +kernel, rfl, by decide +kernel, by decide +kernel⟩
abbrev s_is_number : Stmt := top 17
abbrev N_is_number : List Str := ["word"]
theorem sc_is_number : FnScope N_is_number ["word"] (defScope s_is_number) := ⟨rfl, rfl, rfl, by decide +kernel, rfl, by decide +kernel, by decide +kernel⟩
abbrev s_read_line : Stmt := top 18
abbrev N_read_line : List Str := ["line", "word", "rest", "text"]
theorem sc_read_line : FnScope N_read_line ["line"] (defScope s_read_line) := ⟨rfl, rfl, rfl, by decide +kernel, rfl, by decide +kernel, by decide +kernel⟩
abbrev s_read_hall_lines : Stmt := top 19
abbrev N_read_hall_lines : List Str := ["lines", "found", "at", "expected", "word", "numbers"]
theorem sc_read_hall_lines : FnScope N_read_hall_lines ["lines"] (defScope s_read_hall_lines) := ⟨rfl, rfl, rfl, by decide +kernel, rfl, by decide +kernel, by decide +kernel⟩
abbrev s_first_invalid_item : Stmt := top 26
abbrev N_first_invalid_item : List Str := ["pattern", "index", "item"]
theorem sc_first_invalid_item : FnScope N_first_invalid_item ["pattern"] (defScope s_first_invalid_item) := ⟨rfl, rfl, rfl, by decide +kernel, rfl, by decide +kernel, by decide +kernel⟩
abbrev s_check_pattern : Stmt := top 27
abbrev N_check_pattern : List Str := ["part", "pattern", "index"]
theorem sc_check_pattern : FnScope N_check_pattern ["part", "pattern"] (defScope s_check_pattern) := ⟨rfl, rfl, rfl, by decide +kernel, rfl, by decide +kernel, by decide +kernel⟩
abbrev s_check_hall : Stmt := top 28
abbrev N_check_hall : List Str := ["modulus", "takes", "calls", "lateness"]
theorem sc_check_hall : FnScope N_check_hall ["modulus", "takes", "calls", "lateness"] (defScope s_check_hall) := ⟨rfl, rfl, rfl, by decide +kernel, rfl, by decide +kernel, by decide +kernel⟩
abbrev s_count_calls : Stmt := top 29
abbrev N_count_calls : List Str := ["takes", "calls", "ticks", "called", "waiting", "tick", "now"]
theorem sc_count_calls : FnScope N_count_calls ["takes", "calls", "ticks"] (defScope s_count_calls) := ⟨rfl, rfl, rfl, by decide +kernel, rfl, by decide +kernel, by decide +kernel⟩
abbrev s_init : Stmt := inClass (top 30) 0
abbrev N_init : List Str := ["self", "modulus", "takes", "calls", "lateness"]
theorem sc_init : FnScope N_init ["self", "modulus", "takes", "calls", "lateness"] (defScope s_init) := ⟨rfl, rfl, rfl, by decide +kernel, rfl, by decide +kernel, by decide +kernel⟩
abbrev s_period : Stmt := inClass (top 30) 1
abbrev N_period : List Str := ["self"]
theorem sc_period : FnScope N_period ["self"] (defScope s_period) := ⟨rfl, rfl, rfl, by decide +kernel, rfl, by decide +kernel, by decide +kernel⟩
abbrev s_text : Stmt := inClass (top 30) 7
abbrev N_text : List Str := ["self", "parts", "word", "numbers"]
theorem sc_text : FnScope N_text ["self"] (defScope s_text) := ⟨rfl, rfl, rfl, by decide +kernel, rfl, by decide +kernel, by decide +kernel⟩
abbrev s_parse : Stmt := inClass (top 30) 8
abbrev N_parse : List Str := ["cls", "text", "lines", "modulus", "takes", "calls", "lateness"]
theorem sc_parse : FnScope N_parse ["cls", "text"] (defScope s_parse) := ⟨rfl, rfl, rfl, by decide +kernel, rfl, by decide +kernel, by decide +kernel⟩
abbrev s__law_random : Stmt := top 32
abbrev N__law_random : List Str := ["_law_script", "_law_salt", "_law_seed", "_law_cell"]
theorem sc__law_random : FnScope N__law_random ["_law_script", "_law_salt"] (defScope s__law_random) := ⟨rfl, rfl, rfl, by decide +kernel, rfl, by decide +kernel, by decide +kernel⟩
abbrev s__law_below : Stmt := top 33
abbrev N__law_below : List Str := ["_law_d", "_law_limit", "_law_result"]
theorem sc__law_below : FnScope N__law_below ["_law_d", "_law_limit"] (defScope s__law_below) := ⟨rfl, rfl, rfl, by decide +kernel, rfl, by decide +kernel, by decide +kernel⟩
abbrev s__law_pattern : Stmt := top 34
abbrev N__law_pattern : List Str := ["_law_d", "_law_most", "_law_high", "_law_k"]
theorem sc__law_pattern : FnScope N__law_pattern ["_law_d", "_law_most"] (defScope s__law_pattern) := ⟨rfl, rfl, rfl, by decide +kernel, rfl, by decide +kernel, by decide +kernel⟩
abbrev s__law_parts : Stmt := top 35
abbrev N__law_parts : List Str := ["_law_d", "_law_most", "_law_modulus", "_law_lateness"]
theorem sc__law_parts : FnScope N__law_parts ["_law_d", "_law_most"] (defScope s__law_parts) := ⟨rfl, rfl, rfl, by decide +kernel, rfl, by decide +kernel, by decide +kernel⟩
abbrev s__law_equal : Stmt := top 36
abbrev N__law_equal : List Str := ["_law_actual", "_law_expected", "_law_k"]
theorem sc__law_equal : FnScope N__law_equal ["_law_actual", "_law_expected"] (defScope s__law_equal) := ⟨rfl, rfl, rfl, by decide +kernel, rfl, by decide +kernel, by decide +kernel⟩
abbrev s__law_hall : Stmt := top 37
abbrev N__law_hall : List Str := ["_law_parts_here"]
theorem sc__law_hall : FnScope N__law_hall ["_law_parts_here"] (defScope s__law_hall) := ⟨rfl, rfl, rfl, by decide +kernel, rfl, by decide +kernel, by decide +kernel⟩
abbrev s_law : Stmt := top 38
abbrev N_law : List Str := ["_law_script", "_law_d", "_law_step", "_law_parts_here", "_law_rows", "_law_names", "_law_text", "_law_hall_here", "_law_k", "_law_number"]
theorem sc_law : FnScope N_law ["_law_script"] (defScope s_law) := ⟨rfl, rfl, rfl, by decide +kernel, rfl, by decide +kernel, by decide +kernel⟩
structure Txt (K : PySem.W.Frag) (mg : Str → Option Value) : Prop where
  g_abs : mg "abs" = none
  g_all : mg "all" = none
  g_bool : mg "bool" = none
  g_enumerate : mg "enumerate" = none
  g_int : mg "int" = none
  g_isinstance : mg "isinstance" = none
  g_len : mg "len" = none
  g_list : mg "list" = none
  g_min : mg "min" = none
  g_range : mg "range" = none
  g_str : mg "str" = none
  g_tuple : mg "tuple" = none
  g_zip : mg "zip" = none
  g_lcm : mg "lcm" = some (.builtin "math.lcm")
  g_HALL_WORDS : mg "HALL_WORDS" = some (.ref (He.ga K "HALL_WORDS"))
  t_HALL_WORDS : ∀ H : Hp, SqT K H (He.ga K "HALL_WORDS") ((["modulus", "takes", "calls", "lateness"] : List Str).map V.str)
  g_ONE_NUMBER_WORDS : mg "ONE_NUMBER_WORDS" = some (.ref (He.ga K "ONE_NUMBER_WORDS"))
  t_ONE_NUMBER_WORDS : ∀ H : Hp, SqT K H (He.ga K "ONE_NUMBER_WORDS") ((["modulus", "lateness"] : List Str).map V.str)
  g_BARE_WORDS : mg "BARE_WORDS" = some (.ref (He.ga K "BARE_WORDS"))
  t_BARE_WORDS : ∀ H : Hp, SqT K H (He.ga K "BARE_WORDS") ((["undo", "redo"] : List Str).map V.str)
  c_MOST_DIGITS : ∃ t, mg "MOST_DIGITS" = some (.int 5 t)
  c_LEAST_MODULUS : ∃ t, mg "LEAST_MODULUS" = some (.int 2 t)
  c_GREATEST_MODULUS : ∃ t, mg "GREATEST_MODULUS" = some (.int 10000 t)
  c_MOST_ITEMS : ∃ t, mg "MOST_ITEMS" = some (.int 12 t)
  c_GREATEST_ITEM : ∃ t, mg "GREATEST_ITEM" = some (.int 9 t)
  c_GREATEST_LATENESS : ∃ t, mg "GREATEST_LATENESS" = some (.int 99 t)
  g_is_integer_within : mg "is_integer_within" = some (.ref (He.ga K "is_integer_within"))
  g_write_line : mg "write_line" = some (.ref (He.ga K "write_line"))
  g_is_number : mg "is_number" = some (.ref (He.ga K "is_number"))
  g_read_line : mg "read_line" = some (.ref (He.ga K "read_line"))
  g_read_hall_lines : mg "read_hall_lines" = some (.ref (He.ga K "read_hall_lines"))
  g_first_invalid_item : mg "first_invalid_item" = some (.ref (He.ga K "first_invalid_item"))
  g_check_pattern : mg "check_pattern" = some (.ref (He.ga K "check_pattern"))
  g_check_hall : mg "check_hall" = some (.ref (He.ga K "check_hall"))
  g_count_calls : mg "count_calls" = some (.ref (He.ga K "count_calls"))
  g__law_random : mg "_law_random" = some (.ref (He.ga K "_law_random"))
  g__law_below : mg "_law_below" = some (.ref (He.ga K "_law_below"))
  g__law_pattern : mg "_law_pattern" = some (.ref (He.ga K "_law_pattern"))
  g__law_parts : mg "_law_parts" = some (.ref (He.ga K "_law_parts"))
  g__law_equal : mg "_law_equal" = some (.ref (He.ga K "_law_equal"))
  g__law_hall : mg "_law_hall" = some (.ref (He.ga K "_law_hall"))
  g_Hall : mg "Hall" = some (.ref (He.ga K "Hall"))
  cl_Hall : Cls K (He.ga K "Hall")
  mk_Hall : Mk K (He.ga K "Hall") (He.ma K (He.ga K "Hall") "__init__")
  n_modulus : NoAttr K (He.ga K "Hall") "modulus"
  n_takes : NoAttr K (He.ga K "Hall") "takes"
  n_calls : NoAttr K (He.ga K "Hall") "calls"
  n_lateness : NoAttr K (He.ga K "Hall") "lateness"
  n__called : NoAttr K (He.ga K "Hall") "_called"
  k_parse : ClX.CRead K (He.ga K "Hall") (.type "type") ∧ ClX.CMet K (He.ga K "Hall") (.type "type") "parse" (cmAt K (He.ga K "Hall") "parse") (cmFn K (He.ga K "Hall") "parse")
  p_period : PropOf K (He.ga K "Hall") "period" (propAt K (He.ga K "Hall") "period") (getAt K (He.ga K "Hall") "period")
  p_text : PropOf K (He.ga K "Hall") "text" (propAt K (He.ga K "Hall") "text") (getAt K (He.ga K "Hall") "text")
  f_is_integer_within : ∃ fd, FnP K "is_integer_within" "is_integer_within" s_is_integer_within (He.ga K "is_integer_within") fd
  f_write_line : ∃ fd, FnP K "write_line" "write_line" s_write_line (He.ga K "write_line") fd
  f_is_number : ∃ fd, FnP K "is_number" "is_number" s_is_number (He.ga K "is_number") fd
  f_read_line : ∃ fd, FnP K "read_line" "read_line" s_read_line (He.ga K "read_line") fd
  f_read_hall_lines : ∃ fd, FnP K "read_hall_lines" "read_hall_lines" s_read_hall_lines (He.ga K "read_hall_lines") fd
  f_first_invalid_item : ∃ fd, FnP K "first_invalid_item" "first_invalid_item" s_first_invalid_item (He.ga K "first_invalid_item") fd
  f_check_pattern : ∃ fd, FnP K "check_pattern" "check_pattern" s_check_pattern (He.ga K "check_pattern") fd
  f_check_hall : ∃ fd, FnP K "check_hall" "check_hall" s_check_hall (He.ga K "check_hall") fd
  f_count_calls : ∃ fd, FnP K "count_calls" "count_calls" s_count_calls (He.ga K "count_calls") fd
  f_init : ∃ fd, FnP K "__init__" "Hall.__init__" s_init (He.ma K (He.ga K "Hall") "__init__") fd
  f_period : ∃ fd, FnP K "period" "Hall.period" s_period (getAt K (He.ga K "Hall") "period") fd
  f_text : ∃ fd, FnP K "text" "Hall.text" s_text (getAt K (He.ga K "Hall") "text") fd
  f_parse : ∃ fd, FnP K "parse" "Hall.parse" s_parse (cmFn K (He.ga K "Hall") "parse") fd
  f__law_random : ∃ fd, FnP K "_law_random" "_law_random" s__law_random (He.ga K "_law_random") fd
  f__law_below : ∃ fd, FnP K "_law_below" "_law_below" s__law_below (He.ga K "_law_below") fd
  f__law_pattern : ∃ fd, FnP K "_law_pattern" "_law_pattern" s__law_pattern (He.ga K "_law_pattern") fd
  f__law_parts : ∃ fd, FnP K "_law_parts" "_law_parts" s__law_parts (He.ga K "_law_parts") fd
  f__law_equal : ∃ fd, FnP K "_law_equal" "_law_equal" s__law_equal (He.ga K "_law_equal") fd
  f__law_hall : ∃ fd, FnP K "_law_hall" "_law_hall" s__law_hall (He.ga K "_law_hall") fd
def fcts : List (PySem.W.Frag → Bool) := [fcB (.free "abs"), fcB (.free "all"), fcB (.free "bool"), fcB (.free "enumerate"), fcB (.free "int"), fcB (.free "isinstance"), fcB (.free "len"), fcB (.free "list"), fcB (.free "min"), fcB (.free "range"), fcB (.free "str"), fcB (.free "tuple"), fcB (.free "zip"), bltB "lcm" "math.lcm", fcB (.glo "HALL_WORDS"), tupB "HALL_WORDS" ["modulus", "takes", "calls", "lateness"], fcB (.glo "ONE_NUMBER_WORDS"), tupB "ONE_NUMBER_WORDS" ["modulus", "lateness"], fcB (.glo "BARE_WORDS"), tupB "BARE_WORDS" ["undo", "redo"], fcB (.int "MOST_DIGITS" 5), fcB (.int "LEAST_MODULUS" 2), fcB (.int "GREATEST_MODULUS" 10000), fcB (.int "MOST_ITEMS" 12), fcB (.int "GREATEST_ITEM" 9), fcB (.int "GREATEST_LATENESS" 99), fcB (.glo "is_integer_within"), fcB (.glo "write_line"), fcB (.glo "is_number"), fcB (.glo "read_line"), fcB (.glo "read_hall_lines"), fcB (.glo "first_invalid_item"), fcB (.glo "check_pattern"), fcB (.glo "check_hall"), fcB (.glo "count_calls"), fcB (.glo "_law_random"), fcB (.glo "_law_below"), fcB (.glo "_law_pattern"), fcB (.glo "_law_parts"), fcB (.glo "_law_equal"), fcB (.glo "_law_hall"), fcB (.glo "Hall"), fcB (.cls "Hall"), fcB (.mkr "Hall"), fcB (.noat "Hall" "modulus"), fcB (.noat "Hall" "takes"), fcB (.noat "Hall" "calls"), fcB (.noat "Hall" "lateness"), fcB (.noat "Hall" "_called"), (fun K => cmB K (He.ga K "Hall") "parse"), (fun K => propB K (He.ga K "Hall") "period"), (fun K => propB K (He.ga K "Hall") "text"), fcB (.glo "law")]
def lawF : Nat := 52
def dps : List Dp := [⟨fun K => (He.ga K "is_integer_within"), ⟨("is_integer_within", none), "is_integer_within", "is_integer_within", defArgs s_is_integer_within, defBody s_is_integer_within, defScope s_is_integer_within, [], []⟩⟩, ⟨fun K => (He.ga K "write_line"), ⟨("write_line", none), "write_line", "write_line", defArgs s_write_line, defBody s_write_line, defScope s_write_line, [], []⟩⟩, ⟨fun K => (He.ga K "is_number"), ⟨("is_number", none), "is_number", "is_number", defArgs s_is_number, defBody s_is_number, defScope s_is_number, [], []⟩⟩, ⟨fun K => (He.ga K "read_line"), ⟨("read_line", none), "read_line", "read_line", defArgs s_read_line, defBody s_read_line, defScope s_read_line, [], []⟩⟩, ⟨fun K => (He.ga K "read_hall_lines"), ⟨("read_hall_lines", none), "read_hall_lines", "read_hall_lines", defArgs s_read_hall_lines, defBody s_read_hall_lines, defScope s_read_hall_lines, [], []⟩⟩, ⟨fun K => (He.ga K "first_invalid_item"), ⟨("first_invalid_item", none), "first_invalid_item", "first_invalid_item", defArgs s_first_invalid_item, defBody s_first_invalid_item, defScope s_first_invalid_item, [], []⟩⟩, ⟨fun K => (He.ga K "check_pattern"), ⟨("check_pattern", none), "check_pattern", "check_pattern", defArgs s_check_pattern, defBody s_check_pattern, defScope s_check_pattern, [], []⟩⟩, ⟨fun K => (He.ga K "check_hall"), ⟨("check_hall", none), "check_hall", "check_hall", defArgs s_check_hall, defBody s_check_hall, defScope s_check_hall, [], []⟩⟩, ⟨fun K => (He.ga K "count_calls"), ⟨("count_calls", none), "count_calls", "count_calls", defArgs s_count_calls, defBody s_count_calls, defScope s_count_calls, [], []⟩⟩, ⟨fun K => (He.ma K (He.ga K "Hall") "__init__"), ⟨("__init__", none), "__init__", "Hall.__init__", defArgs s_init, defBody s_init, defScope s_init, [], []⟩⟩, ⟨fun K => (getAt K (He.ga K "Hall") "period"), ⟨("period", none), "period", "Hall.period", defArgs s_period, defBody s_period, defScope s_period, [], []⟩⟩, ⟨fun K => (getAt K (He.ga K "Hall") "text"), ⟨("text", none), "text", "Hall.text", defArgs s_text, defBody s_text, defScope s_text, [], []⟩⟩, ⟨fun K => (cmFn K (He.ga K "Hall") "parse"), ⟨("parse", none), "parse", "Hall.parse", defArgs s_parse, defBody s_parse, defScope s_parse, [], []⟩⟩, ⟨fun K => (He.ga K "_law_random"), ⟨("_law_random", none), "_law_random", "_law_random", defArgs s__law_random, defBody s__law_random, defScope s__law_random, [], []⟩⟩, ⟨fun K => (He.ga K "_law_below"), ⟨("_law_below", none), "_law_below", "_law_below", defArgs s__law_below, defBody s__law_below, defScope s__law_below, [], []⟩⟩, ⟨fun K => (He.ga K "_law_pattern"), ⟨("_law_pattern", none), "_law_pattern", "_law_pattern", defArgs s__law_pattern, defBody s__law_pattern, defScope s__law_pattern, [], []⟩⟩, ⟨fun K => (He.ga K "_law_parts"), ⟨("_law_parts", none), "_law_parts", "_law_parts", defArgs s__law_parts, defBody s__law_parts, defScope s__law_parts, [], []⟩⟩, ⟨fun K => (He.ga K "_law_equal"), ⟨("_law_equal", none), "_law_equal", "_law_equal", defArgs s__law_equal, defBody s__law_equal, defScope s__law_equal, [], []⟩⟩, ⟨fun K => (He.ga K "_law_hall"), ⟨("_law_hall", none), "_law_hall", "_law_hall", defArgs s__law_hall, defBody s__law_hall, defScope s__law_hall, [], []⟩⟩, ⟨fun K => (He.ga K "law"), ⟨("law", none), "law", "law", defArgs s_law, defBody s_law, defScope s_law, [], []⟩⟩]
def names : List PySem.Str := (["_wall", "HallError", "InvalidHall", "InvalidTick", "TextFault", "LAST_TICK", "is_integer_within", "check_tick", "HALL_WORDS", "ONE_NUMBER_WORDS", "BARE_WORDS", "MOST_DIGITS"] : List PySem.Str) ++ (["write_line", "is_number", "read_line", "read_hall_lines", "LEAST_MODULUS", "GREATEST_MODULUS", "MOST_ITEMS", "GREATEST_ITEM", "GREATEST_LATENESS", "first_invalid_item", "check_pattern", "check_hall"] : List PySem.Str) ++ (["count_calls", "Hall", "_law_random", "_law_below", "_law_pattern", "_law_parts", "_law_equal", "_law_hall"] : List PySem.Str)
abbrev R : PySem.W.OpenRow := PySem.W.OpenLaw.row PySem.Challenge.rw_ticketwrap_k18_texts_of_halls
def mkl : List (Mk_ × Str) := []
abbrev mks : List Mk_ := mkl.map fun p => p.1
abbrev hk : PySem.W.Hook := hook 6 fcts dps mks
def ob (s : PySem.W.SharedT) : AlX := obsG 6 fcts dps mks (HeadRun.getT s)
theorem ob_eq (s : PySem.W.SharedT) : ob s = hk.obs s.abs := obsG_eq (HeadRun.getT_eq s)
def lawI : Nat := 38
end Tk
namespace Tk
open PySem PySem.Spec PyProof.Rows L2
theorem run (w : World) : HeadRun.RunEqI R (PySem.W.view R.prog [0, 38]) hk ob 20000 names w := by
  unfold HeadRun.RunEqI
  kernel_rfl
theorem txt {K : PySem.W.Frag} {h : Heap} {mg : Str → Option Value} (X : K.In h) (G : h.Ns mainGlobals mg) (c : Says fcts dps K) : Txt K mg where
  g_abs := He.free_ok X G (c.fact 0 rfl)
  g_all := He.free_ok X G (c.fact 1 rfl)
  g_bool := He.free_ok X G (c.fact 2 rfl)
  g_enumerate := He.free_ok X G (c.fact 3 rfl)
  g_int := He.free_ok X G (c.fact 4 rfl)
  g_isinstance := He.free_ok X G (c.fact 5 rfl)
  g_len := He.free_ok X G (c.fact 6 rfl)
  g_list := He.free_ok X G (c.fact 7 rfl)
  g_min := He.free_ok X G (c.fact 8 rfl)
  g_range := He.free_ok X G (c.fact 9 rfl)
  g_str := He.free_ok X G (c.fact 10 rfl)
  g_tuple := He.free_ok X G (c.fact 11 rfl)
  g_zip := He.free_ok X G (c.fact 12 rfl)
  g_lcm := blt_ok X G (c.fact 13 rfl)
  g_HALL_WORDS := He.glo_ok X G (c.fact 14 rfl)
  t_HALL_WORDS := tup_ok (c.fact 15 rfl)
  g_ONE_NUMBER_WORDS := He.glo_ok X G (c.fact 16 rfl)
  t_ONE_NUMBER_WORDS := tup_ok (c.fact 17 rfl)
  g_BARE_WORDS := He.glo_ok X G (c.fact 18 rfl)
  t_BARE_WORDS := tup_ok (c.fact 19 rfl)
  c_MOST_DIGITS := He.int_ok X G (c.fact 20 rfl)
  c_LEAST_MODULUS := He.int_ok X G (c.fact 21 rfl)
  c_GREATEST_MODULUS := He.int_ok X G (c.fact 22 rfl)
  c_MOST_ITEMS := He.int_ok X G (c.fact 23 rfl)
  c_GREATEST_ITEM := He.int_ok X G (c.fact 24 rfl)
  c_GREATEST_LATENESS := He.int_ok X G (c.fact 25 rfl)
  g_is_integer_within := He.glo_ok X G (c.fact 26 rfl)
  g_write_line := He.glo_ok X G (c.fact 27 rfl)
  g_is_number := He.glo_ok X G (c.fact 28 rfl)
  g_read_line := He.glo_ok X G (c.fact 29 rfl)
  g_read_hall_lines := He.glo_ok X G (c.fact 30 rfl)
  g_first_invalid_item := He.glo_ok X G (c.fact 31 rfl)
  g_check_pattern := He.glo_ok X G (c.fact 32 rfl)
  g_check_hall := He.glo_ok X G (c.fact 33 rfl)
  g_count_calls := He.glo_ok X G (c.fact 34 rfl)
  g__law_random := He.glo_ok X G (c.fact 35 rfl)
  g__law_below := He.glo_ok X G (c.fact 36 rfl)
  g__law_pattern := He.glo_ok X G (c.fact 37 rfl)
  g__law_parts := He.glo_ok X G (c.fact 38 rfl)
  g__law_equal := He.glo_ok X G (c.fact 39 rfl)
  g__law_hall := He.glo_ok X G (c.fact 40 rfl)
  g_Hall := He.glo_ok X G (c.fact 41 rfl)
  cl_Hall := He.cls_ok (c.fact 42 rfl)
  mk_Hall := He.mkr_ok (c.fact 43 rfl)
  n_modulus := He.noat_ok (c.fact 44 rfl)
  n_takes := He.noat_ok (c.fact 45 rfl)
  n_calls := He.noat_ok (c.fact 46 rfl)
  n_lateness := He.noat_ok (c.fact 47 rfl)
  n__called := He.noat_ok (c.fact 48 rfl)
  k_parse := cm_ok (c.fact 49 rfl)
  p_period := prop_ok (c.fact 50 rfl)
  p_text := prop_ok (c.fact 51 rfl)
  f_is_integer_within := (c.def_ 0 rfl).1
  f_write_line := (c.def_ 1 rfl).1
  f_is_number := (c.def_ 2 rfl).1
  f_read_line := (c.def_ 3 rfl).1
  f_read_hall_lines := (c.def_ 4 rfl).1
  f_first_invalid_item := (c.def_ 5 rfl).1
  f_check_pattern := (c.def_ 6 rfl).1
  f_check_hall := (c.def_ 7 rfl).1
  f_count_calls := (c.def_ 8 rfl).1
  f_init := (c.def_ 9 rfl).1
  f_period := (c.def_ 10 rfl).1
  f_text := (c.def_ 11 rfl).1
  f_parse := (c.def_ 12 rfl).1
  f__law_random := (c.def_ 13 rfl).1
  f__law_below := (c.def_ 14 rfl).1
  f__law_pattern := (c.def_ 15 rfl).1
  f__law_parts := (c.def_ 16 rfl).1
  f__law_equal := (c.def_ 17 rfl).1
  f__law_hall := (c.def_ 18 rfl).1
theorem law_fn {K : PySem.W.Frag} (c : Says fcts dps K) : ∃ fd, FnP K "law" "law" s_law (He.ga K "law") fd := (c.def_ 19 rfl).1
end Tk
/-! ### Texts of numbers -/
namespace Tx
open PySem PySem.Spec PyProof.Rows L2 TL
/-- a number's text -/
abbrev nS (n : Nat) : Str := Str.ofString (toString ((n : Nat) : Int))
theorem digit_c : ∀ c : Nat, 48 ≤ c → c ≤ 57 → Unicode.isDigit c = true := by
  intro c h1 h2
  have : c = 48 ∨ c = 49 ∨ c = 50 ∨ c = 51 ∨ c = 52 ∨ c = 53 ∨ c = 54 ∨ c = 55 ∨ c = 56 ∨ c = 57 := by omega
  rcases this with h | h | h | h | h | h | h | h | h | h <;> subst h <;> decide +kernel
theorem num_digit (n : Nat) : Txt.isdigit (nS n) = true := by
  unfold Txt.isdigit
  have l : (nS n).length > 0 := by
    rw [len_tl, tl_num]
    exact List.length_pos_iff.mpr (numL_ne n)
  rw [Bool.and_eq_true]
  refine ⟨decide_eq_true l, ?_⟩
  rw [← Array.all_toList]
  refine List.all_eq_true.mpr fun c hc => ?_
  have r := numL_digits n c (by rw [← tl_num]; exact hc)
  exact digit_c c r.1 r.2
theorem num_ascii (n : Nat) : Txt.isascii (nS n) = true := by
  unfold Txt.isascii
  rw [← Array.all_toList]
  refine List.all_eq_true.mpr fun c hc => ?_
  have r := numL_digits n c (by rw [← tl_num]; exact hc)
  exact decide_eq_true (by omega)
theorem num_len {n : Nat} (h : n ≤ 10000) : (nS n).length ≤ 5 := by
  rw [len_tl, tl_num]
  exact numL_len (by omega) (by omega)
/-- the first sign of a number that is not 0 -/
theorem head_num : ∀ {n : Nat}, 0 < n → ∃ c r, numL n = c :: r ∧ c ≠ 48 := by
  intro n
  induction n using Nat.strongRecOn with
  | _ n ih =>
    intro h
    by_cases q : n < 10
    · exact ⟨48 + n, [], numL_lt q, by omega⟩
    · obtain ⟨c, r, e, hc⟩ := ih (n / 10) (by omega) (by omega)
      rw [numL_step (by omega), e]
      exact ⟨c, _, rfl, hc⟩
theorem num_zero {n : Nat} : nS n = "0" ↔ n = 0 := by
  constructor
  · intro e
    have z := congrArg tl e
    rw [tl_num] at z
    have z2 : numL n = numL 0 := z.trans (by rw [numL_lt (by omega)]; rfl)
    exact numL_inj z2
  · intro e
    rw [e]
    rfl
theorem not_starts {n : Nat} (h : 0 < n) : Txt.startswith (nS n) "0" = false := by
  obtain ⟨c, r, e, hc⟩ := head_num h
  have e2 : nS n = SX.S (c :: r) := by
    show Str.ofString (toString ((n : Nat) : Int)) = _
    rw [SX.num_S, e]
  rw [e2]
  unfold Txt.startswith
  have : PySem.Builtin.Str.subAt (SX.S (c :: r)) "0" 0 = false := by
    unfold PySem.Builtin.Str.subAt
    refine beq_eq_false_iff_ne.mpr fun q => ?_
    have q2 := congrArg Array.toList q
    have q3 : ((c :: r).toArray.extract 0 (0 + 1)).toList = [48] := q2
    simp at q3
    exact hc q3
  rw [this, Bool.and_false]
/-- a line of a word and numbers -/
def ln (w : Str) (ns : List Nat) : Str := Txt.join " " (w :: ns.map nS)
theorem tl_sp : tl " " = [32] := by decide +kernel
theorem tl_lf : tl "\n" = [10] := by decide +kernel
theorem ln_split {w : Str} {ns : List Nat} (hw : 32 ∉ tl w) : Txt.split (ln w ns) " " = w :: ns.map nS :=
  split_join (s := 32) (S := []) tl_sp (by decide +kernel) (by simp) fun p hp => by
    rcases List.mem_cons.mp hp with e | e
    · rw [e]
      exact hw
    · obtain ⟨n, _, rfl⟩ := List.mem_map.mp e
      rw [tl_num]
      exact numL_free (.inl (by omega))
theorem mem_joinL {S : List Nat} : ∀ {ps : List (List Nat)} {c : Nat}, c ∈ joinL S ps → c ∈ S ∨ ∃ p ∈ ps, c ∈ p
  | [], c, h => by cases h
  | [p], c, h => .inr ⟨p, List.mem_singleton.mpr rfl, h⟩
  | p :: q :: r, c, h => by
    rcases List.mem_append.mp (show c ∈ p ++ (S ++ joinL S (q :: r)) from h) with h | h
    · exact .inr ⟨p, List.mem_cons_self, h⟩
    · rcases List.mem_append.mp h with h | h
      · exact .inl h
      · rcases mem_joinL h with h | ⟨z, hz, h⟩
        · exact .inl h
        · exact .inr ⟨z, List.mem_cons_of_mem _ hz, h⟩
theorem tl_ln (w : Str) (ns : List Nat) : tl (ln w ns) = joinL [32] (tl w :: ns.map numL) := by
  unfold ln
  rw [join_eq, tl_join, tl_sp, List.map_cons, List.map_map]
  congr 2
  exact List.map_congr_left fun n _ => tl_num n
theorem ln_free {w : Str} {ns : List Nat} (hw : 10 ∉ tl w) : 10 ∉ tl (ln w ns) := fun h => by
  rw [tl_ln] at h
  rcases mem_joinL h with h | ⟨p, hp, h⟩
  · simp at h
  · rcases List.mem_cons.mp hp with e | e
    · exact hw (e ▸ h)
    · obtain ⟨n, _, rfl⟩ := List.mem_map.mp e
      exact numL_free (.inl (by omega)) h
theorem joinL_len {S : List Nat} : ∀ {ps : List (List Nat)}, (joinL S ps).length ≤ (ps.map List.length).sum + ps.length * S.length
  | [] => by simp [joinL]
  | [p] => by simp [joinL]
  | p :: q :: r => by
    have ih := @joinL_len S (q :: r)
    have e : (joinL S (p :: q :: r)).length = p.length + (S.length + (joinL S (q :: r)).length) := by
      show (p ++ (S ++ joinL S (q :: r))).length = _
      rw [List.length_append, List.length_append]
    rw [e, List.map_cons, List.sum_cons, List.length_cons (a := p), Nat.succ_mul]
    omega
theorem sum_len {ns : List Nat} (h : ∀ n ∈ ns, n ≤ 10000) : ((ns.map numL).map List.length).sum ≤ 5 * ns.length := by
  induction ns with
  | nil => exact Nat.le_refl _
  | cons a r ih =>
    have h1 := ih fun n hn => h n (List.mem_cons_of_mem _ hn)
    have h2 : (numL a).length ≤ 5 := numL_len (by omega) (by have := h a List.mem_cons_self; omega)
    rw [List.map_cons, List.map_cons, List.sum_cons, List.length_cons]
    omega
theorem ln_len {w : Str} {ns : List Nat} (h1 : w.length ≤ 8) (h2 : ns.length ≤ 12) (h3 : ∀ n ∈ ns, n ≤ 10000) : (ln w ns).length ≤ 81 := by
  rw [len_tl, tl_ln]
  have a := @joinL_len [32] (tl w :: ns.map numL)
  have b := sum_len h3
  have c := len_tl w
  rw [List.map_cons, List.sum_cons, List.length_cons, List.length_map] at a
  have d : [32].length = 1 := rfl
  rw [d] at a
  omega
/-- the parts' lengths, joined by a space -/
theorem ln_size {w : Str} {ns : List Nat} (h1 : w.length ≤ 8) (h2 : ns.length ≤ 12) (h3 : ∀ n ∈ ns, n ≤ 10000) : ((w :: ns.map nS).map (·.length)).sum + (w :: ns.map nS).length * (" " : Str).length ≤ 16777216 := by
  have b := sum_len h3
  have e : (ns.map nS).map (·.length) = (ns.map numL).map List.length := by
    rw [List.map_map, List.map_map]
    refine List.map_congr_left fun n _ => ?_
    show (nS n).length = (numL n).length
    rw [len_tl, tl_num]
  have d : (" " : Str).length = 1 := by decide +kernel
  rw [List.map_cons, List.sum_cons, List.length_cons, List.length_map, e, d]
  omega
theorem ns_size {ns : List Nat} (h2 : ns.length ≤ 12) (h3 : ∀ n ∈ ns, n ≤ 10000) : ((ns.map nS).map (·.length)).sum + (ns.map nS).length * (" " : Str).length ≤ 16777216 := by
  have z := ln_size (w := "") (by decide +kernel) h2 h3
  rw [List.map_cons, List.sum_cons, List.length_cons, Nat.succ_mul] at z
  omega
theorem ln_glue {w : Str} {ns : List Nat} (h : ns ≠ []) : w ++ " " ++ Txt.join " " (ns.map nS) = ln w ns := by
  refine ext_tl ?_
  unfold ln
  rw [tl_append, tl_append, join_eq, join_eq, tl_join, tl_join, tl_sp]
  cases ns with
  | nil => exact absurd rfl h
  | cons a r =>
    show tl w ++ [32] ++ joinL [32] (((a :: r).map nS).map tl) = tl w ++ ([32] ++ joinL [32] (((a :: r).map nS).map tl))
    rw [List.append_assoc]
theorem ns_len {ns : List Nat} (h2 : ns.length ≤ 12) (h3 : ∀ n ∈ ns, n ≤ 10000) : (Txt.join " " (ns.map nS)).length ≤ 81 := by
  rw [len_tl, join_eq, tl_join, tl_sp]
  have a := @joinL_len [32] ((ns.map nS).map tl)
  have b := sum_len h3
  have e : (ns.map nS).map tl = ns.map numL := by
    rw [List.map_map]
    exact List.map_congr_left fun n _ => tl_num n
  rw [e, List.length_map] at a
  rw [e]
  have d : [32].length = 1 := rfl
  rw [d] at a
  omega
/-- the lines of a hall, its text -/
def lns (m : Nat) (tk cl : List Nat) (lt : Nat) : List Str := [ln "modulus" [m], ln "takes" tk, ln "calls" cl, ln "lateness" [lt]]
def txt (m : Nat) (tk cl : List Nat) (lt : Nat) : Str := Txt.join "\n" (lns m tk cl lt)
theorem txt_split {m : Nat} {tk cl : List Nat} {lt : Nat} : Txt.split (txt m tk cl lt) "\n" = lns m tk cl lt :=
  split_join (s := 10) (S := []) tl_lf (by decide +kernel) (by simp [lns]) fun p hp => by
    simp only [lns, List.mem_cons, List.not_mem_nil, or_false] at hp
    rcases hp with rfl | rfl | rfl | rfl <;> exact ln_free (by decide +kernel)
theorem lns_size {m : Nat} {tk cl : List Nat} {lt : Nat} (h1 : m ≤ 10000) (h2 : tk.length ≤ 12) (h3 : ∀ n ∈ tk, n ≤ 10000) (h4 : cl.length ≤ 12) (h5 : ∀ n ∈ cl, n ≤ 10000) (h6 : lt ≤ 10000) :
    ((lns m tk cl lt).map (·.length)).sum + (lns m tk cl lt).length * ("\n" : Str).length ≤ 400 := by
  have a1 := ln_len (w := "modulus") (ns := [m]) (by decide +kernel) (by simp) (by simp; exact h1)
  have a2 := ln_len (w := "takes") (by decide +kernel) h2 h3
  have a3 := ln_len (w := "calls") (by decide +kernel) h4 h5
  have a4 := ln_len (w := "lateness") (ns := [lt]) (by decide +kernel) (by simp) (by simp; exact h6)
  have d : ("\n" : Str).length = 1 := by decide +kernel
  simp only [lns, List.map_cons, List.map_nil, List.sum_cons, List.sum_nil, List.length_cons, List.length_nil, d]
  omega
theorem txt_len {m : Nat} {tk cl : List Nat} {lt : Nat} (h1 : m ≤ 10000) (h2 : tk.length ≤ 12) (h3 : ∀ n ∈ tk, n ≤ 10000) (h4 : cl.length ≤ 12) (h5 : ∀ n ∈ cl, n ≤ 10000) (h6 : lt ≤ 10000) : (txt m tk cl lt).length ≤ 400 := by
  have z := lns_size h1 h2 h3 h4 h5 h6
  have a := @joinL_len [10] ((lns m tk cl lt).map tl)
  unfold txt
  rw [len_tl, join_eq, tl_join, tl_lf]
  have e : ((lns m tk cl lt).map tl).map List.length = (lns m tk cl lt).map (·.length) := by
    rw [List.map_map]
    exact List.map_congr_left fun x _ => (len_tl x).symm
  rw [e, List.length_map] at a
  have d : ("\n" : Str).length = 1 := by decide +kernel
  rw [d] at z
  have d2 : [10].length = 1 := rfl
  rw [d2] at a
  omega
end Tx

/-! ### word, *rest = a list; cls(..) by a local name -/
namespace Tk
open PySem PySem.Spec PyProof.Rows L2
section
variable {X : Cx}
theorem unpack_rest {P : Program} {w : World} {A : Around} {E : Value → Shared → Prop} {s : Shared} {l : Addr} {v0 : Value} {vr : List Value} {Q : List Value → Shared → Prop} (hl : s.heap.IsList l (v0 :: vr).toArray) (hh : A.handled = none) (hz : vr.length + 1 ≤ 16384)
    (h : ∀ D h' tk, (∀ b u, s.heap.get? b = some u → h'.get? b = some u) → s.heap.get? D = none → h'.get? D = some { cls := .type "list", data := .seq vr.toArray } → Q [v0, .ref D] { s with heap := h', toks := tk }) :
    wpAny (model P w) A (unpackItems (.ref l) 2 (some 1)) Q E s := by
  have lsz : l < s.heap.objs.size := hl.elim fun o ho => Heap.lt_size ho.1
  have lne : l ≠ s.heap.objs.size := Nat.ne_of_lt lsz
  unfold unpackItems notIterableAtAll
  refine wpAny_bind (wpAny_bind (wpAny_specialOf hl.typeIs slot_list_iter.lookup (wpAny_pure ?_)))
  simp only [Bool.false_eq_true, if_false]
  refine wpAny_bind (wpAny_holding (wpAny_pyIter_list hl (wpAny_bind (wpAny_holding (PySem.W.kun_draw lne 1 0 _ _ ⟨_, Heap.get?_push_size _ rfl, rfl, rfl⟩ (hl.push _) (by simp) fun g1 it1 sb1 => ?_)))))
  have lst1 : g1.IsList l (v0 :: vr).toArray := (hl.push _).extBut sb1.extBut lne
  have one : ((v0 :: vr).toArray.toList.drop 0).take 1 = [v0] := by simp
  rw [one]
  show wpAny _ _ (if ([v0] : List Value).length < 1 then _ else _) _ _ _
  rw [if_neg (by simp)]
  rw [Nat.zero_add] at it1
  have itlt : s.heap.objs.size < g1.objs.size := it1.elim fun o ho => Heap.lt_size ho.1
  have llt : l < g1.objs.size := lst1.elim fun o ho => Heap.lt_size ho.1
  refine wpAny_bind (wpAny_holding (wpAny_collect_iter (s := { s with heap := g1 }) (T := "list_iterator") (.inr (.inr (.inl rfl))) (PySem.W.kun_shift (k := 1) (Walks.list (A := A.in1) hh s.heap.objs.size l lne (v0 :: vr).toArray) (by simp)).toS (fun j u st => st.1.typeIs) ⟨it1, lst1⟩
    (fun b hb => by rcases List.mem_cons.mp hb with e | e; · rw [e]; exact itlt
                    · rw [List.mem_singleton.mp e]; exact llt) (List.mem_cons_self ..) (fun s2 acc mv ia => ?_) (by simp [sizeLine_eq]; omega)))
  obtain ⟨g2, n2, d2, tk, o2⟩ := s2
  obtain ⟨kp, m2, m3, m4, m5⟩ := mv
  rw [PySem.W.kun_acc (by simp) ia]
  have rest : (v0 :: vr).toArray.toList.drop 1 = vr := by simp
  rw [rest]
  show wpAny _ _ (if vr.length < 2 - 1 - 1 then _ else _) _ _ _
  rw [if_neg (by omega)]
  have e1 : vr.take (vr.length - (2 - 1 - 1)) = vr := by simp
  have e2 : vr.drop (vr.length - (2 - 1 - 1)) = [] := by simp
  show wpAny _ _ (newList (vr.take (vr.length - (2 - 1 - 1))) >>= fun D => pure ([v0] ++ [D] ++ vr.drop (vr.length - (2 - 1 - 1)))) _ _ _
  rw [e1, e2]
  have m2 : n2 = s.gens := m2
  have m3 : d2 = s.drawn := m3
  have m4 : o2 = s.os := m4
  rw [m2, m3, m4]
  have old : ∀ b u, s.heap.get? b = some u → g2.get? b = some u := fun b u e => by
    have nb : b ≠ s.heap.objs.size := Nat.ne_of_lt (Heap.lt_size e)
    exact kp b u (by simpa using nb) (sb1.extBut b u nb (Heap.get?_push_of_some _ e))
  have new : s.heap.get? g2.objs.size = none := by
    cases e : s.heap.get? g2.objs.size with
    | none => rfl
    | some o => exact absurd (Heap.lt_size (old _ o e)) (Nat.lt_irrefl _)
  exact wpAny_bind (wpAny_newList (wpAny_pure (h g2.objs.size _ tk (fun b u e => Heap.get?_push_of_some _ (old b u e)) new (Heap.get?_push_size _ rfl))))
def gStar (K : PySem.W.Frag) (t : TG) (u : TG) : TG := fun v σ H Q => ∃ l x xs, v = .ref l ∧ SqL K H l (x :: xs) ∧ xs.length + 1 ≤ 16384 ∧ ∀ D, H D = none → t x σ (upd H D (.lst xs)) fun σ1 H1 => u (.ref D) σ1 H1 Q
theorem pg_star {e1 e2 : Expr} {k : Nat} {pos sp : Pos} {t u : TG} (hc : X.calm = true) (h1 : PG X e1 t) (h2 : PG X e2 u)
    (ha : assignEach [e1, .Starred e2 sp] X.env = [(false, assign e1 X.env), (true, assign e2 X.env)] := by rfl) : PG X (.Tuple [e1, .Starred e2 sp] k pos) (gStar X.K t u) := by
  refine ⟨fun pins s σ H v w Q I r hw => ?_⟩
  obtain ⟨l, x, xs, rfl, hq, hz, hw⟩ := hw
  obtain rfl : w = Value.ref l := r
  obtain ⟨its, rv, hl, _⟩ := I.list hq
  cases rv with
  | @cons _ v0 _ vr r0 rr =>
  rw [assign_Tuple]
  refine wpAny_bind (wpAny_standAt ?_)
  unfold unpack
  rw [ha]
  have hlen := rr.length
  refine wpAny_bind (wpAny_holding (unpack_rest hl.isList (I.ok.hd hc) (by omega) fun D h' tk k new hD => ?_))
  have nD := HOk.gone I.hok new
  have I1 : Inv X pins σ (upd H D (.lst xs)) { s with heap := h', toks := tk } := I.laidN k new nD ⟨by rw [sizeLine_eq]; omega, vr, _, rr, hD⟩
  refine assignInOrder_cons (thn (h1.run pins _ σ _ x v0 _ I1 r0 (hw D nD)) fun _ s2 ⟨σ2, H2, I2, q2⟩ => ?_)
  exact assignInOrder_cons (thn (h2.run pins s2 σ2 H2 (.ref D) (.ref D) _ I2 rfl q2) fun _ s3 ⟨σ3, H3, I3, q3⟩ => assignInOrder_nil ⟨σ3, H3, I3, q3⟩)
/-- x(e, ..), the i-th slot holds the class at C -/
theorem pe_makeL {CX : CXT} {k i : Nat} {C f : Addr} {fd : FuncData} {ps : List Str} {sp : Sp} {dvs : List V} {ds : List Value} {E : XK} {x : Str} {p pos : Pos} {e : Expr} {es : List Expr} {t : TA} (M : Mk X.K C f) (F : FnOk X.prog X.w X.K X.mg X.base CX k f fd ps sp) (hr : Room (k + 1) X.A)
    (hN : X.N[i]? = some x) (hv : Vis X.env.scope x) (hb : Binds X.K fd ps ds) (hd : Vals dvs ds) (hx : Passes CX X E) (ha : PA X (e :: es) t) (hdb : (x == ("__debug__" : Str)) = false := by decide) (hcd : (x == ("__classdict__" : Str)) = false := by decide)
    (he : starEach (e :: es) X.env = (false, eval e X.env) :: starEach es X.env := by rfl) (hpl : (backTo pos (starEach es X.env)).any (·.1) = false := by rfl) :
    PE X (.Call (.Name x p) (e :: es) [] pos) (fun σ H Q => σ[i]? = some (some (.ref C)) ∧ tMake C sp dvs E t σ H Q) := by
  refine ⟨fun pins s σ H Q I h => ?_⟩
  obtain ⟨hs, h⟩ := h
  refine wpAny_Call_Name_kw (thn ((pe_var (pos := p) (i := i) hN hv hdb hcd).run pins s σ H (fun v H1 => v = .ref C ∧ H1 = H) I ⟨.ref C, hs, rfl, rfl⟩) fun u s1 ⟨v, H1, I1, r1, z1, z2⟩ => ?_)
  subst z1 z2
  obtain rfl : u = Value.ref C := r1
  refine PySem.W.callWith_K (h₀ := X.base) I1.ok.mod.kin M.kp (thn (ha.run pos pins s1 σ _ _ I1 h) fun us s2 ⟨vs, H2, I2, r, q⟩ => ⟨I2.kIn, ?_⟩) he hpl
  exact run_make M F hr hb hd hx I2 r q
end
end Tk

/-! ### The source of numbers -/
namespace Tk
open PySem PySem.Spec PyProof.Rows L2
/-- what the list of the source holds -/
def DSt (cs : List V) : Prop := ∃ (s g : Int) (ns : List Int), cs = V.int s :: V.int g :: ns.map V.int ∧ 0 ≤ s ∧ s < 2147483647 ∧ 0 ≤ g ∧ (∀ n ∈ ns, (0 : Int) ≤ n) ∧ ns.length ≤ 63
def spRandom (K : PySem.W.Frag) : Sp := fun vs H Q _ => ∃ (a : Addr) (ns : List Int) (salt : Int), vs = [.ref a, .int salt] ∧ SqL K H a (ns.map V.int) ∧ ns.length ≤ 63 ∧ 0 ≤ salt ∧ salt < 1000 ∧
  ∀ (d : Addr) (cs : List V) (H' : Hp), H d = none → Same H H' → H' d = some (.lst cs) → DSt cs → Q (.ref d) H'
def spBelow : Sp := fun vs H Q _ => ∃ (d : Addr) (lim : Int) (cs : List V), vs = [.ref d, .int lim] ∧ 0 < lim ∧ lim < 1073741824 ∧ H d = some (.lst cs) ∧ DSt cs ∧
  ∀ (r : Int) (cs' : List V), 0 ≤ r → r < lim → DSt cs' → Q (.int r) (upd H d (.lst cs'))
theorem int_at {ns : List Int} {i : Nat} {y : V} (h : (ns.map V.int)[i]? = some y) : ∃ u, y = V.int u ∧ ns[i]? = some u := by
  rw [List.getElem?_map] at h
  cases e : ns[i]? with
  | none => rw [e] at h; cases h
  | some u => rw [e] at h; exact ⟨u, (Option.some.inj h).symm, rfl⟩
theorem ixn {n i : Nat} (h : i < n) : ixN n (i : Int) = some i := by
  unfold ixN
  rw [if_pos (by omega), if_pos (by omega)]
  simp
theorem atn {xs : List V} {i : Nat} {x : V} (h : xs[i]? = some x) : atI xs (i : Int) = some x := by
  unfold atI
  rw [ixn (List.getElem?_eq_some_iff.mp h).1]
  exact h
section
variable {P : Program} {w : World} {K : PySem.W.Frag} {mg : Str → Option Value} {base : Heap}
theorem ok__law_random (T : Txt K mg) : OkF P w K mg base 1 (He.ga K "_law_random") ["_law_script", "_law_salt"] (spRandom K) := by
  refine FnP.okF T.f__law_random sc__law_random (fun _ _ _ _ _ _ us hl => match us, hl with | [_, _], _ => rfl) (fun vs H Q E h => ?_) (fun cdv A outer s H vs Q E hr h => ?_)
  · obtain ⟨a, ns, salt, rfl, _⟩ := h
    rfl
  obtain ⟨a, ns, salt, rfl, hS, hlen, h0, h1, k⟩ := h
  refine ⟨_, (pss_cons (ps_set (i := 2) sc__law_random.nd rfl (Or.inl rfl) (pv 1))
    (pss_cons (ps_for own_cx rfl (pi_listK (K := K) (pv 0)) (pg_name (i := 3) sc__law_random.nd rfl (Or.inl rfl))
      (pss_one (ps_set (i := 2) sc__law_random.nd rfl (Or.inl rfl) (pe_op op_mod (pe_op op_add (pe_op op_mul (pv 2) pe_int) (pe_callB call_abs (by rfl) T.g_abs (by decide +kernel) (pa_cons (pv 3) pa_nil))) pe_int))))
    (pss_one (ps_ret (pe_op op_cat (pe_lst (pa_cons (pv 2) (pa_cons pe_int pa_nil))) (pe_lc (own := [("_law_cell", 3)]) (g := gName 3) (tt := _) (by rfl) sc__law_random.nd (pi_listK (K := K) (pv 0)) (blkOk_by (own := [("_law_cell", 3)]) (N := N__law_random) (sc := (defScope s__law_random)) (by decide +kernel)) (fun _ _ _ _ _ => pg_name (i := 3) sc__law_random.nd rfl (Or.inl rfl)) (fun _ _ _ _ _ => (pts_one (pt_cmpR op_ge (pv 3) (pe_op op_pow pe_int pe_int) (nomark _)))) (fun _ _ _ _ _ => (pv 3)))))))), ?_⟩
  refine ⟨_, rfl, ?_⟩
  refine ⟨_, rfl, a, rfl, ⟨_, hS⟩, for_list (K := K) (a := a) (xs := ns.map V.int) (fun i σ H' => ∃ (z : Int) (v : Option V), σ = [some (.ref a), some (.int salt), some (.int z), v] ∧ H' = H ∧ 0 ≤ z ∧ z < 2147483647)
    ⟨salt, none, rfl, rfl, h0, by omega⟩ (fun i σ H' _ ⟨_, _, _, e, _⟩ => e ▸ hS) ?_ ?_⟩
  · rintro i y σ H' hi ⟨z, v, rfl, rfl, z0, z1⟩
    obtain ⟨u, rfl, hu⟩ := int_at hi
    refine ⟨_, rfl, _, _, rfl, rfl, .inl ⟨by omega, by omega⟩, _, rfl, _, rfl, _, _, rfl, rfl, _, _, rfl, rfl, (by show (0 : Int) < 2147483647; decide), ?_⟩
    refine ⟨_, _, rfl, rfl, ?_, ?_⟩
    · exact Int.emod_nonneg _ (by decide)
    · exact Int.emod_lt_of_pos _ (by decide)
  · rintro σ H' ⟨z, v, rfl, rfl, z0, z1⟩
    refine ⟨_, rfl, (by show 2 ≤ sizeLine; decide), fun l hl => ?_⟩
    have s1 : Same H' (upd H' l (.lst [.int z, .int 0])) := fun b o e => by rw [upd_ne (ne_of_none e hl)]; exact e
    refine ⟨_, rfl, a, rfl, ⟨_, s1.seq hS⟩, fun D hD => ?_⟩
    have hDl : D ≠ l := fun e => by rw [e, upd_same] at hD; cases hD
    have hD0 : H' D = none := by rw [upd_ne hDl] at hD; exact hD
    refine lc_list (K := K) (a := a) (xs := ns.map V.int) (fun i H2 => ∃ ms : List Int, H2 = upd (upd H' l (.lst [.int z, .int 0])) D (.lst (ms.map V.int)) ∧ (∀ n ∈ ms, (0 : Int) ≤ n) ∧ ms.length ≤ i)
      ⟨[], rfl, (fun n hn => by cases hn), Nat.le_refl _⟩ (fun i H2 _ ⟨ms, e, _⟩ => ?_) ?_ ?_
    · subst e
      refine Same.seq (fun b o e => ?_) hS
      rw [upd_ne (ne_of_none e hD0)]
      exact s1 b o e
    · rintro i x H2 hx ⟨ms, rfl, m0, ml⟩
      obtain ⟨u, rfl, hu⟩ := int_at hx
      have hi63 : i < 63 := by
        have := (List.getElem?_eq_some_iff.mp hu).1
        omega
      refine ⟨rfl, _, rfl, _, _, rfl, rfl, ⟨by decide, by decide, by decide⟩, _, _, rfl, rfl, _, rfl, ?_⟩
      refine ite2 (fun c => ?_) (fun c => ⟨ms, rfl, m0, by omega⟩)
      refine ⟨_, rfl, _, upd_same, Nat.lt_of_le_of_lt (m := 63) (by rw [List.length_map]; omega) (by decide), ⟨ms ++ [u], ?_, ?_, ?_⟩⟩
      · rw [upd_upd, List.map_append]
        rfl
      · intro n hn
        rcases List.mem_append.mp hn with h | h
        · exact m0 n h
        · rw [List.mem_singleton.mp h]
          have c2 : (10 : Int) ^ (18 : Int).toNat ≤ u := of_decide_eq_true c
          have : (0 : Int) ≤ 10 ^ (18 : Int).toNat := by decide
          omega
      · rw [List.length_append]
        show ms.length + 1 ≤ i + 1
        omega
    · rintro H2 ⟨ms, rfl, m0, ml⟩
      rw [List.length_map] at ml
      refine ⟨l, D, _, _, rfl, rfl, (by rw [upd_ne hDl.symm]; exact upd_same), upd_same, ?_, fun p hp => ?_⟩
      · rw [List.length_map]
        exact Nat.le_trans (m := 65) (by show 2 + ms.length ≤ 65; omega) (by decide)
      · have hpD : p ≠ D := fun e => by rw [e, upd_same] at hp; cases hp
        have hp2 : p ≠ l := fun e => by rw [e, upd_ne hDl.symm, upd_same] at hp; cases hp
        refine k p _ _ (by rw [upd_ne hpD, upd_ne hp2] at hp; exact hp) (fun b o e => ?_) upd_same ⟨z, 0, ms, rfl, z0, z1, Int.le_refl _, m0, by omega⟩
        have hb : b ≠ p := fun q => by rw [q] at e; rw [upd_ne hpD, upd_ne hp2] at hp; rw [e] at hp; cases hp
        rw [upd_ne hb, upd_ne (ne_of_none e hD0)]
        exact s1 b o e
end
end Tk

namespace Tk
open PySem PySem.Spec PyProof.Rows L2
section
variable {P : Program} {w : World} {K : PySem.W.Frag} {mg : Str → Option Value} {base : Heap}
theorem upd_eq {H H2 : Hp} {d : Addr} (e : ∀ b, b ≠ d → H2 b = H b) (o : HO) : upd H2 d o = upd H d o := by
  funext b
  unfold upd
  by_cases q : b = d
  · rw [if_pos q, if_pos q]
  · rw [if_neg q, if_neg q, e b q]
theorem gt_dec {a b : Int} : decide (b < a) = true → b < a := of_decide_eq_true
theorem ok__law_below (T : Txt K mg) : OkF P w K mg base 1 (He.ga K "_law_below") ["_law_d", "_law_limit"] spBelow := by
  refine FnP.okF T.f__law_below sc__law_below (fun _ _ _ _ _ _ us hl => match us, hl with | [_, _], _ => rfl) (fun vs H Q E h => ?_) (fun cdv A outer s H vs Q E hr h => ?_)
  · obtain ⟨d, lim, cs, rfl, _⟩ := h
    rfl
  obtain ⟨d, lim, cs, rfl, l0, l1, hd, ⟨s1, g, ns, rfl, hs0, hs1, hg, hns, hlen⟩, k⟩ := h
  refine ⟨_, (Evl.pss_cut (ps_if (PW.pt (pw_and (pt_cmpR op_eq (pe_ix (ixLK (K := K)) (pv 0) pe_int (fun _ _ => rfl)) pe_int (nomark _)) (pw_and1 (pt_cmpR op_gt (pe_callB (lenK (K := K)) (by rfl) T.g_len (by decide +kernel) (pa_cons (pv 0) pa_nil)) pe_int (nomark _))))) (pss_one (ps_asg (pe_bm PySem.F.plainAttrs_list PySem.F.slot_list_pop PySem.F.type_list_pop mt_popAt (pv 0) (pa_cons pe_int pa_nil)) (pg_sub (pv 0) pe_int set_list))) pss_nil)
    (pss_cons (ps_if (pt_cmpR op_gt (pe_ix (ixLK (K := K)) (pv 0) pe_int (fun _ _ => rfl)) pe_int (nomark _)) (pss_cons (ps_set (i := 2) sc__law_below.nd rfl (Or.inl rfl) (pe_op op_mod (pe_ix (ixLK (K := K)) (pv 0) pe_int (fun _ _ => rfl)) (pv 1)))
    (pss_cons (ps_asg (pe_op op_fdiv (pe_ix (ixLK (K := K)) (pv 0) pe_int (fun _ _ => rfl)) (pv 1)) (pg_sub (pv 0) pe_int set_list))
    (pss_one (ps_ret (pv 2))))) pss_nil)
    (pss_cons (ps_asg (pe_op op_mod (pe_op op_add (pe_op op_mul (pe_ix (ixLK (K := K)) (pv 0) pe_int (fun _ _ => rfl)) pe_int) pe_int) pe_int) (pg_sub (pv 0) pe_int set_list))
    (pss_one (ps_ret (pe_op op_mod (pe_op op_fdiv (pe_ix (ixLK (K := K)) (pv 0) pe_int (fun _ _ => rfl)) pe_int) (pv 1))))))), ?_⟩
  -- if d[1] == 0 and len(d) > 2: d[1] = d.pop(2)
  refine ⟨fun σ H2 => ∃ (g2 : Int) (ms : List Int), σ = [some (.ref d), some (.int lim), none] ∧ H2 = upd H d (.lst (V.int s1 :: V.int g2 :: ms.map V.int)) ∧ 0 ≤ g2 ∧ (∀ n ∈ ms, (0 : Int) ≤ n) ∧ ms.length ≤ 63, ?_, ?_⟩
  · have h0 : H = upd H d (.lst (V.int s1 :: V.int g :: ns.map V.int)) := by
      funext b
      unfold upd
      by_cases q : b = d
      · rw [if_pos q, q, hd]
      · rw [if_neg q]
    have no : ∃ (g2 : Int) (ms : List Int), [some (V.ref d), some (V.int lim), none] = [some (.ref d), some (.int lim), none] ∧ H = upd H d (.lst (V.int s1 :: V.int g2 :: ms.map V.int)) ∧ 0 ≤ g2 ∧ (∀ n ∈ ms, (0 : Int) ≤ n) ∧ ms.length ≤ 63 := ⟨g, ns, rfl, h0, hg, hns, hlen⟩
    refine ⟨_, rfl, d, _, 1, _, rfl, rfl, SqL.of hd, atn (i := 1) rfl, rfl, _, rfl, ?_⟩
    refine ite2 (fun c => ?_) (fun c => no)
    refine ⟨_, rfl, d, _, rfl, .inl (SqL.of hd), _, _, rfl, rfl, _, rfl, ?_⟩
    refine ite2 (fun c2 => ?_) (fun c2 => no)
    cases ns with
    | nil =>
      have : (2 : Int) < (2 : Int) := gt_dec c2
      omega
    | cons n0 ms =>
      refine ⟨_, rfl, .inl ⟨rfl, _, SqL.of hd⟩, d, _, 2, 2, _, rfl, rfl, hd, by decide, by decide, ?_, rfl, ?_⟩
      · have hl : (V.int s1 :: V.int g :: (n0 :: ms).map V.int).length = ms.length + 3 := by simp
        rw [hl]
        unfold seqIndex?
        simp
        omega
      · refine ⟨_, rfl, d, _, 1, 1, rfl, rfl, upd_same, ixn (i := 1) (by simp), ?_⟩
        refine ⟨n0, ms, rfl, ?_, hns n0 List.mem_cons_self, fun n hn => hns n (List.mem_cons_of_mem _ hn), by have := hlen; simp at this; omega⟩
        rw [upd_upd]
        rfl
  · rintro σ H2 ⟨g2, ms, rfl, rfl, hg2, hms, hml⟩
    have hd2 : upd H d (.lst (V.int s1 :: V.int g2 :: ms.map V.int)) d = some (.lst (V.int s1 :: V.int g2 :: ms.map V.int)) := upd_same
    -- if d[1] > 0
    refine ⟨_, rfl, d, _, 1, _, rfl, rfl, SqL.of hd2, atn (i := 1) rfl, _, _, rfl, rfl, _, rfl, ?_⟩
    refine ite2 (fun c => ?_) (fun c => ?_)
    · refine ⟨_, rfl, d, _, 1, _, rfl, rfl, SqL.of hd2, atn (i := 1) rfl, _, rfl, _, _, rfl, rfl, l0, ?_⟩
      refine ⟨_, rfl, d, _, 1, _, rfl, rfl, SqL.of hd2, atn (i := 1) rfl, _, rfl, _, _, rfl, rfl, ⟨l0, l1⟩, ?_⟩
      refine ⟨_, rfl, d, _, 1, 1, rfl, rfl, upd_same, ixn (i := 1) (by simp), ?_⟩
      refine ⟨_, rfl, ?_⟩
      show Q (V.int (g2 % lim)) _
      rw [upd_upd]
      exact k _ _ (Int.emod_nonneg _ (by omega)) (Int.emod_lt_of_pos _ l0) ⟨s1, g2 / lim, ms, rfl, hs0, hs1, Int.ediv_nonneg hg2 (by omega), hms, hml⟩
    · refine ⟨_, rfl, d, _, 0, _, rfl, rfl, SqL.of hd2, atn (i := 0) rfl, _, _, rfl, rfl, .inl ⟨by omega, by omega⟩, _, _, rfl, rfl, _, _, rfl, rfl, (by show (0 : Int) < 2147483647; decide), ?_⟩
      refine ⟨_, rfl, d, _, 0, 0, rfl, rfl, upd_same, ixn (i := 0) (by simp), ?_⟩
      refine ⟨_, rfl, d, _, 0, _, rfl, rfl, SqL.of upd_same, atn (i := 0) rfl, _, _, rfl, rfl, ⟨by decide, by decide⟩, _, rfl, _, _, rfl, rfl, l0, ?_⟩
      rw [upd_upd]
      exact k _ _ (Int.emod_nonneg _ (by omega)) (Int.emod_lt_of_pos _ l0) ⟨_, g2, ms, rfl, Int.emod_nonneg _ (by decide), Int.emod_lt_of_pos _ (by decide), hg2, hms, hml⟩
end
end Tk

/-! ### Reading step by step: what each reading asks, as a rule -/
namespace Tk
open PySem PySem.Spec PyProof.Rows L2
theorem Same.get {H H' : Hp} {b : Addr} {o : HO} (S : Same H H') (h : H b = some o) : H' b = some o := S b o h
theorem Same.tr {H H1 H2 : Hp} (b : Same H1 H2) (a : Same H H1) : Same H H2 := fun c o h => b c o (a c o h)
theorem Same.nw {p : Addr} {H0 H : Hp} {o : HO} (h : H p = none) (S : Same H0 H) : Same H0 (upd H p o) := fun b u e => by rw [upd_ne (ne_of_none (S b u e) h)]; exact S b u e
theorem Same.fr {H H' : Hp} {p : Addr} (S : Same H H') (h : H' p = none) : H p = none := by
  cases q : H p with
  | none => rfl
  | some o => rw [S p o q] at h; cases h
theorem sqt_sm {K : PySem.W.Frag} {H H' : Hp} {a : Addr} {xs : List V} (e : Same H H') (h : SqT K H a xs) : SqT K H' a xs := by
  rcases h with (h | ⟨o, h⟩) | h
  · exact .inl (.inl (e _ _ h))
  · exact .inl (.inr ⟨o, e _ _ h⟩)
  · exact .inr h
namespace Rd
variable {K : PySem.W.Frag} {σ : L2.St} {H : Hp} {Q : VK} {QA : List V → Hp → Prop} {QB : Bool → Hp → Prop} {D : Ends} {ta tb tc te : TE} {t : TA} {tt tu : L2.TT} {ts tr : TS}
/-! expressions -/
theorem var {i : Nat} {v : V} (h : σ[i]? = some (some v)) (k : Q v H) : tVar i σ H Q := ⟨v, h, k⟩
theorem c {v : V} (k : Q v H) : tC v σ H Q := k
theorem op {r : R2} (k : ta σ H fun x H1 => tb σ H1 fun y H2 => r x y H2 Q) : tOp r ta tb σ H Q := k
theorem un {r : V → Hp → VK → Prop} (k : ta σ H fun x H1 => r x H1 Q) : tUn r ta σ H Q := k
theorem i0 {g : Int → Int → V} {i j : Int} (k : Q (g i j) H) : rI0 g (.int i) (.int j) H Q := ⟨i, j, rfl, rfl, k⟩
theorem i1 {C : Int → Int → Prop} {g : Int → Int → V} {i j : Int} (hc : C i j) (k : Q (g i j) H) : rI C g (.int i) (.int j) H Q := ⟨i, j, rfl, rfl, hc, k⟩
theorem u1 {g : Int → V} {i : Int} (k : Q (g i) H) : rU g (.int i) H Q := ⟨i, rfl, k⟩
theorem eq {x y : V} (h : scal x y = true) (k : Q (.bl (decide (x = y))) H) : rEq x y H Q := ⟨h, k⟩
theorem ne {x y : V} (h : scal x y = true) (k : Q (.bl (!decide (x = y))) H) : rNe x y H Q := ⟨h, k⟩
def toB (Q : Bool → Hp → Prop) : VK := fun x H' => ∃ k, x = .bl k ∧ Q k H'
theorem toB_i {b : Bool} (k : QB b H) : toB QB (.bl b) H := ⟨b, rfl, k⟩
theorem tst (k : te σ H (toB QB)) : tTest te σ H QB := k
theorem bv (k : te σ H (toB QB)) : tB te σ H QB := k
def andK (tb : TE) (σ : L2.St) (Q : VK) : VK := fun x H1 => ∃ c, x = .bl c ∧ if c = true then tb σ H1 Q else Q (.bl false) H1
theorem andV (k : ta σ H (andK tb σ Q)) : tAndV ta tb σ H Q := k
theorem andK_i {b : Bool} (k : if b = true then tb σ H Q else Q (.bl false) H) : andK tb σ Q (.bl b) H := ⟨b, rfl, k⟩
def orK (tb : TE) (σ : L2.St) (Q : VK) : VK := fun x H1 => ∃ c, x = .bl c ∧ if c = true then Q (.bl true) H1 else tb σ H1 Q
theorem orV (k : ta σ H (orK tb σ Q)) : tOrV ta tb σ H Q := k
theorem orK_i {b : Bool} (k : if b = true then Q (.bl true) H else tb σ H Q) : orK tb σ Q (.bl b) H := ⟨b, rfl, k⟩
def notK (Q : VK) : VK := fun x H1 => ∃ c, x = .bl c ∧ Q (.bl (!c)) H1
theorem notV (k : ta σ H (notK Q)) : tNotV ta σ H Q := k
theorem notK_i {b : Bool} (k : Q (.bl (!b)) H) : notK Q (.bl b) H := ⟨b, rfl, k⟩
theorem and (k : tt σ H fun c H1 => if c = true then tu σ H1 QB else QB false H1) : tAnd tt tu σ H QB := k
theorem or (k : tt σ H fun c H1 => if c = true then QB true H1 else tu σ H1 QB) : tOr tt tu σ H QB := k
theorem not (k : tt σ H fun c H1 => QB (!c) H1) : tNot tt σ H QB := k
theorem tif (k : tt σ H fun c H1 => if c = true then ta σ H1 Q else tb σ H1 Q) : tIf tt ta tb σ H Q := k
theorem yes (k : QB true H) : tYes σ H QB := k
def chainK (r r' : R2) (x : V) (tc : TE) (σ : L2.St) (Q : VK) : VK := fun y H2 => r x y H2 fun z H3 => ∃ k, z = .bl k ∧ (if k = true then tc σ H3 fun w' H4 => r' y w' H4 Q else Q (.bl false) H3)
def chainL (r' : R2) (y : V) (tc : TE) (σ : L2.St) (Q : VK) : VK := fun z H3 => ∃ k, z = .bl k ∧ (if k = true then tc σ H3 fun w' H4 => r' y w' H4 Q else Q (.bl false) H3)
theorem chain {r r' : R2} (k : ta σ H fun x H1 => tb σ H1 fun y H2 => r x y H2 (chainL r' y tc σ Q)) : tChain r r' ta tb tc σ H Q := k
theorem chainL_i {r' : R2} {y : V} {b : Bool} (k : if b = true then tc σ H fun w' H4 => r' y w' H4 Q else Q (.bl false) H) : chainL r' y tc σ Q (.bl b) H := ⟨b, rfl, k⟩
/-! arguments, calls -/
theorem nil (k : QA [] H) : tNil σ H QA := k
theorem cons {tr : TA} (k : ta σ H fun x H1 => tr σ H1 fun xs H2 => QA (x :: xs) H2) : tCons ta tr σ H QA := k
def tupK (Q : VK) : List V → Hp → Prop := fun xs H1 => xs.length ≤ sizeLine ∧ ∀ p, H1 p = none → Q (.ref p) (upd H1 p (.tup xs))
theorem tup (k : t σ H (tupK Q)) : tTup t σ H Q := k
theorem tupK_i {xs : List V} (hz : xs.length ≤ 1000) (k : ∀ p H', H p = none → Same H H' → H' p = some (.tup xs) → Q (.ref p) H') : tupK Q xs H := ⟨Nat.le_trans hz (by decide), fun p hp => k p _ hp (Same.nw hp (Same.refl H)) upd_same⟩
def lstK (Q : VK) : List V → Hp → Prop := fun xs H1 => xs.length ≤ sizeLine ∧ ∀ p, H1 p = none → Q (.ref p) (upd H1 p (.lst xs))
theorem lst (k : t σ H (lstK Q)) : tLst t σ H Q := k
theorem lstK_i {xs : List V} (hz : xs.length ≤ 1000) (k : ∀ p H', H p = none → Same H H' → H' p = some (.lst xs) → Q (.ref p) H') : lstK Q xs H := ⟨Nat.le_trans hz (by decide), fun p hp => k p _ hp (Same.nw hp (Same.refl H)) upd_same⟩
def callK (sp : Sp) (dvs : List V) (Q : VK) (E : XK) : List V → Hp → Prop := fun vs H1 => sp (vs ++ dvs) H1 Q E
theorem call {sp : Sp} {dvs : List V} {E : XK} (k : t σ H (callK sp dvs Q E)) : tCall sp dvs E t σ H Q := k
theorem callK_i {sp : Sp} {vs : List V} {E : XK} (k : sp vs H Q E) : callK sp [] Q E vs H := by
  unfold callK
  rw [List.append_nil]
  exact k
def fldK (K : PySem.W.Frag) (f : Str) (Q : VK) : VK := fun x H1 => ∃ a C dx fs v, x = .ref a ∧ H1 a = some (.ins C dx fs) ∧ Cls K C ∧ NoAttr K C f ∧ fs.lookup f = some v ∧ Q v H1
theorem fld {f : Str} (k : ta σ H (fldK K f Q)) : tFld K ta f σ H Q := k
def methK (m : Str) (sp : Sp) (C : Addr) (dvs : List V) (E : XK) (t : TA) (σ : L2.St) (Q : VK) : VK := fun x H1 => ∃ a dx fs, x = .ref a ∧ H1 a = some (.ins C dx fs) ∧ fs.lookup m = none ∧ t σ H1 fun vs H2 => sp (x :: (vs ++ dvs)) H2 Q E
theorem meth {C : Addr} {m : Str} {sp : Sp} {dvs : List V} {E : XK} (k : ta σ H (methK m sp C dvs E t σ Q)) : tMeth C m sp dvs E ta t σ H Q := k
def propK (sp : Sp) (C : Addr) (dvs : List V) (E : XK) (Q : VK) : VK := fun x H1 => ∃ a dx fs, x = .ref a ∧ H1 a = some (.ins C dx fs) ∧ sp (.ref a :: dvs) H1 Q E
theorem prop {C : Addr} {sp : Sp} {dvs : List V} {E : XK} (k : ta σ H (propK sp C dvs E Q)) : tProp C sp dvs E ta σ H Q := k
def makeK (C : Addr) (sp : Sp) (dvs : List V) (E : XK) (Q : VK) : List V → Hp → Prop := fun vs H1 => ∀ x dx, H1 x = none → H1 dx = none → dx ≠ x →
  sp (.ref x :: (vs ++ dvs)) (upd (upd H1 dx (.own x)) x (.ins C dx [])) (fun v H2 => v = .non ∧ Q (.ref x) H2) E
theorem make {C : Addr} {sp : Sp} {dvs : List V} {E : XK} (k : t σ H (makeK C sp dvs E Q)) : tMake C sp dvs E t σ H Q := k
theorem cmeth {C : Addr} {sp : Sp} {E : XK} (k : ta σ H fun x H1 => x = .ref C ∧ t σ H1 fun vs H2 => sp (.ref C :: vs) H2 Q E) : ClX.tCMeth C sp E ta t σ H Q := k
theorem cb {r : List V → Hp → VK → Prop} (k : t σ H fun vs H1 => r vs H1 Q) : tCB r t σ H Q := k
def bmK (K : PySem.W.Frag) (T : String) (r : V → List V → Hp → VK → Prop) (t : TA) (σ : L2.St) (Q : VK) : VK := fun x H1 => tyV K T x H1 ∧ t σ H1 fun xs H2 => r x xs H2 Q
theorem bm {T : String} {r : V → List V → Hp → VK → Prop} (k : ta σ H (bmK K T r t σ Q)) : tBM K T r ta t σ H Q := k
theorem bmK_l {r : V → List V → Hp → VK → Prop} {p : Addr} {xs : List V} (hq : SqL K H p xs) (k : t σ H fun ys H2 => r (.ref p) ys H2 Q) : bmK K "list" r t σ Q (.ref p) H := ⟨.inl ⟨rfl, _, hq⟩, k⟩
def m0K (r : V → List V → Hp → VK → Prop) (Q : VK) : VK := fun x H1 => (∃ a, x = .str a) ∧ r x [] H1 Q
theorem m0 {r : V → List V → Hp → VK → Prop} (k : ta σ H (m0K r Q)) : tM0 r ta σ H Q := k
theorem m0K_i {r : V → List V → Hp → VK → Prop} {a : Str} (k : r (.str a) [] H Q) : m0K r Q (.str a) H := ⟨⟨a, rfl⟩, k⟩
def m1K (r : V → List V → Hp → VK → Prop) (te : TE) (σ : L2.St) (Q : VK) : VK := fun x H1 => (∃ a, x = .str a) ∧ te σ H1 fun y H2 => r x [y] H2 Q
theorem m1 {r : V → List V → Hp → VK → Prop} (k : ta σ H (m1K r te σ Q)) : tM1 r ta te σ H Q := k
theorem m1K_i {r : V → List V → Hp → VK → Prop} {a : Str} (k : te σ H fun y H2 => r (.str a) [y] H2 Q) : m1K r te σ Q (.str a) H := ⟨⟨a, rfl⟩, k⟩
/-! starred items -/
def starK (K : PySem.W.Frag) (t : TA) (σ : L2.St) (QA : List V → Hp → Prop) : VK := fun x H1 => ∃ p xs, x = V.ref p ∧ (SqT K H1 p xs ∨ SqL K H1 p xs) ∧ t σ H1 fun ys H2 => QA (xs ++ ys) H2
theorem star (k : te σ H (starK K t σ QA)) : StX.tStar K te t σ H QA := k
theorem starK_t {p : Addr} {xs : List V} (hq : SqT K H p xs) (k : t σ H fun ys H2 => QA (xs ++ ys) H2) : starK K t σ QA (.ref p) H := ⟨p, xs, rfl, .inl hq, k⟩
theorem starK_l {p : Addr} {xs : List V} (hq : SqL K H p xs) (k : t σ H fun ys H2 => QA (xs ++ ys) H2) : starK K t σ QA (.ref p) H := ⟨p, xs, rfl, .inr hq, k⟩
/-! items, lengths, slices -/
theorem ixL {p : Addr} {xs : List V} {i : Int} {v : V} (hq : SqL K H p xs) (ha : atI xs i = some v) (k : Q v H) : rIxL K (.ref p) (.int i) H Q := ⟨p, xs, i, v, rfl, rfl, hq, ha, k⟩
theorem ixT {p : Addr} {xs : List V} {i : Int} {v : V} (hq : SqT K H p xs) (ha : atI xs i = some v) (k : Q v H) : rIxT K (.ref p) (.int i) H Q := ⟨p, xs, i, v, rfl, rfl, hq, ha, k⟩
theorem lenL {p : Addr} {xs : List V} (hq : SqL K H p xs) (k : Q (.int xs.length) H) : Evl.rLenS K [.ref p] H Q := ⟨p, xs, rfl, .inl hq, k⟩
theorem lenT {p : Addr} {xs : List V} (hq : SqT K H p xs) (k : Q (.int xs.length) H) : Evl.rLenS K [.ref p] H Q := ⟨p, xs, rfl, .inr hq, k⟩
theorem mx {i j : Int} (k : Q (.int (max i j)) H) : rMax2 [.int i, .int j] H Q := ⟨i, j, rfl, by
  have e : (if j > i then j else i) = max i j := by
    rw [Int.max_def]
    split <;> split <;> omega
  rw [e]
  exact k⟩
theorem mn {i j : Int} (k : Q (.int (min i j)) H) : rMin2 [.int i, .int j] H Q := ⟨i, j, rfl, by
  have e : (if j < i then j else i) = min i j := by
    rw [Int.min_def]
    split <;> split <;> omega
  rw [e]
  exact k⟩
theorem isN {x : V} (k : Q (.bl (decide (x = .non))) H) : rIsN x .non H Q := ⟨rfl, k⟩
theorem notN {x : V} (k : Q (.bl (!decide (x = .non))) H) : rNotN x .non H Q := ⟨rfl, k⟩
theorem noPart {QO : Option Int → Hp → Prop} (k : QO none H) : tNoPart σ H QO := k
def partK (QO : Option Int → Hp → Prop) : VK := fun x H1 => ∃ i, x = .int i ∧ QO (some i) H1
theorem part {QO : Option Int → Hp → Prop} (k : ta σ H (partK QO)) : tPart ta σ H QO := k
theorem partK_i {QO : Option Int → Hp → Prop} {i : Int} (k : QO (some i) H) : partK QO (.int i) H := ⟨i, rfl, k⟩
theorem slc {r : V → Option Int → Option Int → Hp → VK → Prop} {tl th : TO} (k : ta σ H fun x H1 => tl σ H1 fun l H2 => th σ H2 fun u H3 => r x l u H3 Q) : tSl r ta tl th σ H Q := k
theorem slT {a : Addr} {xs : List V} {lo hi : Option Int} (hq : SqT K H a xs) (k : ∀ p H', Same H H' → SqT K H' p (cutV xs lo hi) → Q (.ref p) H') : rSlA K (.ref a) lo hi H Q := by
  refine ⟨a, xs, rfl, hq, fun ⟨h1, h2⟩ => ?_, fun _ p hp => k p _ (Same.nw hp (Same.refl H)) (SqT.of upd_same)⟩
  have e : cutV xs lo hi = xs := by
    unfold cutV
    rw [h1, h2]
    simp
  exact k a H (Same.refl H) (by rw [e]; exact hq)
theorem catA {a b : Addr} {xs ys : List V} (h1 : SqT K H a xs) (h2 : SqT K H b ys) (n1 : xs ≠ []) (n2 : ys ≠ []) (hz : xs.length + ys.length ≤ 1000) (k : ∀ p H', H p = none → Same H H' → H' p = some (.tup (xs ++ ys)) → Q (.ref p) H') : rCatA K (.ref a) (.ref b) H Q :=
  ⟨a, b, xs, ys, rfl, rfl, h1, h2, Nat.le_trans hz (by decide), fun e => absurd e n1, fun _ e => absurd e n2, fun _ _ p hp => k p _ hp (Same.nw hp (Same.refl H)) upd_same⟩
theorem slL {a : Addr} {xs : List V} {lo hi : Option Int} (hq : SqL K H a xs) (k : ∀ p H', H p = none → Same H H' → H' p = some (.lst (cutV xs lo hi)) → Q (.ref p) H') : rSlL K (.ref a) lo hi H Q :=
  ⟨a, xs, rfl, hq, fun p hp => k p _ hp (Same.nw hp (Same.refl H)) upd_same⟩
theorem lstL {p : Addr} {xs : List V} (hq : SqL K H p xs) (k : ∀ q H', H q = none → Same H H' → H' q = some (.lst xs) → Q (.ref q) H') : rLst K [.ref p] H Q := ⟨p, xs, rfl, .inl hq, fun q hp => k q _ hp (Same.nw hp (Same.refl H)) upd_same⟩
theorem lstT {p : Addr} {xs : List V} (hq : SqT K H p xs) (k : ∀ q H', H q = none → Same H H' → H' q = some (.lst xs) → Q (.ref q) H') : rLst K [.ref p] H Q := ⟨p, xs, rfl, .inr hq, fun q hp => k q _ hp (Same.nw hp (Same.refl H)) upd_same⟩
theorem tplL {p : Addr} {xs : List V} (hq : SqL K H p xs) (k : ∀ q H', H q = none → Same H H' → H' q = some (.tup xs) → Q (.ref q) H') : rTpl K [.ref p] H Q := ⟨p, xs, rfl, .inl ⟨hq, fun q hp => k q _ hp (Same.nw hp (Same.refl H)) upd_same⟩⟩
theorem addS {i j : Str} (h : i.length + j.length ≤ 100000) (k : Q (.str (i ++ j)) H) : rAddS (.str i) (.str j) H Q := ⟨i, j, rfl, rfl, Nat.le_trans h (by decide), k⟩
theorem lenS {z : Str} (h : z.length ≤ 100000) (k : Q (.int z.length) H) : rLenStr [.str z] H Q := ⟨z, rfl, Nat.le_trans h (by decide), k⟩
theorem join {a : Str} {p : Addr} {ys : List Str} (hq : SqL K H p (ys.map V.str)) (hz : (ys.map (·.length)).sum + ys.length * a.length ≤ 16777216) (k : Q (.str (Txt.join a ys)) H) : rJoin K (.str a) [.ref p] H Q := ⟨a, p, ys, rfl, rfl, .inl hq, hz, k⟩
theorem split {a b : Str} (hb : (b.length == 0) = false) (hz : a.length ≤ 100000) (k : ∀ p H', H p = none → Same H H' → H' p = some (.lst ((Txt.split a b).map V.str)) → Q (.ref p) H') : rSplit (.str a) [.str b] H Q :=
  ⟨a, b, rfl, rfl, hb, Nat.le_trans (m := 100002) (by omega) (by decide), fun p hp => k p _ hp (Same.nw hp (Same.refl H)) upd_same⟩
theorem catL {a b : Addr} {xs ys : List V} (h1 : H a = some (.lst xs)) (h2 : H b = some (.lst ys)) (hz : xs.length + ys.length ≤ 100000) (k : ∀ p H', H p = none → Same H H' → H' p = some (.lst (xs ++ ys)) → Q (.ref p) H') : rCat (.ref a) (.ref b) H Q :=
  ⟨a, b, xs, ys, rfl, rfl, h1, h2, Nat.le_trans hz (by decide), fun p hp => k p _ hp (Same.nw hp (Same.refl H)) upd_same⟩
theorem catK (k : ta σ H fun x H1 => tb σ H1 fun y H2 => rCat x y H2 Q) : tOp rCat ta tb σ H Q := k
theorem sumL {a : Addr} {ns : List Int} (hq : SqL K H a (ns.map V.int)) (k : Q (.int ns.sum) H) : rSum K [.ref a] H Q := ⟨a, ns, rfl, hq, k⟩
theorem sumT {a : Addr} {ns : List Int} (hq : SqT K H a (ns.map V.int)) (k : Q (.int ns.sum) H) : rSumT K [.ref a] H Q := ⟨a, ns, rfl, hq, k⟩
/-! targets, statements -/
theorem name {i : Nat} {v : V} {QS : L2.St → Hp → Prop} (k : QS (σ.set i (some v)) H) : gName i v σ H QS := k
theorem gtup {n : Nat} {tg : TGs} {a : Addr} {xs : List V} {QS : L2.St → Hp → Prop} (hq : SqT K H a xs) (hl : xs.length = n) (k : tg xs σ H QS) : gTup K n tg (.ref a) σ H QS := ⟨a, xs, rfl, hq, hl, k⟩
theorem glst {n : Nat} {tg : TGs} {a : Addr} {xs : List V} {QS : L2.St → Hp → Prop} (hq : SqL K H a xs) (hl : xs.length = n) (k : tg xs σ H QS) : gLst K n tg (.ref a) σ H QS := ⟨a, xs, rfl, hq, hl, k⟩
theorem gcons {tg : TG} {tu : TGs} {v : V} {r : List V} {QS : L2.St → Hp → Prop} (k : tg v σ H fun σ' H' => tu r σ' H' QS) : gCons tg tu (v :: r) σ H QS := ⟨v, r, rfl, k⟩
theorem gnil {QS : L2.St → Hp → Prop} (k : QS σ H) : gNil [] σ H QS := ⟨rfl, k⟩
theorem seq (k : ts { D with nx := tr D } σ H) : tSeq ts tr D σ H := k
theorem next (k : D.nx σ H) : tNext D σ H := k
theorem cont (k : D.ct σ H) : tCont D σ H := k
theorem drop (k : te σ H fun _ H1 => D.nx σ H1) : tDrop te D σ H := k
theorem ret (k : te σ H D.rt) : tRet te D σ H := k
theorem retN (k : D.rt .non H) : tRetN D σ H := k
theorem ifS (k : tt σ H fun b H1 => if b = true then ts D σ H1 else tr D σ H1) : tIfS tt ts tr D σ H := k
theorem asg {g : TG} (k : te σ H fun x H1 => g x σ H1 D.nx) : tAsg te g D σ H := k
def parK (i j : Nat) (σ : L2.St) (D : Ends) : List V → Hp → Prop := fun vs H1 => ∃ v w, vs = [v, w] ∧ D.nx ((σ.set i (some v)).set j (some w)) H1
theorem par {i j : Nat} (k : t σ H (parK i j σ D)) : tPar i j t D σ H := k
theorem parK_i {i j : Nat} {v w : V} (k : D.nx ((σ.set i (some v)).set j (some w)) H) : parK i j σ D [v, w] H := ⟨v, w, rfl, k⟩
theorem aug {i : Nat} {x : V} {ti : TIp} (h : σ[i]? = some (some x)) (k : te σ H fun y H1 => ti x y H1 fun z H2 => D.nx (σ.set i (some z)) H2) : tAug i te ti D σ H := ⟨x, h, k⟩
theorem ip {f : Int → Int → Int} {i j : Int} (k : Q (.int (f i j)) H) : ipI f (.int i) (.int j) H Q := ⟨i, j, rfl, rfl, k⟩
theorem ift {A B : Prop} (h : A) : if true = true then A else B := by rw [if_pos rfl]; exact h
theorem iff {A B : Prop} (h : B) : if false = true then A else B := by rw [if_neg Bool.false_ne_true]; exact h
theorem ifnt {A B : Prop} (h : B) : if (!true) = true then A else B := by rw [if_neg (by decide)]; exact h
theorem ifnf {A B : Prop} (h : A) : if (!false) = true then A else B := by rw [if_pos (show (!false) = true from rfl)]; exact h
theorem inS {x : V} {p : Addr} {xs : List V} (hq : SqL K H p xs ∨ SqT K H p xs) (fx : flatV x = true) (fs : xs.all flatV = true) (k : Q (.bl (inV x xs)) H) : rIn K false x (.ref p) H Q := ⟨p, xs, rfl, hq, fx, fs, by rw [if_neg (by decide)]; exact k⟩
theorem niS {x : V} {p : Addr} {xs : List V} (hq : SqL K H p xs ∨ SqT K H p xs) (fx : flatV x = true) (fs : xs.all flatV = true) (k : Q (.bl (!inV x xs)) H) : rIn K true x (.ref p) H Q := ⟨p, xs, rfl, hq, fx, fs, by rw [if_pos rfl]; exact k⟩
theorem bb {b : Bool} {A B : Prop} (h1 : b = true → A) (h2 : b = false → B) : if b = true then A else B := by
  cases b with
  | true => exact ift (h1 rfl)
  | false => exact iff (h2 rfl)
/-! tests whose answer is known, or both -/
section
variable {A B : Prop} {p : Prop} {ip : Decidable p} {a b : Int}
theorem dT (h : p) (k : A) : if decide p = true then A else B := by rw [if_pos (decide_eq_true h)]; exact k
theorem dF (h : ¬ p) (k : B) : if decide p = true then A else B := by rw [if_neg (by rw [decide_eq_false h]; decide)]; exact k
theorem nT (h : p) (k : B) : if (!decide p) = true then A else B := by rw [decide_eq_true h]; exact ifnt k
theorem nF (h : ¬ p) (k : A) : if (!decide p) = true then A else B := by rw [decide_eq_false h]; exact ifnf k
theorem d2 (h1 : p → A) (h2 : ¬ p → B) : if decide p = true then A else B := by
  by_cases h : p
  · exact dT h (h1 h)
  · exact dF h (h2 h)
theorem n2 (h1 : p → B) (h2 : ¬ p → A) : if (!decide p) = true then A else B := by
  by_cases h : p
  · exact nT h (h1 h)
  · exact nF h (h2 h)
theorem vi (h : a ≠ b) : ¬ V.int a = V.int b := fun q => h (by injection q)
theorem eT (h : a = b) (k : A) : if decide (V.int a = V.int b) = true then A else B := dT (by rw [h]) k
theorem eF (h : a ≠ b) (k : B) : if decide (V.int a = V.int b) = true then A else B := dF (vi h) k
theorem e2 (h1 : a = b → A) (h2 : a ≠ b → B) : if decide (V.int a = V.int b) = true then A else B := by
  by_cases h : a = b
  · exact eT h (h1 h)
  · exact eF h (h2 h)
theorem neT (h : a = b) (k : B) : if (!decide (V.int a = V.int b)) = true then A else B := nT (by rw [h]) k
theorem neF (h : a ≠ b) (k : A) : if (!decide (V.int a = V.int b)) = true then A else B := nF (vi h) k
theorem ne2 (h1 : a = b → B) (h2 : a ≠ b → A) : if (!decide (V.int a = V.int b)) = true then A else B := by
  by_cases h : a = b
  · exact neT h (h1 h)
  · exact neF h (h2 h)
end
/-! appending to what is there -/
theorem app {l : Addr} {xs : List V} {y : V} (h : H l = some (.lst xs)) (hz : xs.length < 100000) (k : Q .non (upd H l (.lst (xs ++ [y])))) : rAppend (.ref l) [y] H Q := ⟨l, xs, y, rfl, rfl, h, Nat.lt_of_lt_of_le hz (by decide), k⟩
/-! equality of data: rd_eq takes it by the data's readings -/
theorem eqD {x y : V} {d e : PyData} (h1 : L2.Dp K H x d) (h2 : L2.Dp K H y e) (s1 : SeqAt.shaped d = true) (s2 : SeqAt.shaped e = true) (k : Q (.bl (PyData.eqv d e)) H) : rEqD K x y H Q := ⟨d, e, h1, h2, s1, s2, k⟩
theorem range_get {α β : Type} (l : List α) (d : α) (g : α → β) : (List.range l.length).map (fun i => g (l.getD i d)) = l.map g := by
  refine List.ext_getElem? fun i => ?_
  rw [List.getElem?_map, List.getElem?_map]
  by_cases h : i < l.length
  · rw [List.getElem?_range h, List.getElem?_eq_getElem h]
    simp [List.getD_eq_getElem?_getD, List.getElem?_eq_getElem h]
  · rw [List.getElem?_eq_none (by simp; omega), List.getElem?_eq_none (by omega)]
    rfl
theorem getD_of {α : Type} {l : List α} {i : Nat} {x d : α} (h : l[i]? = some x) : l.getD i d = x := by
  rw [List.getD_eq_getElem?_getD, h]
  rfl
/-! what is walked -/
def rngK (R : It → Hp → Prop) : List V → Hp → Prop := fun vs H1 => ∃ j : Int, vs = [.int j] ∧ -(2 ^ 62) ≤ j ∧ j < 2 ^ 62 ∧ R (Itr 0 j.toNat) H1
theorem rng {R : It → Hp → Prop} (k : t σ H (rngK R)) : iRng1 t σ H R := k
theorem rngK_n {R : It → Hp → Prop} {n : Nat} (h : n ≤ 1000000000) (k : R (Itr 0 n) H) : rngK R [.int (n : Int)] H := ⟨n, rfl, by omega, by omega, by rw [Int.toNat_natCast]; exact k⟩
theorem rngK_z {R : It → Hp → Prop} {z : Int} (h : z.toNat ≤ 1000000000) (h0 : -1000000000 ≤ z) (k : R (Itr 0 z.toNat) H) : rngK R [.int z] H := ⟨z, rfl, by omega, by omega, k⟩
theorem rngK_lit {R : It → Hp → Prop} {n : Nat} (h : n ≤ 1000000000) (k : R (Itr 0 (OfNat.ofNat n : Nat)) H) : rngK R [.int (OfNat.ofNat n : Int)] H := rngK_n h k
def rng2K (R : It → Hp → Prop) : List V → Hp → Prop := fun vs H1 => ∃ i j : Int, vs = [.int i, .int j] ∧ (-(2 ^ 62) ≤ i ∧ i < 2 ^ 62 ∧ -(2 ^ 62) ≤ j ∧ j < 2 ^ 62) ∧ R (Itr i (j - i).toNat) H1
theorem rng2 {R : It → Hp → Prop} (k : t σ H (rng2K R)) : iRng2 t σ H R := k
theorem rng2K_i {R : It → Hp → Prop} {i j : Int} (hb : -(2 ^ 62) ≤ i ∧ i < 2 ^ 62 ∧ -(2 ^ 62) ≤ j ∧ j < 2 ^ 62) (k : R (Itr i (j - i).toNat) H) : rng2K R [.int i, .int j] H := ⟨i, j, rfl, hb, k⟩
def zipK (K : PySem.W.Frag) (R : It → Hp → Prop) : List V → Hp → Prop := fun vs H1 => ∃ a b xs ys, vs = [.ref a, .ref b] ∧ ((SqL K H1 a xs ∧ SqL K H1 b ys ∧ R (L2.Itz K a b) H1) ∨ (SqT K H1 a xs ∧ SqT K H1 b ys ∧ R (RZ.ItzT K a b) H1))
theorem zip {R : It → Hp → Prop} (k : t σ H (zipK K R)) : RZ.iZipA K t σ H R := k
theorem zipK_t {R : It → Hp → Prop} {a b : Addr} {xs ys : List V} (ha : SqT K H a xs) (hb : SqT K H b ys) (k : R (RZ.ItzT K a b) H) : zipK K R [.ref a, .ref b] H := ⟨a, b, xs, ys, rfl, .inr ⟨ha, hb, k⟩⟩
def listK (K : PySem.W.Frag) (R : It → Hp → Prop) : VK := fun x H1 => ∃ a, x = .ref a ∧ (∃ xs, SqL K H1 a xs) ∧ R (Itl K a) H1
theorem ilist {R : It → Hp → Prop} (k : ta σ H (listK K R)) : iList K ta σ H R := k
theorem listK_i {R : It → Hp → Prop} {a : Addr} {xs : List V} (hq : SqL K H a xs) (k : R (Itl K a) H) : listK K R (.ref a) H := ⟨a, rfl, ⟨xs, hq⟩, k⟩
def ituK (K : PySem.W.Frag) (R : It → Hp → Prop) : VK := fun x H1 => ∃ a, x = .ref a ∧ (∃ xs, SqT K H1 a xs) ∧ R (Itt K a) H1
theorem itup {R : It → Hp → Prop} (k : ta σ H (ituK K R)) : iTup K ta σ H R := k
theorem ituK_i {R : It → Hp → Prop} {a : Addr} {xs : List V} (hq : SqT K H a xs) (k : R (Itt K a) H) : ituK K R (.ref a) H := ⟨a, rfl, ⟨xs, hq⟩, k⟩
def forK (g : TG) (tb : TS) (D : Ends) (σ : L2.St) (J : It) (H1 : Hp) : Prop := ∃ W : Nat → Nat → L2.St → Hp → Prop, (∃ m, W 0 m σ H1) ∧ ∀ i m σ H, W i m σ H →
  (J.stop i H ∧ D.nx σ H) ∨ (J.go i H ∧ ∃ N : L2.St → Hp → Prop, (∀ σ' H', N σ' H' → ∃ m', m' < m ∧ W (i + 1) m' σ' H') ∧ ∀ x H', J.yld i H x H' → g x σ H' fun σ2 H2 => tb { D with nx := N, ct := N, bk := D.nx } σ2 H2)
theorem tfor {wi : TI} {g : TG} (k : wi σ H (forK g ts D σ)) : tFor wi g ts D σ H := k
def lcK (g : TG) (tt : L2.TT) (te : TE) (vs : List Nat) (σ : L2.St) (Q : VK) (J : It) (H1 : Hp) : Prop := ∀ D, H1 D = none → ∃ W : Nat → Nat → Hp → Prop, (∃ m, W 0 m (upd H1 D (.lst []))) ∧ ∀ i m H, W i m H →
  (J.stop i H ∧ Q (.ref D) H) ∨ (J.go i H ∧ ∃ Nx : Hp → Prop, (∀ H', Nx H' → ∃ m', m' < m ∧ W (i + 1) m' H') ∧ ∀ x H', J.yld i H x H' → g x (wipe σ vs) H' fun σ2 H2 => wipe σ2 vs = wipe σ vs ∧ tt σ2 H2 fun b H3 =>
    if b = true then te σ2 H3 fun y H4 => ∃ acc, H4 D = some (.lst acc) ∧ acc.length < sizeLine ∧ Nx (upd H4 D (.lst (acc ++ [y]))) else Nx H3)
theorem tlc {wi : TI} {g : TG} {vs : List Nat} (k : wi σ H (lcK g tt te vs σ Q)) : tLc wi g tt te vs σ H Q := k
/-- for i in range(n): the items are 0, 1, .. -/
theorem for_rng {n : Nat} {g : TG} (Pv : Nat → L2.St → Hp → Prop) (h0 : Pv 0 σ H) (hs : ∀ (i : Nat) σ H, i < n → Pv i σ H → g (.int (i : Int)) σ H fun σ2 H2 => ts { D with nx := Pv (i + 1), ct := Pv (i + 1), bk := D.nx } σ2 H2) (hd : ∀ σ H, Pv n σ H → D.nx σ H) :
    forK g ts D σ (Itr 0 n) H :=
  for_range (lo := 0) (n := n) Pv h0 (fun i σ H hi p => by have z := hs i σ H hi p; rw [Int.zero_add]; exact z) hd
/-- from lo -/
theorem for_rng2 {lo : Int} {n : Nat} {g : TG} (Pv : Nat → L2.St → Hp → Prop) (h0 : Pv 0 σ H) (hs : ∀ (i : Nat) σ H, i < n → Pv i σ H → g (.int (lo + i)) σ H fun σ2 H2 => ts { D with nx := Pv (i + 1), ct := Pv (i + 1), bk := D.nx } σ2 H2) (hd : ∀ σ H, Pv n σ H → D.nx σ H) :
    forK g ts D σ (Itr lo n) H := for_range (lo := lo) (n := n) Pv h0 hs hd
theorem for_lst {a : Addr} {xs : List V} {g : TG} (Pv : Nat → L2.St → Hp → Prop) (h0 : Pv 0 σ H) (hl : ∀ i σ H, i ≤ xs.length → Pv i σ H → SqL K H a xs)
    (hs : ∀ i x σ H, xs[i]? = some x → Pv i σ H → g x σ H fun σ2 H2 => ts { D with nx := Pv (i + 1), ct := Pv (i + 1), bk := D.nx } σ2 H2) (hd : ∀ σ H, Pv xs.length σ H → D.nx σ H) : forK g ts D σ (Itl K a) H := for_list Pv h0 hl hs hd
theorem for_tpl {a : Addr} {xs : List V} {g : TG} (Pv : Nat → L2.St → Hp → Prop) (h0 : Pv 0 σ H) (hl : ∀ i σ H, i ≤ xs.length → Pv i σ H → SqT K H a xs)
    (hs : ∀ i x σ H, xs[i]? = some x → Pv i σ H → g x σ H fun σ2 H2 => ts { D with nx := Pv (i + 1), ct := Pv (i + 1), bk := D.nx } σ2 H2) (hd : ∀ σ H, Pv xs.length σ H → D.nx σ H) : forK g ts D σ (Itt K a) H := for_tup Pv h0 hl hs hd
/-- an item's turn: what the item is worth, nothing that was there changed -/
def Turn1 (g : TG) (te : TE) (σ : L2.St) (vs : List Nat) (x : V) (y : V) (H0 : Hp) : Prop :=
  ∀ H' (QS : L2.St → Hp → Prop), Same H0 H' → (∀ σ2, wipe σ2 vs = wipe σ vs → (∀ Q' : VK, (∀ H'', Same H' H'' → Q' y H'') → te σ2 H' Q') → QS σ2 H') → g x (wipe σ vs) H' QS
theorem turn1 {i : Nat} {x y : V} {H0 : Hp} {vs : List Nat} (hw : wipe ((wipe σ vs).set i (some x)) vs = wipe σ vs) (h : ∀ H', Same H0 H' → ∀ Q' : VK, (∀ H'', Same H' H'' → Q' y H'') → te ((wipe σ vs).set i (some x)) H' Q') : Turn1 (gName i) te σ vs x y H0 :=
  fun H' QS S k => k _ hw fun Q' q => h H' S Q' q
theorem turn_tup2 {K : PySem.W.Frag} {i j : Nat} {r : Addr} {a b y : V} {H0 : Hp} {vs : List Nat} (hw : wipe (((wipe σ vs).set i (some a)).set j (some b)) vs = wipe σ vs) (hx : SqT K H0 r [a, b]) (h : ∀ H', Same H0 H' → ∀ Q' : VK, (∀ H'', Same H' H'' → Q' y H'') → te (((wipe σ vs).set i (some a)).set j (some b)) H' Q') :
    Turn1 (gTup K 2 (gCons (gName i) (gCons (gName j) gNil))) te σ vs (.ref r) y H0 :=
  fun H' QS S k => ⟨r, _, rfl, sqt_sm S hx, rfl, _, _, rfl, _, _, rfl, rfl, k _ hw fun Q' q => h H' S Q' q⟩
/-- [e for i in range(n)], e worth f i -/
theorem lc_rng {n : Nat} {g : TG} {vs : List Nat} (f : Nat → V) (hn : n ≤ 100000) (hs : ∀ i : Nat, i < n → Turn1 g te σ vs (.int (i : Int)) (f i) H) (k : ∀ D H', H D = none → Same H H' → H' D = some (.lst ((List.range n).map f)) → Q (.ref D) H') :
    lcK g tYes te vs σ Q (Itr 0 n) H := fun D hD => by
  refine lc_range (lo := 0) (n := n) (fun i H2 => Same H H2 ∧ H2 D = some (.lst ((List.range i).map f))) ⟨Same.nw hD (Same.refl H), upd_same⟩ ?_ fun H2 ⟨S2, h2⟩ => k D H2 hD S2 h2
  rintro i H2 hi ⟨S2, h2⟩
  rw [Int.zero_add]
  refine hs i hi H2 _ S2 fun σ2 hw q => ⟨hw, yes (ift (q _ fun H4 S4 => ⟨_, S4 _ _ h2, Nat.lt_of_le_of_lt (m := 100000) (by simp; omega) (by decide), fun b o e => ?_, ?_⟩))⟩
  · rw [upd_ne (ne_of_none e hD)]
    exact S4 _ _ (S2 _ _ e)
  · rw [upd_same, List.range_succ, List.map_append]
    rfl
theorem lc_rngL {n : Nat} {lo : Int} {g : TG} {vs : List Nat} (f : Nat → V) (hn : n ≤ 100000) (hs : ∀ i : Nat, i < n → Turn1 g te σ vs (.int (lo + i)) (f i) H) (k : ∀ D H', H D = none → Same H H' → H' D = some (.lst ((List.range n).map f)) → Q (.ref D) H') :
    lcK g tYes te vs σ Q (Itr lo n) H := fun D hD => by
  refine lc_range (lo := lo) (n := n) (fun i H2 => Same H H2 ∧ H2 D = some (.lst ((List.range i).map f))) ⟨Same.nw hD (Same.refl H), upd_same⟩ ?_ fun H2 ⟨S2, h2⟩ => k D H2 hD S2 h2
  rintro i H2 hi ⟨S2, h2⟩
  refine hs i hi H2 _ S2 fun σ2 hw q => ⟨hw, yes (ift (q _ fun H4 S4 => ⟨_, S4 _ _ h2, Nat.lt_of_le_of_lt (m := 100000) (by simp; omega) (by decide), fun b o e => ?_, ?_⟩))⟩
  · rw [upd_ne (ne_of_none e hD)]
    exact S4 _ _ (S2 _ _ e)
  · rw [upd_same, List.range_succ, List.map_append]
    rfl
/-- a comprehension whose items are new objects: R tells what the i-th item is -/
theorem lc_rngR {n : Nat} {lo : Int} {idx : Nat} {vs : List Nat} (R : Nat → V → Hp → Prop) (hn : n ≤ 100000) (hw : ∀ v : V, wipe ((wipe σ vs).set idx (some v)) vs = wipe σ vs)
    (hs : ∀ i : Nat, i < n → ∀ H' D, H D = none → Same H H' → H' D ≠ none → ∀ Q' : VK, (∀ y H'', Same H' H'' → (∀ Hx, But D H'' Hx → R i y Hx) → Q' y H'') → te ((wipe σ vs).set idx (some (.int (lo + i)))) H' Q')
    (k : ∀ D ys H', H D = none → Same H H' → H' D = some (.lst ys) → ys.length = n → (∀ (i : Nat) y, ys[i]? = some y → R i y H') → Q (.ref D) H') : lcK (gName idx) tYes te vs σ Q (Itr lo n) H := fun D hD => by
  refine lc_range (lo := lo) (n := n) (fun i H2 => ∃ ys : List V, Same H H2 ∧ H2 D = some (.lst ys) ∧ ys.length = i ∧ ∀ (j : Nat) y, ys[j]? = some y → ∀ Hx, But D H2 Hx → R j y Hx) ⟨[], Same.nw hD (Same.refl H), upd_same, rfl, fun j y h => by cases h⟩ ?_ fun H2 ⟨ys, S2, h2, hl, hR⟩ => k D ys H2 hD S2 h2 hl fun j y h => hR j y h H2 fun _ _ _ e => e
  rintro i H2 hi ⟨ys, S2, h2, hl, hR⟩
  refine ⟨hw _, yes (ift (hs i hi H2 D hD S2 (by rw [h2]; simp) _ fun y H4 S4 hy => ⟨_, S4 _ _ h2, Nat.lt_of_le_of_lt (m := 100000) (by omega) (by decide), ys ++ [y], fun b o e => ?_, upd_same, by simp [hl], fun j z hz Hx hb => ?_⟩))⟩
  · rw [upd_ne (ne_of_none e hD)]
    exact S4 _ _ (S2 _ _ e)
  · have b4 : But D H4 Hx := fun b o ne e => hb b o ne (by rw [upd_ne ne]; exact e)
    rcases Nat.lt_or_ge j ys.length with lt1 | ge1
    · rw [List.getElem?_append_left lt1] at hz
      exact hR j z hz Hx fun b o ne e => b4 b o ne (S4 _ _ e)
    · rw [List.getElem?_append_right ge1] at hz
      have ej : j - ys.length = 0 := by
        have := (List.getElem?_eq_some_iff.mp hz).1
        simp at this
        omega
      rw [ej] at hz
      obtain rfl : y = z := Option.some.inj hz
      obtain rfl : j = i := by omega
      exact hy Hx b4
/-- over a range by steps -/
theorem for_itc {lo c : Int} {n : Nat} {g : TG} (Pv : Nat → L2.St → Hp → Prop) (h0 : Pv 0 σ H) (hs : ∀ (i : Nat) σ H, i < n → Pv i σ H → g (.int (lo + (i : Nat) * c)) σ H fun σ2 H2 => ts { D with nx := Pv (i + 1), ct := Pv (i + 1), bk := D.nx } σ2 H2) (hd : ∀ σ H, Pv n σ H → D.nx σ H) :
    forK g ts D σ (Itc lo c n) H := for_rangeC Pv h0 hs hd
def rng3K (R : It → Hp → Prop) : List V → Hp → Prop := fun vs H1 => ∃ (i j c : Int) (n : Nat), vs = [.int i, .int j, .int c] ∧ RgC i j c n ∧ R (Itc i c n) H1
theorem rng3 {R : It → Hp → Prop} (k : t σ H (rng3K R)) : iRng3 t σ H R := k
theorem rng3K_i {R : It → Hp → Prop} {i j c : Int} {n : Nat} (h : RgC i j c n) (k : R (Itc i c n) H) : rng3K R [.int i, .int j, .int c] H := ⟨i, j, c, n, rfl, h, k⟩
/-- [e for x in a list], e worth f of the place -/
theorem lc_lst {a : Addr} {xs : List V} {g : TG} {vs : List Nat} (f : Nat → V) (ha : SqL K H a xs) (hn : xs.length ≤ 100000) (hs : ∀ i x, xs[i]? = some x → Turn1 g te σ vs x (f i) H) (k : ∀ D H', H D = none → Same H H' → H' D = some (.lst ((List.range xs.length).map f)) → Q (.ref D) H') :
    lcK g tYes te vs σ Q (Itl K a) H := fun D hD => by
  refine lc_list (K := K) (a := a) (xs := xs) (fun i H2 => Same H H2 ∧ H2 D = some (.lst ((List.range i).map f))) ⟨Same.nw hD (Same.refl H), upd_same⟩ (fun i H2 _ ⟨S2, _⟩ => S2.seq ha) ?_ fun H2 ⟨S2, h2⟩ => k D H2 hD S2 h2
  rintro i x H2 hx ⟨S2, h2⟩
  have hi : i < xs.length := (List.getElem?_eq_some_iff.mp hx).1
  refine hs i x hx H2 _ S2 fun σ2 hw q => ⟨hw, yes (ift (q _ fun H4 S4 => ⟨_, S4 _ _ h2, Nat.lt_of_le_of_lt (m := 100000) (by simp; omega) (by decide), fun b o e => ?_, ?_⟩))⟩
  · rw [upd_ne (ne_of_none e hD)]
    exact S4 _ _ (S2 _ _ e)
  · rw [upd_same, List.range_succ, List.map_append]
    rfl
theorem lc_tpl {a : Addr} {xs : List V} {g : TG} {vs : List Nat} (f : Nat → V) (ha : SqT K H a xs) (hn : xs.length ≤ 100000) (hs : ∀ i x, xs[i]? = some x → Turn1 g te σ vs x (f i) H) (k : ∀ D H', H D = none → Same H H' → H' D = some (.lst ((List.range xs.length).map f)) → Q (.ref D) H') :
    lcK g tYes te vs σ Q (Itt K a) H := fun D hD => by
  refine lc_tup (K := K) (a := a) (xs := xs) (fun i H2 => Same H H2 ∧ H2 D = some (.lst ((List.range i).map f))) ⟨Same.nw hD (Same.refl H), upd_same⟩ (fun i H2 _ ⟨S2, _⟩ => sqt_sm S2 ha) ?_ fun H2 ⟨S2, h2⟩ => k D H2 hD S2 h2
  rintro i x H2 hx ⟨S2, h2⟩
  have hi : i < xs.length := (List.getElem?_eq_some_iff.mp hx).1
  refine hs i x hx H2 _ S2 fun σ2 hw q => ⟨hw, yes (ift (q _ fun H4 S4 => ⟨_, S4 _ _ h2, Nat.lt_of_le_of_lt (m := 100000) (by simp; omega) (by decide), fun b o e => ?_, ?_⟩))⟩
  · rw [upd_ne (ne_of_none e hD)]
    exact S4 _ _ (S2 _ _ e)
  · rw [upd_same, List.range_succ, List.map_append]
    rfl
/-- with an if: the test's answer, the item's worth -/
def Turn2 (g : TG) (tt : L2.TT) (te : TE) (σ : L2.St) (vs : List Nat) (x : V) (b : Bool) (y : V) (H0 : Hp) : Prop :=
  ∀ H' (QS : L2.St → Hp → Prop), Same H0 H' → (∀ σ2, wipe σ2 vs = wipe σ vs → (∀ Q' : Bool → Hp → Prop, (∀ H'', Same H' H'' → Q' b H'') → tt σ2 H' Q') → (∀ H1, Same H' H1 → b = true → ∀ Q' : VK, (∀ H'', Same H1 H'' → Q' y H'') → te σ2 H1 Q') → QS σ2 H') → g x (wipe σ vs) H' QS
theorem turn2 {i : Nat} {x y : V} {b : Bool} {H0 : Hp} {vs : List Nat} (hw : wipe ((wipe σ vs).set i (some x)) vs = wipe σ vs) (h1 : ∀ H', Same H0 H' → ∀ Q' : Bool → Hp → Prop, (∀ H'', Same H' H'' → Q' b H'') → tt ((wipe σ vs).set i (some x)) H' Q')
    (h2 : ∀ H', Same H0 H' → b = true → ∀ Q' : VK, (∀ H'', Same H' H'' → Q' y H'') → te ((wipe σ vs).set i (some x)) H' Q') : Turn2 (gName i) tt te σ vs x b y H0 :=
  fun H' QS S k => k _ hw (fun Q' q => h1 H' S Q' q) fun H1 S1 hb Q' q => h2 H1 (S.trans S1) hb Q' q
theorem lc_rng_if {n : Nat} {lo : Int} {g : TG} {vs : List Nat} (c : Nat → Bool) (f : Nat → V) (hn : n ≤ 100000) (hs : ∀ i : Nat, i < n → Turn2 g tt te σ vs (.int (lo + i)) (c i) (f i) H) (k : ∀ D H', H D = none → Same H H' → H' D = some (.lst (((List.range n).filter c).map f)) → Q (.ref D) H') :
    lcK g tt te vs σ Q (Itr lo n) H := fun D hD => by
  refine lc_range (lo := lo) (n := n) (fun i H2 => Same H H2 ∧ H2 D = some (.lst (((List.range i).filter c).map f))) ⟨Same.nw hD (Same.refl H), upd_same⟩ ?_ fun H2 ⟨S2, h2⟩ => k D H2 hD S2 h2
  rintro i H2 hi ⟨S2, h2⟩
  have e1 : (List.range (i + 1)).filter c = (List.range i).filter c ++ if c i = true then [i] else [] := by
    rw [List.range_succ, List.filter_append]
    congr 1
    by_cases h : c i = true <;> simp [h]
  have hl : ((List.range i).filter c).length ≤ i := by
    have := List.length_filter_le c (List.range i)
    rw [List.length_range] at this
    exact this
  refine hs i hi H2 _ S2 fun σ2 hw q1 q2 => ⟨hw, q1 _ fun H3 S3 => ?_⟩
  have h3 := S3 _ _ h2
  refine bb (fun hc => q2 H3 S3 hc _ fun H4 S4 => ⟨_, S4 _ _ h3, Nat.lt_of_le_of_lt (m := 100000) (by rw [List.length_map]; omega) (by decide), fun b o e => ?_, ?_⟩) fun hc => ⟨S2.trans S3, ?_⟩
  · rw [upd_ne (ne_of_none e hD)]
    exact S4 _ _ (S3 _ _ (S2 _ _ e))
  · rw [upd_same, e1, if_pos hc, List.map_append]
    rfl
  · rw [e1, if_neg (by rw [hc]; decide), List.append_nil]
    exact h3
theorem lc_lst_if {a : Addr} {xs : List V} {g : TG} {vs : List Nat} (c : Nat → Bool) (f : Nat → V) (ha : SqL K H a xs) (hn : xs.length ≤ 100000) (hs : ∀ i x, xs[i]? = some x → Turn2 g tt te σ vs x (c i) (f i) H) (k : ∀ D H', H D = none → Same H H' → H' D = some (.lst (((List.range xs.length).filter c).map f)) → Q (.ref D) H') :
    lcK g tt te vs σ Q (Itl K a) H := fun D hD => by
  refine lc_list (K := K) (a := a) (xs := xs) (fun i H2 => Same H H2 ∧ H2 D = some (.lst (((List.range i).filter c).map f))) ⟨Same.nw hD (Same.refl H), upd_same⟩ (fun i H2 _ ⟨S2, _⟩ => S2.seq ha) ?_ fun H2 ⟨S2, h2⟩ => k D H2 hD S2 h2
  rintro i x H2 hx ⟨S2, h2⟩
  have hi : i < xs.length := (List.getElem?_eq_some_iff.mp hx).1
  have e1 : (List.range (i + 1)).filter c = (List.range i).filter c ++ if c i = true then [i] else [] := by
    rw [List.range_succ, List.filter_append]
    congr 1
    by_cases h : c i = true <;> simp [h]
  have hl : ((List.range i).filter c).length ≤ i := by
    have := List.length_filter_le c (List.range i)
    rw [List.length_range] at this
    exact this
  refine hs i x hx H2 _ S2 fun σ2 hw q1 q2 => ⟨hw, q1 _ fun H3 S3 => ?_⟩
  have h3 := S3 _ _ h2
  refine bb (fun hc => q2 H3 S3 hc _ fun H4 S4 => ⟨_, S4 _ _ h3, Nat.lt_of_le_of_lt (m := 100000) (by rw [List.length_map]; omega) (by decide), fun b o e => ?_, ?_⟩) fun hc => ⟨S2.trans S3, ?_⟩
  · rw [upd_ne (ne_of_none e hD)]
    exact S4 _ _ (S3 _ _ (S2 _ _ e))
  · rw [upd_same, e1, if_pos hc, List.map_append]
    rfl
  · rw [e1, if_neg (by rw [hc]; decide), List.append_nil]
    exact h3
end Rd
end Tk

namespace Tk
open PySem PySem.Spec PyProof.Rows L2
/-- a number that is not negative, as a value -/
abbrev vn (n : Nat) : V := .int (n : Int)
/-- all but d stands as before; d holds a source -/
structure Src (d : Addr) (H H' : Hp) : Prop where
  but : But d H H'
  at_ : ∃ cs, H' d = some (.lst cs) ∧ DSt cs
theorem But.free {d : Addr} {H H' : Hp} (b : But d H H') (hd : ∃ cs, H d = some (.lst cs)) {p : Addr} (h : H' p = none) (hd' : ∃ cs, H' d = some (.lst cs)) : H p = none := by
  cases q : H p with
  | none => rfl
  | some o =>
    by_cases e : p = d
    · obtain ⟨cs, z⟩ := hd'
      rw [e, z] at h
      cases h
    · rw [b p o e q] at h
      cases h
theorem But.refl (d : Addr) (H : Hp) : But d H H := fun _ _ _ h => h
theorem But.trans {d : Addr} {H H1 H2 : Hp} (a : But d H H1) (b : But d H1 H2) : But d H H2 := fun p o n h => b p o n (a p o n h)
theorem But.same {d : Addr} {H H1 : Hp} (a : Same H H1) : But d H H1 := fun p o _ h => a p o h
theorem But.at_d {d : Addr} {H : Hp} {o : HO} : But d H (upd H d o) := fun p u n h => by rw [upd_ne n]; exact h
theorem But.new {d p : Addr} {H : Hp} {o : HO} (h : H p = none) : But d H (upd H p o) := fun b u _ e => by rw [upd_ne (ne_of_none e h)]; exact e
theorem Same.new {p : Addr} {H : Hp} {o : HO} (h : H p = none) : Same H (upd H p o) := fun b u e => by rw [upd_ne (ne_of_none e h)]; exact e
theorem Same.free1 {H H1 : Hp} (a : Same H H1) {p : Addr} (h : H1 p = none) : H p = none := Same.free a h
/-- a pattern -/
structure Pat (ps : List Nat) : Prop where
  pos : 0 < ps.length
  len : ps.length ≤ 12
  nine : ∀ x ∈ ps, x ≤ 9
def spPattern : Sp := fun vs H Q _ => ∃ (d : Addr) (most : Nat) (cs : List V), vs = [.ref d, vn most] ∧ 0 < most ∧ most ≤ 12 ∧ H d = some (.lst cs) ∧ DSt cs ∧
  ∀ (t : Addr) (ps : List Nat) (H' : Hp), H t = none → Src d H H' → H' t = some (.tup (ps.map vn)) → Pat ps → ps.length ≤ most → Q (.ref t) H'
section
variable {P : Program} {w : World} {K : PySem.W.Frag} {mg : Str → Option Value} {base : Heap}
theorem high_of {r : Int} (h0 : 0 ≤ r) (h1 : r < 3) : ∃ v : Nat, atI [V.int 2, V.int 3, V.int 10] r = some (vn v) ∧ 0 < v ∧ v ≤ 10 := by
  have : r = ((0 : Nat) : Int) ∨ r = ((1 : Nat) : Int) ∨ r = ((2 : Nat) : Int) := by omega
  rcases this with e | e | e
  · exact ⟨2, by rw [e]; exact atn rfl, by omega, by omega⟩
  · exact ⟨3, by rw [e]; exact atn rfl, by omega, by omega⟩
  · exact ⟨10, by rw [e]; exact atn rfl, by omega, by omega⟩
theorem ok__law_pattern (T : Txt K mg) : OkF P w K mg base 2 (He.ga K "_law_pattern") ["_law_d", "_law_most"] spPattern := by
  have G__law_below : OkF P w K mg base 1 (He.ga K "_law_below") ["_law_d", "_law_limit"] spBelow := ok__law_below T
  refine FnP.okF T.f__law_pattern sc__law_pattern (fun _ _ _ _ _ _ us hl => match us, hl with | [_, _], _ => rfl) (fun vs H Q E h => ?_) (fun cdv A outer s H vs Q E hr h => ?_)
  · obtain ⟨d, most, cs, rfl, _⟩ := h
    rfl
  obtain ⟨d, most, cs, rfl, m0, m1, hd, hcs, k⟩ := h
  refine ⟨_, (pss_cons (ps_set (i := 2) sc__law_pattern.nd rfl (Or.inr rfl) (pe_ix (ixLK (K := K)) (pe_lst (pa_cons pe_int (pa_cons pe_int (pa_cons pe_int pa_nil)))) (pe_call G__law_below.one (hr.mono (by decide)) (by rfl) T.g__law_below G__law_below.kp G__law_below.two .nil passL (pa_cons (pv 0) (pa_cons pe_int pa_nil))) (fun _ _ => rfl)))
    (pss_one (ps_ret (pe_callTy (tplK (K := K)) (by rfl) T.g_tuple (by decide +kernel) (pa_cons (pe_lc (own := [("_law_k", 3)]) (g := gName 3) (tt := tYes) (by rfl) sc__law_pattern.nd (pi_range1 (by rfl) T.g_range (pa_cons (pe_op op_add pe_int (pe_call G__law_below.one (hr.mono (by decide)) (by rfl) T.g__law_below G__law_below.kp G__law_below.two .nil passL (pa_cons (pv 0) (pa_cons (pv 1) pa_nil)))) pa_nil)) (blkOk_by (own := [("_law_k", 3)]) (N := N__law_pattern) (sc := (defScope s__law_pattern)) (by decide +kernel)) (fun _ _ _ _ _ => pg_name (i := 3) sc__law_pattern.nd rfl (Or.inl rfl)) (fun _ _ _ _ _ => pts_nil) (fun _ _ _ _ _ => (pe_call G__law_below.one (hr.mono (by decide)) (by rfl) T.g__law_below G__law_below.kp G__law_below.two .nil passL (pa_cons (pv 0) (pa_cons (pv 2) pa_nil))))) pa_nil))))), ?_⟩
  -- high = [2, 3, 10][below(d, 3)]
  refine ⟨(by show 3 ≤ sizeLine; decide), fun l hl => ?_⟩
  have ndl : d ≠ l := ne_of_none hd hl
  refine ⟨_, rfl, d, 3, cs, rfl, by decide, by decide, by rw [upd_ne ndl]; exact hd, hcs, fun r cs1 r0 r1 hcs1 => ?_⟩
  obtain ⟨v, hv, v0, v1⟩ := high_of r0 r1
  refine ⟨l, _, r, _, rfl, rfl, SqL.of (by rw [upd_ne ndl.symm]; exact upd_same), hv, ?_⟩
  -- range(1 + below(d, most))
  refine ⟨_, rfl, _, rfl, d, most, cs1, rfl, by omega, by omega, upd_same, hcs1, fun r2 cs2 q0 q1 hcs2 => ?_⟩
  refine ⟨1, r2, rfl, rfl, ?_⟩
  refine ⟨_, rfl, by omega, by omega, fun D hD => ?_⟩
  rw [upd_upd] at hD ⊢
  have nDd : D ≠ d := fun e => by rw [e, upd_same] at hD; cases hD
  have nDl : D ≠ l := fun e => by rw [e, upd_ne ndl.symm, upd_same] at hD; cases hD
  have hD0 : H D = none := by rw [upd_ne nDd, upd_ne nDl] at hD; exact hD
  refine lc_range (lo := 0) (n := (1 + r2).toNat) (fun i H2 => ∃ ms : List Nat, But d H H2 ∧ (∃ cs, H2 d = some (.lst cs) ∧ DSt cs) ∧ H2 D = some (.lst (ms.map vn)) ∧ ms.length = i ∧ ∀ x ∈ ms, x ≤ 9) ?_ ?_ ?_
  · refine ⟨[], fun b o nb e => ?_, ⟨cs2, by rw [upd_ne nDd.symm, upd_same], hcs2⟩, upd_same, rfl, fun x hx => by cases hx⟩
    rw [upd_ne (ne_of_none e hD0), upd_ne nb, upd_ne (ne_of_none e hl)]
    exact e
  · rintro i H2 hi ⟨ms, hB, ⟨cs3, h3, hcs3⟩, hD2, hml, hm9⟩
    refine ⟨rfl, ?_⟩
    refine ⟨_, rfl, _, rfl, d, v, cs3, rfl, by omega, by omega, h3, hcs3, fun r4 cs4 p0 p1 hcs4 => ?_⟩
    refine ⟨ms.map vn, by rw [upd_ne nDd]; exact hD2, Nat.lt_of_le_of_lt (m := 12) (by rw [List.length_map]; omega) (by decide), ms ++ [r4.toNat], ?_, ⟨cs4, by rw [upd_ne nDd.symm, upd_same], hcs4⟩, ?_, ?_, ?_⟩
    · intro b o nb e
      rw [upd_ne (ne_of_none e hD0), upd_ne nb]
      exact hB b o nb e
    · rw [upd_same, List.map_append]
      show some (HO.lst (ms.map vn ++ [V.int r4])) = some (HO.lst (ms.map vn ++ [V.int ((r4.toNat : Nat) : Int)]))
      rw [Int.toNat_of_nonneg p0]
    · rw [List.length_append]
      show ms.length + 1 = i + 1
      omega
    · intro x hx
      rcases List.mem_append.mp hx with h | h
      · exact hm9 x h
      · rw [List.mem_singleton.mp h]
        omega
  · rintro H2 ⟨ms, hB, ⟨cs3, h3, hcs3⟩, hD2, hml, hm9⟩
    refine ⟨D, _, rfl, .inl ⟨SqL.of hD2, fun t ht => ?_⟩⟩
    have ht0 : H t = none := But.free hB ⟨_, hd⟩ ht ⟨_, h3⟩
    refine k t ms _ ht0 ⟨hB.trans (But.new ht), cs3, by rw [upd_ne (ne_of_none h3 ht)]; exact h3, hcs3⟩ upd_same ⟨by omega, by omega, hm9⟩ (by omega)
end
end Tk

namespace Tk
open PySem PySem.Spec PyProof.Rows L2
structure Parts (m : Nat) (tk cl : List Nat) (lt : Nat) : Prop where
  m2 : 2 ≤ m
  m4 : m ≤ 10000
  tkP : Pat tk
  clP : Pat cl
  l99 : lt ≤ 99
/-- at t the tuple of the parts -/
structure PartsAt (H : Hp) (t : Addr) (m : Nat) (tp : Addr) (tk : List Nat) (cp : Addr) (cl : List Nat) (lt : Nat) : Prop where
  at_ : H t = some (.tup [vn m, .ref tp, .ref cp, vn lt])
  tkA : H tp = some (.tup (tk.map vn))
  clA : H cp = some (.tup (cl.map vn))
  ok : Parts m tk cl lt
theorem PartsAt.but {d t tp cp : Addr} {H H' : Hp} {m lt : Nat} {tk cl : List Nat} {cs : List V} (p : PartsAt H t m tp tk cp cl lt) (b : But d H H') (hd : H d = some (.lst cs)) : PartsAt H' t m tp tk cp cl lt :=
  ⟨b _ _ (ne_of p.at_ hd (fun q => by cases q)) p.at_, b _ _ (ne_of p.tkA hd (fun q => by cases q)) p.tkA, b _ _ (ne_of p.clA hd (fun q => by cases q)) p.clA, p.ok⟩
theorem PartsAt.same {t tp cp : Addr} {H H' : Hp} {m lt : Nat} {tk cl : List Nat} (p : PartsAt H t m tp tk cp cl lt) (b : Same H H') : PartsAt H' t m tp tk cp cl lt :=
  ⟨b _ _ p.at_, b _ _ p.tkA, b _ _ p.clA, p.ok⟩
def spParts : Sp := fun vs H Q _ => ∃ (d : Addr) (most : Nat) (cs : List V), vs = [.ref d, vn most] ∧ 0 < most ∧ most ≤ 12 ∧ H d = some (.lst cs) ∧ DSt cs ∧
  ∀ (t tp cp : Addr) (m lt : Nat) (tk cl : List Nat) (H' : Hp), H t = none → Src d H H' → PartsAt H' t m tp tk cp cl lt → tk.length ≤ most → cl.length ≤ most → Q (.ref t) H'
def spSmall : Sp := fun vs H Q _ => ∃ (d : Addr) (cs : List V), vs = [.ref d] ∧ H d = some (.lst cs) ∧ DSt cs ∧
  ∀ (t tp cp : Addr) (m lt : Nat) (tk cl : List Nat) (H' : Hp), H t = none → Src d H H' → PartsAt H' t m tp tk cp cl lt → m ≤ 10 → tk.length ≤ 3 → cl.length ≤ 3 → lt ≤ 5 → Q (.ref t) H'
section
variable {P : Program} {w : World} {K : PySem.W.Frag} {mg : Str → Option Value} {base : Heap}
theorem three_of {a b c r : Int} (h0 : 0 ≤ r) (h1 : r < 3) : ∃ v : Int, atI [V.int a, V.int b, V.int c] r = some (V.int v) ∧ (v = a ∨ v = b ∨ v = c) := by
  have : r = ((0 : Nat) : Int) ∨ r = ((1 : Nat) : Int) ∨ r = ((2 : Nat) : Int) := by omega
  rcases this with e | e | e
  · exact ⟨a, by rw [e]; exact atn rfl, .inl rfl⟩
  · exact ⟨b, by rw [e]; exact atn rfl, .inr (.inl rfl)⟩
  · exact ⟨c, by rw [e]; exact atn rfl, .inr (.inr rfl)⟩
theorem ok__law_parts (T : Txt K mg) : OkF P w K mg base 3 (He.ga K "_law_parts") ["_law_d", "_law_most"] spParts := by
  have G__law_below : OkF P w K mg base 1 (He.ga K "_law_below") ["_law_d", "_law_limit"] spBelow := ok__law_below T
  have G__law_pattern : OkF P w K mg base 2 (He.ga K "_law_pattern") ["_law_d", "_law_most"] spPattern := ok__law_pattern T
  refine FnP.okF T.f__law_parts sc__law_parts (fun _ _ _ _ _ _ us hl => match us, hl with | [_, _], _ => rfl) (fun vs H Q E h => ?_) (fun cdv A outer s H vs Q E hr h => ?_)
  · obtain ⟨d, most, cs, rfl, _⟩ := h
    rfl
  obtain ⟨d, most, cs, rfl, m0, m1, hd, hcs, k⟩ := h
  refine ⟨_, (pss_cons (ps_set (i := 2) sc__law_parts.nd rfl (Or.inl rfl) (pe_ix (ixLK (K := K)) (pe_lst (pa_cons (pe_op op_add pe_int (pe_call G__law_below.one (hr.mono (by decide)) (by rfl) T.g__law_below G__law_below.kp G__law_below.two .nil passL (pa_cons (pv 0) (pa_cons pe_int pa_nil)))) (pa_cons (pe_op op_add pe_int (pe_call G__law_below.one (hr.mono (by decide)) (by rfl) T.g__law_below G__law_below.kp G__law_below.two .nil passL (pa_cons (pv 0) (pa_cons pe_int pa_nil)))) (pa_cons (pe_op op_add pe_int (pe_call G__law_below.one (hr.mono (by decide)) (by rfl) T.g__law_below G__law_below.kp G__law_below.two .nil passL (pa_cons (pv 0) (pa_cons pe_int pa_nil)))) pa_nil)))) (pe_call G__law_below.one (hr.mono (by decide)) (by rfl) T.g__law_below G__law_below.kp G__law_below.two .nil passL (pa_cons (pv 0) (pa_cons pe_int pa_nil))) (fun _ _ => rfl)))
    (pss_cons (ps_set (i := 3) sc__law_parts.nd rfl (Or.inl rfl) (pe_ix (ixLK (K := K)) (pe_lst (pa_cons pe_int (pa_cons (pe_call G__law_below.one (hr.mono (by decide)) (by rfl) T.g__law_below G__law_below.kp G__law_below.two .nil passL (pa_cons (pv 0) (pa_cons pe_int pa_nil))) (pa_cons (pe_call G__law_below.one (hr.mono (by decide)) (by rfl) T.g__law_below G__law_below.kp G__law_below.two .nil passL (pa_cons (pv 0) (pa_cons pe_int pa_nil))) pa_nil)))) (pe_call G__law_below.one (hr.mono (by decide)) (by rfl) T.g__law_below G__law_below.kp G__law_below.two .nil passL (pa_cons (pv 0) (pa_cons pe_int pa_nil))) (fun _ _ => rfl)))
    (pss_one (ps_ret (pe_tup (pa_cons (pv 2) (pa_cons (pe_call G__law_pattern.one (hr.mono (by decide)) (by rfl) T.g__law_pattern G__law_pattern.kp G__law_pattern.two .nil passL (pa_cons (pv 0) (pa_cons (pv 1) pa_nil))) (pa_cons (pe_call G__law_pattern.one (hr.mono (by decide)) (by rfl) T.g__law_pattern G__law_pattern.kp G__law_pattern.two .nil passL (pa_cons (pv 0) (pa_cons (pv 1) pa_nil))) (pa_cons (pv 3) pa_nil))))))))), ?_⟩
  -- modulus
  refine ⟨_, rfl, d, 5, cs, rfl, by decide, by decide, hd, hcs, fun r1 c1 a1 b1 hc1 => ⟨2, r1, rfl, rfl, ?_⟩⟩
  refine ⟨_, rfl, d, 30, c1, rfl, by decide, by decide, upd_same, hc1, fun r2 c2 a2 b2 hc2 => ⟨2, r2, rfl, rfl, ?_⟩⟩
  refine ⟨_, rfl, d, 9999, c2, rfl, by decide, by decide, upd_same, hc2, fun r3 c3 a3 b3 hc3 => ⟨2, r3, rfl, rfl, ?_⟩⟩
  refine ⟨(by show 3 ≤ sizeLine; decide), fun l hl => ?_⟩
  rw [upd_upd, upd_upd] at hl ⊢
  have ndl : d ≠ l := fun e => by rw [← e, upd_same] at hl; cases hl
  refine ⟨_, rfl, d, 3, c3, rfl, by decide, by decide, by rw [upd_ne ndl]; exact upd_same, hc3, fun r4 c4 a4 b4 hc4 => ?_⟩
  obtain ⟨mv, hmv, hmo⟩ := three_of (a := 2 + r1) (b := 2 + r2) (c := 2 + r3) a4 b4
  refine ⟨l, _, r4, _, rfl, rfl, SqL.of (by rw [upd_ne ndl.symm]; exact upd_same), hmv, ?_⟩
  have hl0 : H l = none := by rw [upd_ne ndl.symm] at hl; exact hl
  -- lateness
  refine ⟨_, rfl, d, 6, c4, rfl, by decide, by decide, upd_same, hc4, fun r5 c5 a5 b5 hc5 => ?_⟩
  refine ⟨_, rfl, d, 100, c5, rfl, by decide, by decide, upd_same, hc5, fun r6 c6 a6 b6 hc6 => ?_⟩
  refine ⟨(by show 3 ≤ sizeLine; decide), fun l2 hl2 => ?_⟩
  rw [upd_upd, upd_upd] at hl2 ⊢
  have nd2 : d ≠ l2 := fun e => by rw [← e, upd_same] at hl2; cases hl2
  refine ⟨_, rfl, d, 3, c6, rfl, by decide, by decide, by rw [upd_ne nd2]; exact upd_same, hc6, fun r7 c7 a7 b7 hc7 => ?_⟩
  obtain ⟨lv, hlv, hlo⟩ := three_of (a := 0) (b := r5) (c := r6) a7 b7
  refine ⟨l2, _, r7, _, rfl, rfl, SqL.of (by rw [upd_ne nd2.symm]; exact upd_same), hlv, ?_⟩
  have hB : But d H (upd (upd (upd (upd (upd H d (.lst c3)) l (.lst [.int (2 + r1), .int (2 + r2), .int (2 + r3)])) d (.lst c6)) l2 (.lst [.int 0, .int r5, .int r6])) d (.lst c7)) :=
    ((((But.at_d).trans (But.new hl)).trans But.at_d).trans (But.new hl2)).trans But.at_d
  generalize hH2 : upd (upd (upd (upd (upd H d (.lst c3)) l (.lst [.int (2 + r1), .int (2 + r2), .int (2 + r3)])) d (.lst c6)) l2 (.lst [.int 0, .int r5, .int r6])) d (.lst c7) = H2 at hB ⊢
  have hd2 : H2 d = some (.lst c7) := by rw [← hH2]; exact upd_same
  -- return (modulus, pattern, pattern, lateness)
  refine ⟨_, rfl, _, rfl, _, rfl, d, most, c7, rfl, m0, m1, hd2, hc7, fun tp tk H3 n3 S3 h3 p3 l3 => ?_⟩
  obtain ⟨c8, hd3, hc8⟩ := S3.at_
  refine ⟨_, rfl, _, rfl, d, most, c8, rfl, m0, m1, hd3, hc8, fun cp cl H4 n4 S4 h4 p4 l4 => ?_⟩
  obtain ⟨c9, hd4, hc9⟩ := S4.at_
  refine ⟨_, rfl, ?_⟩
  refine ⟨(by show 4 ≤ sizeLine; decide), fun t ht => ?_⟩
  have hB4 : But d H H4 := (hB.trans S3.but).trans S4.but
  have h34 : H4 tp = some (.tup (tk.map vn)) := S4.but _ _ (ne_of h3 hd3 (fun q => by cases q)) h3
  obtain ⟨m, hm⟩ : ∃ m : Nat, mv = (m : Int) := ⟨mv.toNat, by omega⟩
  obtain ⟨lt, hlt⟩ : ∃ n : Nat, lv = (n : Int) := ⟨lv.toNat, by omega⟩
  subst hm hlt
  refine k t tp cp m lt tk cl _ (But.free hB4 ⟨_, hd⟩ ht ⟨_, hd4⟩) ⟨hB4.trans (But.new ht), c9, by rw [upd_ne (ne_of_none hd4 ht)]; exact hd4, hc9⟩
    ⟨upd_same, by rw [upd_ne (ne_of_none h34 ht)]; exact h34, by rw [upd_ne (ne_of_none h4 ht)]; exact h4, ⟨by omega, by omega, p3, p4, by omega⟩⟩ l3 l4
end
end Tk

/-! ### The mathematics of halls -/
namespace Mm
def atp (ps : List Nat) (t : Nat) : Nat := ps.getD (t % ps.length) 0
/-- tickets taken before a tick -/
def tak (tk : List Nat) : Nat → Nat
  | 0 => 0
  | t + 1 => tak tk t + atp tk t
/-- tickets called before a tick -/
def cal (tk cl : List Nat) : Nat → Nat
  | 0 => 0
  | t + 1 => min (tak tk (t + 1)) (cal tk cl t + atp cl t)
def per (tk cl : List Nat) : Nat := Nat.lcm tk.length cl.length
section
variable {tk cl : List Nat}
theorem cal_le : ∀ t, cal tk cl t ≤ tak tk t
  | 0 => Nat.le_refl _
  | t + 1 => Nat.min_le_left _ _
theorem atp_add (ps : List Nat) (t p : Nat) (h : ps.length ∣ p) : atp ps (t + p) = atp ps t := by
  unfold atp
  obtain ⟨c, rfl⟩ := h
  rw [Nat.add_mul_mod_self_left]
theorem tak_add (p : Nat) (h : tk.length ∣ p) : ∀ t, tak tk (t + p) = tak tk t + tak tk p
  | 0 => by simp [tak]
  | t + 1 => by
    rw [show t + 1 + p = (t + p) + 1 by omega]
    show tak tk (t + p) + atp tk (t + p) = tak tk t + atp tk t + tak tk p
    rw [tak_add p h t, atp_add tk t p h]
    omega
theorem tak_mono : ∀ {a b : Nat}, a ≤ b → tak tk a ≤ tak tk b := by
  intro a b h
  induction h with
  | refl => exact Nat.le_refl _
  | step _ ih => exact Nat.le_trans ih (Nat.le_add_right _ _)
/-- who waits before a tick -/
def wt (tk cl : List Nat) (t : Nat) : Nat := tak tk t - cal tk cl t
theorem wt_cal (t : Nat) : cal tk cl t + wt tk cl t = tak tk t := by
  have := cal_le (tk := tk) (cl := cl) t
  unfold wt
  omega
theorem wt_succ (t : Nat) : wt tk cl (t + 1) = wt tk cl t + atp tk t - atp cl t := by
  have h1 := wt_cal (tk := tk) (cl := cl) t
  have h2 : cal tk cl (t + 1) = min (tak tk t + atp tk t) (cal tk cl t + atp cl t) := rfl
  have h3 : tak tk (t + 1) = tak tk t + atp tk t := rfl
  unfold wt
  rw [h2, h3]
  have h4 : wt tk cl t = tak tk t - cal tk cl t := rfl
  omega
theorem cal_succ (t : Nat) : cal tk cl (t + 1) = cal tk cl t + min (wt tk cl t + atp tk t) (atp cl t) := by
  have h1 := wt_cal (tk := tk) (cl := cl) t
  have h2 : cal tk cl (t + 1) = min (tak tk t + atp tk t) (cal tk cl t + atp cl t) := rfl
  rw [h2]
  omega
theorem cal_mono {a b : Nat} (h : a ≤ b) : cal tk cl a ≤ cal tk cl b := by
  induction h with
  | refl => exact Nat.le_refl _
  | step _ ih =>
    rw [Nat.succ_eq_add_one, cal_succ]
    omega
variable {p : Nat} (hp : 0 < p) (ht : tk.length ∣ p) (hc : cl.length ∣ p)
include ht hc in
theorem wt_up (t : Nat) : wt tk cl t ≤ wt tk cl (t + p) := by
  induction t with
  | zero => simp [wt, tak, cal]
  | succ t ih =>
    rw [show t + 1 + p = (t + p) + 1 by omega, wt_succ, wt_succ, atp_add tk t p ht, atp_add cl t p hc]
    omega
include ht hc in
theorem wt_same {s : Nat} (h : wt tk cl s = wt tk cl (s + p)) : ∀ t, s ≤ t → wt tk cl t = wt tk cl (t + p) := by
  intro t hs
  induction hs with
  | refl => exact h
  | @step t _ ih =>
    rw [show t.succ + p = (t + p) + 1 by omega, Nat.succ_eq_add_one, wt_succ, wt_succ, atp_add tk t p ht, atp_add cl t p hc, ih]
/-- from the second period on each period calls the same -/
theorem now_same (hp : 0 < p) (ht : tk.length ∣ p) (hc : cl.length ∣ p) (t : Nat) (h : p ≤ t) : min (wt tk cl (t + p) + atp tk (t + p)) (atp cl (t + p)) = min (wt tk cl t + atp tk t) (atp cl t) := by
  rw [atp_add tk t p ht, atp_add cl t p hc]
  by_cases st : ∃ s, p ≤ s ∧ s ≤ t ∧ wt tk cl s + atp tk s ≤ atp cl s ∧ s < 2 * p
  · obtain ⟨s, h1, h2, h3, h4⟩ := st
    obtain ⟨r, rfl⟩ : ∃ r, s = r + p := ⟨s - p, by omega⟩
    have u := wt_up (tk := tk) (cl := cl) ht hc r
    rw [atp_add tk r p ht, atp_add cl r p hc] at h3
    have e : wt tk cl (r + 1) = wt tk cl (r + 1 + p) := by
      rw [show r + 1 + p = (r + p) + 1 by omega, wt_succ, wt_succ, atp_add tk r p ht, atp_add cl r p hc]
      omega
    have := wt_same ht hc e t (by omega)
    rw [← this]
  · have full : ∀ k s, p ≤ s → s < 2 * p → s + k * p ≤ t → atp cl (s + k * p) ≤ wt tk cl (s + k * p) + atp tk (s + k * p) := by
      intro k
      induction k with
      | zero =>
        intro s h1 h2 h3
        by_cases q : wt tk cl s + atp tk s ≤ atp cl s
        · exact absurd ⟨s, h1, by omega, q, h2⟩ st
        · simp only [Nat.zero_mul, Nat.add_zero]
          omega
      | succ k ih =>
        intro s h1 h2 h3
        rw [Nat.succ_mul] at h3 ⊢
        have := ih s h1 h2 (by omega)
        have u := wt_up (tk := tk) (cl := cl) ht hc (s + k * p)
        rw [← Nat.add_assoc, atp_add tk _ p ht, atp_add cl _ p hc]
        omega
    have e : t = p + (t - p) % p + (t - p) / p * p := by
      have := Nat.mod_add_div (t - p) p
      rw [Nat.mul_comm] at this
      omega
    have f := full ((t - p) / p) (p + (t - p) % p) (by omega) (by have := Nat.mod_lt (t - p) hp; omega) (by omega)
    rw [← e] at f
    have u := wt_up (tk := tk) (cl := cl) ht hc t
    omega
theorem cal_per (hp : 0 < p) (ht : tk.length ∣ p) (hc : cl.length ∣ p) {t : Nat} (h : p ≤ t) : cal tk cl (t + p) + cal tk cl p = cal tk cl t + cal tk cl (2 * p) := by
  induction h with
  | refl => rw [show p + p = 2 * p by omega, Nat.add_comm]
  | @step t h ih =>
    rw [show t.succ + p = (t + p) + 1 by omega, Nat.succ_eq_add_one, cal_succ, cal_succ, now_same hp ht hc t h]
    omega
theorem cal_far (hp : 0 < p) (ht : tk.length ∣ p) (hc : cl.length ∣ p) {t : Nat} (h : p ≤ t) : ∀ k, cal tk cl (t + k * p) = cal tk cl t + k * (cal tk cl (2 * p) - cal tk cl p)
  | 0 => by simp
  | k + 1 => by
    have ih := cal_far hp ht hc h k
    have m := cal_mono (tk := tk) (cl := cl) (show p ≤ 2 * p by omega)
    have q := cal_per (tk := tk) (cl := cl) hp ht hc (t := t + k * p) (by omega)
    rw [Nat.succ_mul, Nat.succ_mul, ← Nat.add_assoc]
    omega
/-- what the program reckons -/
theorem cal_is (hp : 0 < p) (ht : tk.length ∣ p) (hc : cl.length ∣ p) (t : Nat) : cal tk cl t = (t / p - 1) * (cal tk cl (2 * p) - cal tk cl p) + cal tk cl (t - (t / p - 1) * p) := by
  rcases Nat.eq_zero_or_pos (t / p - 1) with e | e
  · rw [e]
    simp
  · have h1 : t / p * p ≤ t := Nat.div_mul_le_self t p
    have h2 : (t / p - 1) * p + p = t / p * p := by
      rw [Nat.sub_mul, Nat.one_mul]
      have : p ≤ t / p * p := Nat.le_mul_of_pos_left p (by omega)
      omega
    have q := cal_far (tk := tk) (cl := cl) hp ht hc (t := t - (t / p - 1) * p) (by omega) (t / p - 1)
    rw [show t - (t / p - 1) * p + (t / p - 1) * p = t by omega] at q
    rw [q]
    exact Nat.add_comm _ _
theorem rest_lt (hp : 0 < p) (t : Nat) : t - (t / p - 1) * p < 2 * p := by
  have h := Nat.mod_add_div t p
  have m := Nat.mod_lt t hp
  rcases Nat.eq_zero_or_pos (t / p) with e | e
  · rw [e] at h ⊢
    omega
  · obtain ⟨k, hk⟩ : ∃ k, t / p = k + 1 := ⟨t / p - 1, by omega⟩
    rw [hk] at h ⊢
    rw [Nat.mul_comm, Nat.succ_mul] at h
    simp only [Nat.add_sub_cancel]
    omega
theorem take_sum (tk : List Nat) : ∀ i, i ≤ tk.length → tak tk i = (tk.take i).sum
  | 0, _ => by simp [tak]
  | i + 1, h => by
    show tak tk i + atp tk i = _
    rw [take_sum tk i (by omega)]
    unfold atp
    rw [Nat.mod_eq_of_lt (by omega), List.getD_eq_getElem?_getD, List.getElem?_eq_getElem (by omega)]
    have e : tk.take (i + 1) = tk.take i ++ [tk[i]] := by simp
    rw [e, List.sum_append]
    simp
theorem tak_mul (tk : List Nat) : ∀ q r, tak tk (r + q * tk.length) = q * tk.sum + tak tk r
  | 0, r => by simp
  | q + 1, r => by
    rw [Nat.succ_mul, ← Nat.add_assoc, tak_add tk.length (Nat.dvd_refl _), tak_mul tk q r, take_sum tk tk.length (Nat.le_refl _), List.take_length, Nat.succ_mul]
    omega
theorem tak_is (tk : List Nat) (h : 0 < tk.length) (t : Nat) : tak tk t = t / tk.length * tk.sum + (tk.take (t % tk.length)).sum := by
  rw [← take_sum tk (t % tk.length) (Nat.le_of_lt (Nat.mod_lt t h)), ← tak_mul tk (t / tk.length)]
  congr 1
  have := Nat.mod_add_div t tk.length
  rw [Nat.mul_comm] at this
  omega
theorem per_tk : tk.length ∣ per tk cl := Nat.dvd_lcm_left _ _
theorem per_cl : cl.length ∣ per tk cl := Nat.dvd_lcm_right _ _
theorem per_pos (h1 : 0 < tk.length) (h2 : 0 < cl.length) : 0 < per tk cl := Nat.lcm_pos h1 h2
theorem per_le : per tk cl ≤ tk.length * cl.length := by
  unfold per Nat.lcm
  exact Nat.div_le_self _ _
theorem atp_le {ps : List Nat} (h9 : ∀ x ∈ ps, x ≤ 9) (t : Nat) : atp ps t ≤ 9 := by
  unfold atp
  rw [List.getD_eq_getElem?_getD]
  cases e : ps[t % ps.length]? with
  | none => simp
  | some x =>
    simp only [Option.getD_some]
    exact h9 x (List.mem_of_getElem? e)
theorem tak_le {tk : List Nat} (h9 : ∀ x ∈ tk, x ≤ 9) : ∀ t, tak tk t ≤ 9 * t
  | 0 => Nat.le_refl _
  | t + 1 => by
    have h1 := tak_le h9 t
    have h2 := atp_le h9 t
    show tak tk t + atp tk t ≤ 9 * (t + 1)
    omega
end
end Mm

/-! ### The checks of arguments -/
namespace Tk
open PySem PySem.Spec PyProof.Rows L2
/-- values of the kinds that are passed -/
inductive Arg (H : Hp) : V → Prop where
  | non : Arg H .non
  | bl (b : Bool) : Arg H (.bl b)
  | int (i : Int) : Arg H (.int i)
  | str (x : Str) : Arg H (.str x)
  | lst {a : Addr} {xs : List V} (e : H a = some (.lst xs)) : Arg H (.ref a)
  | tup {a : Addr} {xs : List V} (e : H a = some (.tup xs)) : Arg H (.ref a)
def isInt : V → Bool
  | .int _ => true
  | _ => false
def inB (lo hi : Int) : V → Bool
  | .int i => decide (lo ≤ i) && decide (i ≤ hi)
  | _ => false
def spWithin : Sp := fun vs H Q _ => ∃ (v : V) (lo hi : Int), vs = [v, .int lo, .int hi] ∧ Arg H v ∧ Q (.bl (inB lo hi v)) H
section
variable {P : Program} {w : World} {K : PySem.W.Frag} {mg : Str → Option Value} {base : Heap}
theorem boot_ty_bool : bootBuiltins "bool" = some (.type "bool") := by decide +kernel
theorem boot_ty_int : bootBuiltins "int" = some (.type "int") := by decide +kernel
theorem boot_ty_str : bootBuiltins "str" = some (.type "str") := by decide +kernel
theorem boot_ty_tuple : bootBuiltins "tuple" = some (.type "tuple") := by decide +kernel
theorem boot_ty_list : bootBuiltins "list" = some (.type "list") := by decide +kernel
theorem kit_at {a b : String} {r : Bool} (h : kitB a b = some r) : PySem.W.kitOne K (.type a) (.type b) = some r := kit_ty h
/-- the type of such a value and what isinstance says of five classes -/
theorem Arg.ty {H : Hp} {v : V} (h : Arg H v) : ∃ n : String, TyX K H v (.type n) ∧ (∃ b, kitB n "bool" = some b ∧ (b = true ↔ ∃ x, v = .bl x)) ∧ (∃ b, kitB n "int" = some b ∧ (b = true ↔ ((∃ x, v = .bl x) ∨ ∃ i, v = .int i))) := by
  cases h with
  | non => exact ⟨_, .base .non, ⟨false, by decide +kernel, by simp⟩, ⟨false, by decide +kernel, by simp⟩⟩
  | bl b => exact ⟨_, .base (.bl b), ⟨true, by decide +kernel, by simp⟩, ⟨true, by decide +kernel, by simp⟩⟩
  | int i => exact ⟨_, .base (.int i), ⟨false, by decide +kernel, by simp⟩, ⟨true, by decide +kernel, by simp⟩⟩
  | str x => exact ⟨_, .base (.str x), ⟨false, by decide +kernel, by simp⟩, ⟨false, by decide +kernel, by simp⟩⟩
  | lst e => exact ⟨_, .base (.lst e), ⟨false, by decide +kernel, by simp⟩, ⟨false, by decide +kernel, by simp⟩⟩
  | tup e => exact ⟨_, .base (.tup e), ⟨false, by decide +kernel, by simp⟩, ⟨false, by decide +kernel, by simp⟩⟩
theorem ok_is_integer_within (T : Txt K mg) : OkF P w K mg base 1 (He.ga K "is_integer_within") ["value", "low", "high"] spWithin := by
  refine FnP.okF T.f_is_integer_within sc_is_integer_within (fun _ _ _ _ _ _ us hl => match us, hl with | [_, _, _], _ => rfl) (fun vs H Q E h => ?_) (fun cdv A outer s H vs Q E hr h => ?_)
  · obtain ⟨v, lo, hi, rfl, _⟩ := h
    rfl
  obtain ⟨v, lo, hi, rfl, hv, k⟩ := h
  refine ⟨_, (pss_cons (ps_if (PW.pt (pw_or (pt_val (pe_callB (isiK (K := K)) (by rfl) T.g_isinstance (by decide +kernel) (pa_cons (pv 0) (pa_cons (pe_bltn (v := .ty "bool") (by rfl) T.g_bool boot_ty_bool rfl) pa_nil)))) (pw_or1 (pt_not (pt_val (pe_callB (isiK (K := K)) (by rfl) T.g_isinstance (by decide +kernel) (pa_cons (pv 0) (pa_cons (pe_bltn (v := .ty "int") (by rfl) T.g_int boot_ty_int rfl) pa_nil)))))))) (pss_one (ps_ret pe_bl)) pss_nil)
    (pss_one (ps_ret (pe_chain op_le op_le (pv 1) (pv 0) (pv 2))))), ?_⟩
  obtain ⟨n, ty, ⟨b1, k1, e1⟩, ⟨b2, k2, e2⟩⟩ := Arg.ty (K := K) hv
  refine ⟨_, rfl, v, .ty "bool", _, _, b1, rfl, .ty "bool", ty, kit_at k1, b1, rfl, ?_⟩
  cases b1 with
  | true =>
    obtain ⟨x, rfl⟩ := e1.mp rfl
    exact k
  | false =>
    refine ⟨_, rfl, v, .ty "int", _, _, b2, rfl, .ty "int", ty, kit_at k2, b2, rfl, ?_⟩
    cases b2 with
    | false =>
      have no : inB lo hi v = false := by
        cases v with
        | int i => exact absurd (e2.mpr (.inr ⟨i, rfl⟩)) (by simp)
        | _ => rfl
      rw [no] at k
      exact k
    | true =>
      rcases e2.mp rfl with ⟨x, rfl⟩ | ⟨i, rfl⟩
      · exact absurd (e1.mpr ⟨x, rfl⟩) (by simp)
      · refine ⟨_, rfl, _, rfl, _, _, rfl, rfl, _, rfl, ?_⟩
        refine ite2 (fun c => ?_) (fun c => ?_)
        · refine ⟨_, rfl, _, _, rfl, rfl, ?_⟩
          have c1 : decide (lo ≤ i) = true := c
          show Q (V.bl (decide (i ≤ hi))) H
          have k' : Q (V.bl (decide (lo ≤ i) && decide (i ≤ hi))) H := k
          rw [c1, Bool.true_and] at k'
          exact k'
        · have c1 : decide (lo ≤ i) = false := by
            cases q : decide (lo ≤ i) with
            | true => exact absurd q c
            | false => rfl
          have k' : Q (V.bl (decide (lo ≤ i) && decide (i ≤ hi))) H := k
          rw [c1, Bool.false_and] at k'
          exact k'
end
end Tk

/-! ### for i, x in enumerate(a tuple) -/
namespace Tk
open PySem PySem.Spec PyProof.Rows L2
set_option maxHeartbeats 1000000 in
theorem meets_enum1 {v : Value} {o : Obj} {Hs : Heap → Prop} (B : Begins v o Hs) : Meets (Builtin.«enumerate.__new__» ⟨[.type "enumerate", v], []⟩) (fun _ R s => Hs s.heap ∧
    R (.ok (.ret (.ref (s.heap.push o).objs.size))) { s with heap := (s.heap.push o).push { cls := .type "enumerate", data := .fields #[.none, .bool false, .ref s.heap.objs.size, rawInt 0, .none, .none] } }) :=
  .of_wp fun prog w A R s h => by
    obtain ⟨hp, g, d, tk, os⟩ := s
    obtain ⟨b0, b1⟩ := h
    have us := sub_enumerate
    have step : ∀ {A' : Around} {E : Value → Shared → Prop} {Q : Value → Shared → Prop}, Q (.ref hp.objs.size) ⟨hp.push o, g, d, tk, os⟩ → wpAny (model prog w) A' (pyIter v) Q E ⟨hp, g, d, tk, os⟩ :=
      fun z => B.iter prog w _ _ ⟨hp, g, d, tk, os⟩ _ b0 z
    wp_walk using step
    refine wpAny_stack_any fun st => wpAny_pure ?_
    split
    · rename_i c _ _ _ _ _
      cases (c == Value.type "enumerate") <;> (wp_walk using step; exact ⟨_, rfl, b1⟩)
    · wp_walk using step
      exact ⟨_, rfl, b1⟩
theorem enum_of_tuple {prog : Program} {w : World} {A : Around} {E : Value → Shared → Prop} {s : Shared} {t : Addr} {items : Array Value} {Q : Value → Shared → Prop} (ht : s.heap.IsTuple t items)
    (h : ∀ h', IsEnum h' (s.heap.objs.size + 1) s.heap.objs.size 0 .none → h'.IsTupleIter s.heap.objs.size t 0 → (∀ b o, s.heap.get? b = some o → h'.get? b = some o) → Q (.ref (s.heap.objs.size + 1)) { s with heap := h' }) :
    wpAny (model prog w) A (call (.type "enumerate") [.ref t]) Q E s := by
  refine callType_new F.called_enumerate (by decide) (F.typeCall_enumerate_1 _) (F.newCall_enumerate_1 _) (fun obj => F.args_object_init_2 obj _) F.entry_enumerate_new (meets_enum1 (begins_tuple t items)) ⟨ht, ?_⟩
  have z : (s.heap.push { cls := .type "tuple_iterator", data := .fields #[.ref t, .int 0 0] }).objs.size = s.heap.objs.size + 1 := Heap.size_push ..
  have e2 := Heap.get?_push_size (s.heap.push { cls := .type "tuple_iterator", data := .fields #[.ref t, .int 0 0] }) (o := { cls := .type "enumerate", data := .fields #[.none, .bool false, .ref s.heap.objs.size, rawInt 0, .none, .none] }) rfl
  show _ ∧ _
  rw [z] at e2 ⊢
  exact ⟨⟨_, e2, rfl⟩, h _ e2 ⟨_, Heap.get?_push_of_some _ (Heap.get?_push_size _ rfl), rfl, rfl⟩ fun b o x => Heap.get?_push_of_some _ (Heap.get?_push_of_some _ x)⟩
/-- the tuple at a, each item in a new pair -/
def Itu (K : PySem.W.Frag) (a : Addr) : It :=
  ⟨fun i H => ∃ (xs : List V) (x : V), SqT K H a xs ∧ xs[i]? = some x, fun i H v H' => ∃ T x, v = .ref T ∧ H T = none ∧ H' = upd H T (.tup [vnI i, x]) ∧ ∀ xs, SqT K H a xs → xs[i]? = some x, fun i H => ∃ xs : List V, SqT K H a xs ∧ xs.length ≤ i⟩
/-- an iterator at a tuple's end -/
theorem draws_end {prog : Program} {w : World} {A : Around} (hh : A.handled = none) (it t : Addr) (i : Nat) (items : Array Value) (hx : items[i]? = none) :
    Draws prog w A it [it, t] i (fun _ _ => False) (fun j h => j = i ∧ h.IsTupleIter it t i ∧ h.IsTuple t items) where
  live := fun _ _ st => let ⟨_, ⟨o, ho, _⟩, _⟩ := st; ⟨o, ho⟩
  frame := fun _ _ _ st hk => by
    obtain ⟨e, ⟨o, ho, r⟩, o2, ho2, r2⟩ := st
    exact ⟨e, ⟨o, hk it (by simp) o ho, r⟩, o2, hk t (by simp) o2 ho2, r2⟩
  item := fun j s Q E hj st _ => absurd st.1 (by omega)
  done := fun s Q E st hE => wpAny_nextOf_tuple_end hh st.2.1 st.2.2 hx hE
theorem turn_enumT {P : Program} {w : World} {K : PySem.W.Frag} {elts : List Expr} {kk : Nat} {tpos : Pos} (a e it : Addr) (h1 : e ≠ it) (h2 : a ≠ it) (h3 : a ≠ e) :
    Turn P w K (.Tuple elts kk tpos) (Itu K a) [e, it] e (fun i h => (∃ old, IsEnum h e it ((i : Nat) : Int) old) ∧ h.IsTupleIter it a i) where
  mem := List.mem_cons_self
  obj := fun i h st b hb => by
    obtain ⟨⟨old, he⟩, o, ho, hc, hd⟩ := st
    rcases List.mem_cons.mp hb with z | z
    · rw [z]
      exact ⟨_, he, fun v q => nomatch q⟩
    · exact ⟨o, by rw [List.mem_singleton.mp z]; exact ho, fun v q => by rw [hd] at q; cases q⟩
  keep := fun i h h' st k => by
    obtain ⟨⟨old, he⟩, o, ho, r⟩ := st
    exact ⟨⟨old, k e (by simp) _ he⟩, o, k it (by simp) o ho, r⟩
  item := by
    intro X hP hw hK hc i pins s σ H E I hf st hg
    subst hP hw hK
    obtain ⟨⟨old, he⟩, hit⟩ := st
    obtain ⟨xs, x, hq, hx⟩ := hg
    obtain ⟨its, rv, p, hz⟩ := I.tuple hq
    obtain ⟨u, hu, ru⟩ := rv.get hx
    have le : e < s.heap.objs.size := Heap.lt_size he
    have li : it < s.heap.objs.size := by
      obtain ⟨_, q, _⟩ := hit
      exact Heap.lt_size q
    have hi : i < its.toArray.size := by
      have := (List.getElem?_eq_some_iff.mp hu).1
      simpa using this
    refine wpAny_pyNext_enum_itemD (Draws.tuple (A := X.A.in1) (I.ok.hd hc) it a h2 its.toArray) he ⟨hit, istup_old p⟩ hi h1 (by simp [h1, h3.symm]) fun y h' tk hy ho hs hT hsz hk => ?_
    have ey : y = u := by
      have q : its[i]? = some y := by simpa using hy
      rw [hu] at q
      exact (Option.some.inj q).symm
    subst ey
    refine ⟨_, rfl, wpAny_letOwnedTupleGo_enum (s := { s with heap := h', toks := tk + 1 }) ho fun h2' he2 sb => ?_⟩
    have T2 : h2'.get? s.heap.objs.size = some { cls := .type "tuple", data := .seq #[.int i tk, y] } := (sb.2 _ (Nat.ne_of_gt le)).trans hT
    have I1 := I.turnedNew (t' := tk + 1) (ch := [e, it]) (h' := h2') (T := s.heap.objs.size) (ob := .tup [vnI i, x]) (fun b ob hb q => (sb.2 b (fun z => hb (by simp [z]))).trans (hk b ob (fun z => hb (by simp [z])) (fun z => hb (by simp [z])) q)) hf (Nat.le_refl _)
      ⟨by show 2 ≤ sizeLine; decide, [.int i tk, y], .cons ⟨_, rfl⟩ (.cons ru .nil), ⟨_, T2, rfl, _, rfl⟩⟩
    refine ⟨.ref s.heap.objs.size, _, I1, rfl, ⟨_, x, rfl, I.hok.fresh (Nat.le_refl _), rfl, fun ys hy2 => by rw [I.tuple_inj hy2 hq]; exact hx⟩, ⟨⟨y, ?_⟩, ?_⟩, fun b hb => ?_⟩
    · rw [show ((i + 1 : Nat) : Int) = (i : Int) + 1 by omega]
      exact he2
    · obtain ⟨⟨o, ho2, r⟩, _⟩ := hs
      exact ⟨o, (sb.2 it h1.symm).trans ho2, r⟩
    · have lb : b < s.heap.objs.size := by
        rcases List.mem_cons.mp hb with z | z
        · rw [z]; exact le
        · rw [List.mem_singleton.mp z]; exact li
      rw [upd_ne (Nat.ne_of_lt lb)]
      exact (hf b hb).1
  done := by
    intro X hP hw hK hc i pins s σ H E I hf st hg
    subst hP hw hK
    obtain ⟨⟨old, he⟩, hit⟩ := st
    obtain ⟨xs, hq, hx⟩ := hg
    obtain ⟨its, rv, p, hz⟩ := I.tuple hq
    have hl := rv.length
    refine wpAny_pyNext_enum_endD (draws_end (A := X.A.in1) (I.ok.hd hc) it a i its.toArray (by simp; omega)) he ⟨rfl, hit, istup_old p⟩ fun h' q => ⟨rfl, ?_⟩
    exact I.turnedL (t' := s.toks) (ch := [it]) (fun b o hb r => q b o (fun z => hb (by simp [z])) r) fun b hb => hf b (by rw [List.mem_singleton.mp hb]; simp)
  self := fun A i s Q E st h => by
    obtain ⟨⟨_, he⟩, _⟩ := st
    exact wpAny_pyIter_enum he h
def iEnumT (K : PySem.W.Frag) (ta : TA) : TI := fun σ H R => ta σ H fun vs H1 => ∃ a xs, vs = [.ref a] ∧ SqT K H1 a xs ∧ R (Itu K a) H1
theorem pi_enumT {X : Cx} {e : Expr} {ta : TA} {p pos tpos : Pos} {elts : List Expr} {kk : Nat} (hg : Gl X "enumerate") (hm : X.mg "enumerate" = none) (ha : PA X [e] ta) (hs : starEach [e] X.env = [(false, eval e X.env)] := by rfl) :
    PI X (.Tuple elts kk tpos) (.Call (.Name "enumerate" p) [e] [] pos) (iEnumT X.K ta) := by
  refine ⟨fun pins s σ H R I h => Call_ (ld_blt I hg hm boot_enumerate (PyProof.Rows.callWith_type1 (thn (ha.run pos pins s σ H _ I h) fun us s1 ⟨vs, H1, I1, r1, q1⟩ => ?_) hs rfl))⟩
  obtain ⟨a, xs, rfl, hq, q⟩ := q1
  cases r1 with
  | cons r rr =>
    cases rr
    cases r
    obtain ⟨its, rv, p', hz⟩ := I1.tuple hq
    have la : a < s1.heap.objs.size := p'.lt
    refine enum_of_tuple (istup_old p') fun h' he hit hk => wpAny_pyIter_enum he ?_
    refine ⟨s1.heap.objs.size + 1, [s1.heap.objs.size + 1, s1.heap.objs.size], _, _, H1, rfl, I1.kept (t' := s1.toks) hk, turn_enumT a (s1.heap.objs.size + 1) s1.heap.objs.size (Nat.succ_ne_self _) (Nat.ne_of_lt la) (Nat.ne_of_lt (Nat.lt_succ_of_lt la)), ⟨⟨.none, he⟩, hit⟩, fun b hb => ?_, q⟩
    have hle : s1.heap.objs.size ≤ b := by
      rcases List.mem_cons.mp hb with z | z
      · rw [z]; exact Nat.le_succ _
      · rw [List.mem_singleton.mp z]; exact Nat.le_refl _
    exact I1.fpOk hle (I1.hok.fresh hle)
/-- its loop -/
theorem for_enumT {K : PySem.W.Frag} {a : Addr} {xs : List V} {g : TG} {tb : TS} {D : Ends} {σ : L2.St} {H : Hp} (Pv : Nat → L2.St → Hp → Prop) (h0 : Pv 0 σ H) (hl : ∀ i σ H, i ≤ xs.length → Pv i σ H → SqT K H a xs)
    (hs : ∀ i x σ H, xs[i]? = some x → Pv i σ H → ∀ T, H T = none → g (.ref T) σ (upd H T (.tup [vnI i, x])) fun σ2 H2 => tb { D with nx := Pv (i + 1), ct := Pv (i + 1), bk := D.nx } σ2 H2) (hd : ∀ σ H, Pv xs.length σ H → D.nx σ H) :
    ∃ W : Nat → Nat → L2.St → Hp → Prop, (∃ m, W 0 m σ H) ∧ ∀ i m σ H, W i m σ H →
      ((Itu K a).stop i H ∧ D.nx σ H) ∨ ((Itu K a).go i H ∧ ∃ N : L2.St → Hp → Prop, (∀ σ' H', N σ' H' → ∃ m', m' < m ∧ W (i + 1) m' σ' H') ∧ ∀ x H', (Itu K a).yld i H x H' → g x σ H' fun σ2 H2 => tb { D with nx := N, ct := N, bk := D.nx } σ2 H2) := by
  refine ⟨fun i m σ H => m = xs.length - i ∧ i ≤ xs.length ∧ Pv i σ H, ⟨_, rfl, Nat.zero_le _, h0⟩, fun i m σ H w => ?_⟩
  obtain ⟨rfl, hi, p⟩ := w
  have sq := hl i σ H hi p
  rcases Nat.lt_or_ge i xs.length with lt | ge
  · have at_ : xs[i]? = some xs[i] := by simp [lt]
    refine .inr ⟨⟨xs, xs[i], sq, at_⟩, Pv (i + 1), fun σ' H' p' => ⟨_, (by omega : xs.length - (i + 1) < xs.length - i), rfl, lt, p'⟩, fun x H' y => ?_⟩
    obtain ⟨T, x', rfl, hT, rfl, hx⟩ := y
    exact hs i x' σ H (hx xs sq) p T hT
  · obtain rfl : i = xs.length := by omega
    exact .inl ⟨⟨xs, sq, Nat.le_refl _⟩, hd σ H p⟩
end Tk

/-! ### The checks, of what is valid -/
namespace Tk
open PySem PySem.Spec PyProof.Rows L2
def spTick : Sp := fun vs H Q _ => ∃ t : Int, vs = [.int t] ∧ 0 ≤ t ∧ t ≤ 1000000000000000000 ∧ Q .non H
def spFii : Sp := fun vs H Q _ => ∃ (p : Addr) (ps : List Nat), vs = [.ref p] ∧ H p = some (.tup (ps.map vn)) ∧ Pat ps ∧ ∀ H', Same H H' → Q .non H'
def spChk : Sp := fun vs H Q _ => ∃ (v : V) (p : Addr) (ps : List Nat), vs = [v, .ref p] ∧ H p = some (.tup (ps.map vn)) ∧ Pat ps ∧ ∀ H', Same H H' → Q .non H'
def spChall : Sp := fun vs H Q _ => ∃ (tp cp : Addr) (m lt : Nat) (tk cl : List Nat), vs = [vn m, .ref tp, .ref cp, vn lt] ∧ H tp = some (.tup (tk.map vn)) ∧ H cp = some (.tup (cl.map vn)) ∧ Parts m tk cl lt ∧ ∀ H', Same H H' → Q .non H'
theorem inB_in {lo hi i : Int} (h1 : lo ≤ i) (h2 : i ≤ hi) : inB lo hi (.int i) = true := by
  show (decide (lo ≤ i) && decide (i ≤ hi)) = true
  rw [decide_eq_true h1, decide_eq_true h2]
  rfl
theorem Same.upd2 {H : Hp} {a : Addr} {o : HO} (h : H a = none) {H0 : Hp} (s : Same H0 H) : Same H0 (upd H a o) := s.trans (Same.new h)
section
variable {P : Program} {w : World} {K : PySem.W.Frag} {mg : Str → Option Value} {base : Heap}
theorem ok_first_invalid_item (T : Txt K mg) : OkF P w K mg base 2 (He.ga K "first_invalid_item") ["pattern"] spFii := by
  have G_is_integer_within : OkF P w K mg base 1 (He.ga K "is_integer_within") ["value", "low", "high"] spWithin := ok_is_integer_within T
  refine FnP.okF T.f_first_invalid_item sc_first_invalid_item (fun _ _ _ _ _ _ us hl => match us, hl with | [_], _ => rfl) (fun vs H Q E h => ?_) (fun cdv A outer s H vs Q E hr h => ?_)
  · obtain ⟨p, ps, rfl, _⟩ := h
    rfl
  obtain ⟨p, ps, rfl, hp, hP, k⟩ := h
  refine ⟨_, (pss_cons (ps_if (PW.pt (pw_or (pt_not (pt_val (pe_callB (isiK (K := K)) (by rfl) T.g_isinstance (by decide +kernel) (pa_cons (pv 0) (pa_cons (pe_bltn (v := .ty "tuple") (by rfl) T.g_tuple boot_ty_tuple rfl) pa_nil))))) (pw_or1 (pt_cmpR op_eq (pe_callB (lenK (K := K)) (by rfl) T.g_len (by decide +kernel) (pa_cons (pv 0) pa_nil)) pe_int (nomark _))))) (pss_one (ps_ret pe_int)) pss_nil)
    (pss_cons (ps_for own_cx rfl (pi_enumT (by rfl) T.g_enumerate (pa_cons (pv 0) pa_nil)) (pg_tup rfl (pgs_cons (pg_name (i := 1) sc_first_invalid_item.nd rfl (Or.inl rfl)) (pgs_cons (pg_name (i := 2) sc_first_invalid_item.nd rfl (Or.inl rfl)) pgs_nil)))
      (pss_one (ps_if (PW.pt (pw_or (pt_cmpR op_eq (pv 1) (pe_gint (by rfl) T.c_MOST_ITEMS) (nomark _)) (pw_or1 (pt_not (pt_val (pe_call G_is_integer_within.one (hr.mono (by decide)) (by rfl) T.g_is_integer_within G_is_integer_within.kp G_is_integer_within.two .nil passL (pa_cons (pv 2) (pa_cons pe_int (pa_cons (pe_gint (by rfl) T.c_GREATEST_ITEM) pa_nil))))))))) (pss_one (ps_ret (pv 1))) pss_nil)))
    (pss_one (ps_ret pe_non)))), ?_⟩
  -- not a tuple, or empty
  refine ⟨_, rfl, .ref p, .ty "tuple", .type "tuple", _, true, rfl, .ty "tuple", .base (.tup hp), kit_at (by decide +kernel), true, rfl, ?_⟩
  refine ⟨_, rfl, p, _, rfl, .inr (SqT.of hp), rfl, _, rfl, ?_⟩
  refine ite2 (fun c => ?_) (fun _ => ?_)
  · exfalso
    have e : V.int ((ps.map vn).length : Int) = V.int 0 := of_decide_eq_true c
    have e2 : ((ps.map vn).length : Int) = 0 := by injection e
    rw [List.length_map] at e2
    have := hP.pos
    omega
  refine ⟨_, rfl, p, _, rfl, SqT.of hp, for_enumT (K := K) (a := p) (xs := ps.map vn) (fun i σ H2 => ∃ a b, σ = [some (.ref p), a, b] ∧ Same H H2) ⟨_, _, rfl, Same.refl H⟩
    (fun i σ H2 _ ⟨_, _, _, e⟩ => SqT.of (e _ _ hp)) ?_ ?_⟩
  · rintro i x σ H2 hx ⟨a, b, rfl, hS⟩ Tp hT
    have hi : i < ps.length := by
      have := (List.getElem?_eq_some_iff.mp hx).1
      rwa [List.length_map] at this
    obtain ⟨y, rfl, hy⟩ : ∃ y, x = vn y ∧ ps[i]? = some y := by
      rw [List.getElem?_map] at hx
      cases e : ps[i]? with
      | none => rw [e] at hx; cases hx
      | some u => rw [e] at hx; exact ⟨u, (Option.some.inj hx).symm, rfl⟩
    have y9 := hP.nine y (List.mem_of_getElem? hy)
    have hS2 : Same H (upd H2 Tp (.tup [vnI i, vn y])) := Same.upd2 hT hS
    refine ⟨Tp, _, rfl, SqT.of upd_same, rfl, _, _, rfl, _, _, rfl, rfl, ?_⟩
    refine ⟨_, rfl, rfl, _, rfl, ?_⟩
    refine ite2 (fun c => ?_) (fun _ => ?_)
    · exfalso
      have e : V.int (i : Int) = V.int 12 := of_decide_eq_true c
      have e2 : (i : Int) = 12 := by injection e
      have := hP.len
      omega
    refine ⟨_, rfl, vn y, 0, 9, rfl, .int _, true, by rw [inB_in (by omega) (by omega)], ?_⟩
    exact ⟨_, _, rfl, hS2⟩
  · rintro σ H2 ⟨a, b, rfl, hS⟩
    exact k H2 hS
theorem ok_check_pattern (T : Txt K mg) : OkF P w K mg base 3 (He.ga K "check_pattern") ["part", "pattern"] spChk := by
  have G_first_invalid_item : OkF P w K mg base 2 (He.ga K "first_invalid_item") ["pattern"] spFii := ok_first_invalid_item T
  refine FnP.okF T.f_check_pattern sc_check_pattern (fun _ _ _ _ _ _ us hl => match us, hl with | [_, _], _ => rfl) (fun vs H Q E h => ?_) (fun cdv A outer s H vs Q E hr h => ?_)
  · obtain ⟨v, p, ps, rfl, _⟩ := h
    rfl
  obtain ⟨v, p, ps, rfl, hp, hP, k⟩ := h
  refine ⟨_, (pss_cons (ps_set (i := 2) sc_check_pattern.nd rfl (Or.inl rfl) (pe_call G_first_invalid_item.one (hr.mono (by decide)) (by rfl) T.g_first_invalid_item G_first_invalid_item.kp G_first_invalid_item.two .nil passL (pa_cons (pv 1) pa_nil)))
    (pss_one (ps_if (pt_cmpR (show OpR _ (compareOp .IsNot) Rd.rNotN from op_notN) (pv 2) pe_non (nomark _)) (pss_one ps_never) pss_nil))), ?_⟩
  refine ⟨_, rfl, p, ps, rfl, hp, hP, fun H' hS => ?_⟩
  refine ⟨_, rfl, rfl, _, rfl, ?_⟩
  exact k H' hS
theorem ok_check_hall (T : Txt K mg) : OkF P w K mg base 4 (He.ga K "check_hall") ["modulus", "takes", "calls", "lateness"] spChall := by
  have G_is_integer_within : OkF P w K mg base 1 (He.ga K "is_integer_within") ["value", "low", "high"] spWithin := ok_is_integer_within T
  have G_check_pattern : OkF P w K mg base 3 (He.ga K "check_pattern") ["part", "pattern"] spChk := ok_check_pattern T
  refine FnP.okF T.f_check_hall sc_check_hall (fun _ _ _ _ _ _ us hl => match us, hl with | [_, _, _, _], _ => rfl) (fun vs H Q E h => ?_) (fun cdv A outer s H vs Q E hr h => ?_)
  · obtain ⟨tp, cp, m, lt, tk, cl, rfl, _⟩ := h
    rfl
  obtain ⟨tp, cp, m, lt, tk, cl, rfl, htp, hcp, hP, k⟩ := h
  refine ⟨_, (pss_cons (ps_if (pt_not (pt_val (pe_call G_is_integer_within.one (hr.mono (by decide)) (by rfl) T.g_is_integer_within G_is_integer_within.kp G_is_integer_within.two .nil passL (pa_cons (pv 0) (pa_cons (pe_gint (by rfl) T.c_LEAST_MODULUS) (pa_cons (pe_gint (by rfl) T.c_GREATEST_MODULUS) pa_nil)))))) (pss_one ps_never) pss_nil)
    (pss_cons (ps_expr (pe_call G_check_pattern.one (hr.mono (by decide)) (by rfl) T.g_check_pattern G_check_pattern.kp G_check_pattern.two .nil passL (pa_cons pe_str (pa_cons (pv 1) pa_nil))))
    (pss_cons (ps_expr (pe_call G_check_pattern.one (hr.mono (by decide)) (by rfl) T.g_check_pattern G_check_pattern.kp G_check_pattern.two .nil passL (pa_cons pe_str (pa_cons (pv 2) pa_nil))))
    (pss_one (ps_if (pt_not (pt_val (pe_call G_is_integer_within.one (hr.mono (by decide)) (by rfl) T.g_is_integer_within G_is_integer_within.kp G_is_integer_within.two .nil passL (pa_cons (pv 3) (pa_cons pe_int (pa_cons (pe_gint (by rfl) T.c_GREATEST_LATENESS) pa_nil)))))) (pss_one ps_never) pss_nil))))), ?_⟩
  have m2 := hP.m2
  have m4 := hP.m4
  have l9 := hP.l99
  refine ⟨_, rfl, vn m, 2, 10000, rfl, .int _, true, by rw [inB_in (by omega) (by omega)], ?_⟩
  refine ⟨_, rfl, _, tp, tk, rfl, htp, hP.tkP, fun H1 S1 => ?_⟩
  refine ⟨_, rfl, _, cp, cl, rfl, S1 _ _ hcp, hP.clP, fun H2 S2 => ?_⟩
  refine ⟨_, rfl, vn lt, 0, 99, rfl, .int _, true, by rw [inB_in (by omega) (by omega)], ?_⟩
  exact k H2 (S1.trans S2)
end
end Tk

/-! ### The hall -/
namespace Tk
open PySem PySem.Spec PyProof.Rows L2 Mm
def calV (tk cl : List Nat) (n : Nat) : List V := (List.range (n + 1)).map fun t => vn (cal tk cl t)
theorem calV_len {tk cl : List Nat} {n : Nat} : (calV tk cl n).length = n + 1 := by unfold calV; simp
theorem calV_at {tk cl : List Nat} {n t : Nat} (h : t ≤ n) : (calV tk cl n)[t]? = some (vn (cal tk cl t)) := by
  unfold calV
  rw [List.getElem?_map, List.getElem?_range (by omega)]
  rfl
theorem calV_succ {tk cl : List Nat} {n : Nat} : calV tk cl (n + 1) = calV tk cl n ++ [vn (cal tk cl (n + 1))] := by
  unfold calV
  rw [List.range_succ, List.map_append]
  rfl
theorem pat_at {ps : List Nat} (h : 0 < ps.length) {z : Int} {i : Nat} (e : z = (i : Int)) : atI (ps.map vn) (z % ((ps.map vn).length : Int)) = some (vn (atp ps i)) := by
  subst e
  rw [List.length_map, show (i : Int) % (ps.length : Int) = ((i % ps.length : Nat) : Int) from (Int.natCast_emod _ _).symm]
  refine atn ?_
  have lt := Nat.mod_lt i h
  rw [List.getElem?_map]
  unfold atp
  rw [List.getD_eq_getElem?_getD, List.getElem?_eq_getElem lt]
  rfl
def hfs (m : Nat) (tp cp : Addr) (lt : Nat) (lp : Addr) : List (Str × V) := putF "_called" (.ref lp) (putF "lateness" (vn lt) (putF "calls" (.ref cp) (putF "takes" (.ref tp) (putF "modulus" (vn m) []))))
theorem hfs_no {m : Nat} {tp cp : Addr} {lt : Nat} {lp : Addr} {x : Str} (h1 : ¬ x = "_called") (h2 : ¬ x = "lateness") (h3 : ¬ x = "calls") (h4 : ¬ x = "takes") (h5 : ¬ x = "modulus") : (hfs m tp cp lt lp).lookup x = none := by
  unfold hfs
  rw [lookup_putF, if_neg h1, lookup_putF, if_neg h2, lookup_putF, if_neg h3, lookup_putF, if_neg h4, lookup_putF, if_neg h5]
  rfl
theorem hfs_takes {m : Nat} {tp cp : Addr} {lt : Nat} {lp : Addr} : (hfs m tp cp lt lp).lookup ("takes" : Str) = some (.ref tp) := by
  unfold hfs
  rw [lookup_putF, if_neg (by decide +kernel), lookup_putF, if_neg (by decide +kernel), lookup_putF, if_neg (by decide +kernel), lookup_putF, if_pos rfl]
theorem hfs_calls {m : Nat} {tp cp : Addr} {lt : Nat} {lp : Addr} : (hfs m tp cp lt lp).lookup ("calls" : Str) = some (.ref cp) := by
  unfold hfs
  rw [lookup_putF, if_neg (by decide +kernel), lookup_putF, if_neg (by decide +kernel), lookup_putF, if_pos rfl]
theorem hfs_lateness {m : Nat} {tp cp : Addr} {lt : Nat} {lp : Addr} : (hfs m tp cp lt lp).lookup ("lateness" : Str) = some (vn lt) := by
  unfold hfs
  rw [lookup_putF, if_neg (by decide +kernel), lookup_putF, if_pos rfl]
theorem hfs_called {m : Nat} {tp cp : Addr} {lt : Nat} {lp : Addr} : (hfs m tp cp lt lp).lookup ("_called" : Str) = some (.ref lp) := by
  unfold hfs
  rw [lookup_putF, if_pos rfl]
theorem hfs_modulus {m : Nat} {tp cp : Addr} {lt : Nat} {lp : Addr} : (hfs m tp cp lt lp).lookup ("modulus" : Str) = some (vn m) := by
  unfold hfs
  rw [lookup_putF, if_neg (by decide +kernel), lookup_putF, if_neg (by decide +kernel), lookup_putF, if_neg (by decide +kernel), lookup_putF, if_neg (by decide +kernel), lookup_putF, if_pos rfl]
/-- a hall at h, its numbers of calls at lp -/
structure HallAt (C : Addr) (H : Hp) (h : Addr) (m : Nat) (tk cl : List Nat) (lt : Nat) (lp : Addr) : Prop where
  ex : ∃ dx tp cp, H h = some (.ins C dx (hfs m tp cp lt lp)) ∧ H tp = some (.tup (tk.map vn)) ∧ H cp = some (.tup (cl.map vn))
  lst : H lp = some (.lst (calV tk cl (2 * per tk cl)))
  ok : Parts m tk cl lt
theorem HallAt.but {C d h lp : Addr} {H H' : Hp} {m lt : Nat} {tk cl : List Nat} {cs : List V} (p : HallAt C H h m tk cl lt lp) (b : But d H H') (hd : H d = some (.lst cs)) (n : lp ≠ d) : HallAt C H' h m tk cl lt lp := by
  obtain ⟨dx, tp, cp, h1, h2, h3⟩ := p.ex
  exact ⟨⟨dx, tp, cp, b _ _ (ne_of h1 hd (fun q => by cases q)) h1, b _ _ (ne_of h2 hd (fun q => by cases q)) h2, b _ _ (ne_of h3 hd (fun q => by cases q)) h3⟩, b _ _ n p.lst, p.ok⟩
theorem HallAt.same {C h lp : Addr} {H H' : Hp} {m lt : Nat} {tk cl : List Nat} (p : HallAt C H h m tk cl lt lp) (b : Same H H') : HallAt C H' h m tk cl lt lp := by
  obtain ⟨dx, tp, cp, h1, h2, h3⟩ := p.ex
  exact ⟨⟨dx, tp, cp, b _ _ h1, b _ _ h2, b _ _ h3⟩, b _ _ p.lst, p.ok⟩
def spCount : Sp := fun vs H Q _ => ∃ (tp cp : Addr) (tk cl : List Nat) (n : Nat), vs = [.ref tp, .ref cp, vn n] ∧ H tp = some (.tup (tk.map vn)) ∧ H cp = some (.tup (cl.map vn)) ∧ Pat tk ∧ Pat cl ∧ n ≤ 1000 ∧
  ∀ l H', H l = none → Same H H' → H' l = some (.lst (calV tk cl n)) → Q (.ref l) H'
def spPeriod (C : Addr) : Sp := fun vs H Q _ => ∃ (h dx tp cp : Addr) (fs : List (Str × V)) (tk cl : List Nat), vs = [.ref h] ∧ H h = some (.ins C dx fs) ∧ fs.lookup ("takes" : Str) = some (.ref tp) ∧ fs.lookup ("calls" : Str) = some (.ref cp) ∧
  H tp = some (.tup (tk.map vn)) ∧ H cp = some (.tup (cl.map vn)) ∧ Pat tk ∧ Pat cl ∧ Q (vn (per tk cl)) H
def spInit (C : Addr) : Sp := fun vs H Q _ => ∃ (x dx tp cp : Addr) (m lt : Nat) (tk cl : List Nat), vs = [.ref x, vn m, .ref tp, .ref cp, vn lt] ∧ H x = some (.ins C dx []) ∧ H tp = some (.tup (tk.map vn)) ∧ H cp = some (.tup (cl.map vn)) ∧ Parts m tk cl lt ∧
  ∀ H' lp, But x H H' → H lp = none → HallAt C H' x m tk cl lt lp → Q .non H'
theorem per_144 {tk cl : List Nat} (h1 : Pat tk) (h2 : Pat cl) : per tk cl ≤ 144 := by
  have := per_le (tk := tk) (cl := cl)
  have a := Nat.mul_le_mul h1.len h2.len
  omega
theorem vn_int {z : Int} {n : Nat} (h : z = (n : Int)) : V.int z = vn n := by rw [h]
section
variable {P : Program} {w : World} {K : PySem.W.Frag} {mg : Str → Option Value} {base : Heap}
theorem ok_count_calls (T : Txt K mg) : OkF P w K mg base 1 (He.ga K "count_calls") ["takes", "calls", "ticks"] spCount := by
  refine FnP.okF T.f_count_calls sc_count_calls (fun _ _ _ _ _ _ us hl => match us, hl with | [_, _, _], _ => rfl) (fun vs H Q E h => ?_) (fun cdv A outer s H vs Q E hr h => ?_)
  · obtain ⟨tp, cp, tk, cl, n, rfl, _⟩ := h
    rfl
  obtain ⟨tp, cp, tk, cl, n, rfl, htp, hcp, hT, hC, hn, k⟩ := h
  refine ⟨_, (pss_cons (ps_set (i := 3) sc_count_calls.nd rfl (Or.inl rfl) (pe_lst (pa_cons pe_int pa_nil)))
    (pss_cons (ps_set (i := 4) sc_count_calls.nd rfl (Or.inl rfl) pe_int)
    (pss_cons (ps_for own_cx rfl (pi_range1 (by rfl) T.g_range (pa_cons (pv 2) pa_nil)) (pg_name (i := 5) sc_count_calls.nd rfl (Or.inl rfl))
      (pss_cons (ps_aug (i := 4) sc_count_calls.nd rfl (Or.inl rfl) (pe_ix (ixTK (K := K)) (pv 0) (pe_op op_mod (pv 5) (pe_callB (lenK (K := K)) (by rfl) T.g_len (by decide +kernel) (pa_cons (pv 0) pa_nil))) (fun _ _ => rfl)) ip_add)
    (pss_cons (ps_set (i := 6) sc_count_calls.nd rfl (Or.inl rfl) (pe_callB (show CallR _ (.builtin "min") Rd.rMin2 from call_min2 (by rfl)) (by rfl) T.g_min (by decide +kernel) (pa_cons (pv 4) (pa_cons (pe_ix (ixTK (K := K)) (pv 1) (pe_op op_mod (pv 5) (pe_callB (lenK (K := K)) (by rfl) T.g_len (by decide +kernel) (pa_cons (pv 1) pa_nil))) (fun _ _ => rfl)) pa_nil))))
    (pss_cons (ps_aug (i := 4) sc_count_calls.nd rfl (Or.inl rfl) (pv 6) ip_sub)
    (pss_one (ps_expr (pe_bm PySem.F.plainAttrs_list PySem.F.slot_list_append PySem.F.type_list_append mt_append (pv 3) (pa_cons (pe_op op_add (pe_ix (ixLK (K := K)) (pv 3) (pv 5) (fun _ _ => rfl)) (pv 6)) pa_nil))))))))
    (pss_one (ps_ret (pv 3)))))), ?_⟩
  refine ⟨(by show 1 ≤ sizeLine; decide), fun l hl => ?_⟩
  have nl : ∀ {q : Addr} {o : HO}, H q = some o → q ≠ l := fun e => ne_of_none e hl
  refine ⟨_, rfl, (n : Int), rfl, by omega, by omega, for_range (lo := 0) (n := ((n : Int)).toNat) (fun i σ H2 => ∃ a b, σ = [some (.ref tp), some (.ref cp), some (vn n), some (.ref l), some (vn (wt tk cl i)), a, b] ∧ H2 = upd H l (.lst (calV tk cl i)))
    ⟨_, _, rfl, rfl⟩ ?_ ?_⟩
  · rintro i σ H2 hi ⟨a, b, rfl, rfl⟩
    have hi2 : i < n := by simpa using hi
    have t1 : upd H l (.lst (calV tk cl i)) tp = some (.tup (tk.map vn)) := by rw [upd_ne (nl htp)]; exact htp
    have t2 : upd H l (.lst (calV tk cl i)) cp = some (.tup (cl.map vn)) := by rw [upd_ne (nl hcp)]; exact hcp
    have L1 := hT.pos
    have L2 := hC.pos
    -- waiting += takes[tick % len(takes)]
    refine ⟨_, rfl, _, rfl, _, rfl, _, rfl, tp, _, rfl, .inr (SqT.of t1), _, _, rfl, rfl, (by show (0 : Int) < ((tk.map vn).length : Int); rw [List.length_map]; omega), tp, _, _, _, rfl, rfl, SqT.of t1, pat_at L1 (Int.zero_add _), _, _, rfl, rfl, ?_⟩
    -- now = min(waiting, calls[tick % len(calls)])
    refine ⟨_, rfl, _, rfl, _, rfl, _, rfl, cp, _, rfl, .inr (SqT.of t2), _, _, rfl, rfl, (by show (0 : Int) < ((cl.map vn).length : Int); rw [List.length_map]; omega), cp, _, _, _, rfl, rfl, SqT.of t2, pat_at L2 (Int.zero_add _), _, _, rfl, ?_⟩
    have em : V.int (if (atp cl i : Int) < ((wt tk cl i : Int) + (atp tk i : Int)) then (atp cl i : Int) else ((wt tk cl i : Int) + (atp tk i : Int))) = vn (min (wt tk cl i + atp tk i) (atp cl i)) := by
      refine vn_int ?_
      split <;> omega
    rw [em]
    -- waiting -= now
    refine ⟨_, rfl, _, rfl, _, _, rfl, rfl, ?_⟩
    -- called.append(called[tick] + now)
    refine ⟨_, rfl, .inl ⟨rfl, _, SqL.of upd_same⟩, _, rfl, _, rfl, l, _, _, _, rfl, rfl, SqL.of upd_same, (show atI (calV tk cl i) ((0 : Int) + (i : Int)) = some (vn (cal tk cl i)) by rw [Int.zero_add]; exact atn (calV_at (Nat.le_refl i))), _, rfl, _, _, rfl, rfl, ?_⟩
    refine ⟨l, _, _, rfl, rfl, upd_same, small1000 (by rw [calV_len]; omega), some (.int (0 + (i : Int))), some (vn (min (wt tk cl i + atp tk i) (atp cl i))), ?_, ?_⟩
    · have e1 : V.int ((wt tk cl i : Int) + (atp tk i : Int) - ((min (wt tk cl i + atp tk i) (atp cl i) : Nat) : Int)) = vn (wt tk cl (i + 1)) := vn_int (by rw [wt_succ]; omega)
      rw [← e1]
      rfl
    · rw [upd_upd, calV_succ]
      have e2 : V.int ((cal tk cl i : Int) + ((min (wt tk cl i + atp tk i) (atp cl i) : Nat) : Int)) = vn (cal tk cl (i + 1)) := vn_int (by rw [cal_succ]; omega)
      rw [← e2]
  · rintro σ H2 ⟨a, b, rfl, rfl⟩
    refine ⟨_, rfl, k l _ hl (Same.new hl) ?_⟩
    rw [upd_same]
    simp
theorem ok_period (T : Txt K mg) : OkF P w K mg base 1 (getAt K (He.ga K "Hall") "period") ["self"] (spPeriod (He.ga K "Hall")) := by
  refine FnP.okF T.f_period sc_period (fun _ _ _ _ _ _ us hl => match us, hl with | [_], _ => rfl) (fun vs H Q E h => ?_) (fun cdv A outer s H vs Q E hr h => ?_)
  · obtain ⟨h, _, _, _, _, _, _, rfl, _⟩ := h
    rfl
  obtain ⟨h, dx, tp, cp, fs, tk, cl, rfl, hh, f1, f2, htp, hcp, hT, hC, k⟩ := h
  refine ⟨_, (pss_one (ps_ret (pfun cr_lcm (by rfl) T.g_lcm (pa_cons (pe_callB (lenK (K := K)) (by rfl) T.g_len (by decide +kernel) (pa_cons (pe_fld (pv 0) rfl) pa_nil)) (pa_cons (pe_callB (lenK (K := K)) (by rfl) T.g_len (by decide +kernel) (pa_cons (pe_fld (pv 0) rfl) pa_nil)) pa_nil))))), ?_⟩
  have a1 := hT.len
  have a2 := hC.len
  refine ⟨_, rfl, h, _, dx, fs, _, rfl, hh, T.cl_Hall, T.n_takes, f1, tp, _, rfl, .inr (SqT.of htp), ?_⟩
  refine ⟨_, rfl, h, _, dx, fs, _, rfl, hh, T.cl_Hall, T.n_calls, f2, cp, _, rfl, .inr (SqT.of hcp), ?_⟩
  refine ⟨_, _, rfl, by rw [List.length_map]; omega, by rw [List.length_map]; omega, ?_⟩
  rw [List.length_map, List.length_map]
  exact k
theorem ok_init (T : Txt K mg) : OkF P w K mg base 5 (He.ma K (He.ga K "Hall") "__init__") ["self", "modulus", "takes", "calls", "lateness"] (spInit (He.ga K "Hall")) := by
  have G_check_hall : OkF P w K mg base 4 (He.ga K "check_hall") ["modulus", "takes", "calls", "lateness"] spChall := ok_check_hall T
  have G_count_calls : OkF P w K mg base 1 (He.ga K "count_calls") ["takes", "calls", "ticks"] spCount := ok_count_calls T
  have G_period : OkF P w K mg base 1 (getAt K (He.ga K "Hall") "period") ["self"] (spPeriod (He.ga K "Hall")) := ok_period T
  refine FnP.okF T.f_init sc_init (fun _ _ _ _ _ _ us hl => match us, hl with | [_, _, _, _, _], _ => rfl) (fun vs H Q E h => ?_) (fun cdv A outer s H vs Q E hr h => ?_)
  · obtain ⟨x, _, _, _, _, _, _, _, rfl, _⟩ := h
    rfl
  obtain ⟨x, dx, tp, cp, m, lt, tk, cl, rfl, hx, htp, hcp, hP, k⟩ := h
  refine ⟨_, (pss_cons (ps_expr (pe_call G_check_hall.one (hr.mono (by decide)) (by rfl) T.g_check_hall G_check_hall.kp G_check_hall.two .nil passL (pa_cons (pv 1) (pa_cons (pv 2) (pa_cons (pv 3) (pa_cons (pv 4) pa_nil))))))
    (pss_cons (ps_fld (pv 0) (pv 1) rfl)
    (pss_cons (ps_fld (pv 0) (pv 2) rfl)
    (pss_cons (ps_fld (pv 0) (pv 3) rfl)
    (pss_cons (ps_fld (pv 0) (pv 4) rfl)
    (pss_one (ps_fld (pv 0) (pe_call G_count_calls.one (hr.mono (by decide)) (by rfl) T.g_count_calls G_count_calls.kp G_count_calls.two .nil passL (pa_cons (pv 2) (pa_cons (pv 3) (pa_cons (pe_op op_mul pe_int (pe_prop (pv 0) T.cl_Hall T.p_period G_period.one (hr.mono (by decide)) G_period.two .nil passL (by rfl))) pa_nil)))) rfl))))))), ?_⟩
  refine ⟨_, rfl, _, rfl, _, rfl, _, rfl, tp, cp, m, lt, tk, cl, rfl, htp, hcp, hP, fun H1 S1 => ?_⟩
  have x1 := S1 _ _ hx
  have n1 : tp ≠ x := ne_of htp hx (fun q => by cases q)
  have n2 : cp ≠ x := ne_of hcp hx (fun q => by cases q)
  have len1 : ∀ (f : Str) (v : V) (fs : List (Str × V)) (n : Nat), fs.length ≤ n → (putF f v fs).length ≤ n + 1 := fun f v fs n h => Nat.le_trans (length_putF f v fs) (Nat.succ_le_succ h)
  refine ⟨_, rfl, _, rfl, x, _, dx, _, rfl, x1, T.cl_Hall, T.n_modulus, (by decide), ?_⟩
  refine ⟨_, rfl, _, rfl, x, _, dx, _, rfl, upd_same, T.cl_Hall, T.n_takes, Nat.lt_of_le_of_lt (len1 _ _ _ 0 (Nat.le_refl 0)) (by decide), ?_⟩
  refine ⟨_, rfl, _, rfl, x, _, dx, _, rfl, upd_same, T.cl_Hall, T.n_calls, Nat.lt_of_le_of_lt (len1 _ _ _ 1 (len1 _ _ _ 0 (Nat.le_refl 0))) (by decide), ?_⟩
  refine ⟨_, rfl, _, rfl, x, _, dx, _, rfl, upd_same, T.cl_Hall, T.n_lateness, Nat.lt_of_le_of_lt (len1 _ _ _ 2 (len1 _ _ _ 1 (len1 _ _ _ 0 (Nat.le_refl 0)))) (by decide), ?_⟩
  rw [upd_upd, upd_upd, upd_upd]
  have t1 : ∀ o, upd H1 x o tp = some (.tup (tk.map vn)) := fun o => by rw [upd_ne n1]; exact S1 _ _ htp
  have t2 : ∀ o, upd H1 x o cp = some (.tup (cl.map vn)) := fun o => by rw [upd_ne n2]; exact S1 _ _ hcp
  have p144 := per_144 hP.tkP hP.clP
  -- self._called = count_calls(takes, calls, 2 * self.period)
  refine ⟨_, rfl, _, rfl, _, rfl, x, dx, _, rfl, upd_same, x, dx, tp, cp, _, tk, cl, rfl, upd_same, ?_, ?_, t1 _, t2 _, hP.tkP, hP.clP, ?_⟩
  · rw [lookup_putF, if_neg (by decide +kernel), lookup_putF, if_neg (by decide +kernel), lookup_putF, if_pos rfl]
  · rw [lookup_putF, if_neg (by decide +kernel), lookup_putF, if_pos rfl]
  refine ⟨2, _, rfl, rfl, .inl ⟨by decide, by decide⟩, tp, cp, tk, cl, 2 * per tk cl, by simp, t1 _, t2 _, hP.tkP, hP.clP, by omega, fun lp H2 n3 S2 h2 => ?_⟩
  have nx : x ≠ lp := fun e => by rw [e, upd_same] at n3; cases n3
  have n4 : H lp = none := by
    rw [upd_ne (Ne.symm nx)] at n3
    exact S1.free n3
  refine ⟨_, rfl, x, _, dx, _, rfl, S2 _ _ upd_same, T.cl_Hall, T.n__called, Nat.lt_of_le_of_lt (len1 _ _ _ 3 (len1 _ _ _ 2 (len1 _ _ _ 1 (len1 _ _ _ 0 (Nat.le_refl 0))))) (by decide), ?_⟩
  refine k _ lp (fun b o nb e => ?_) n4 ⟨⟨dx, tp, cp, upd_same, ?_, ?_⟩, ?_, hP⟩
  · rw [upd_ne nb]
    exact S2 _ _ (by rw [upd_ne nb]; exact S1 _ _ e)
  · rw [upd_ne n1]
    exact S2 _ _ (t1 _)
  · rw [upd_ne n2]
    exact S2 _ _ (t2 _)
  · rw [upd_ne (Ne.symm nx)]
    exact h2
end
end Tk

/-! ### The hall's methods -/
namespace Tk
open PySem PySem.Spec PyProof.Rows L2 Mm
def spTaken (C : Addr) : Sp := fun vs H Q _ => ∃ (h lp : Addr) (z : Int) (m lt : Nat) (tk cl : List Nat), vs = [.ref h, .int z] ∧ HallAt C H h m tk cl lt lp ∧ ∀ H', Same H H' → Q (vn (tak tk z.toNat)) H'
def spCalled (C : Addr) : Sp := fun vs H Q _ => ∃ (h lp : Addr) (z : Int) (m lt : Nat) (tk cl : List Nat), vs = [.ref h, .int z] ∧ HallAt C H h m tk cl lt lp ∧ Q (vn (cal tk cl z.toNat)) H
def spWaiting (C : Addr) : Sp := fun vs H Q _ => ∃ (h lp : Addr) (n : Nat) (m lt : Nat) (tk cl : List Nat), vs = [.ref h, vn n] ∧ n ≤ 1000000000000000000 ∧ HallAt C H h m tk cl lt lp ∧ ∀ H', Same H H' → Q (vn (wt tk cl (n + 1))) H'
def grow (tk cl : List Nat) : Nat := wt tk cl (2 * per tk cl + 1) - wt tk cl (per tk cl + 1)
def spGrowth (C : Addr) : Sp := fun vs H Q _ => ∃ (h lp : Addr) (m lt : Nat) (tk cl : List Nat), vs = [.ref h] ∧ HallAt C H h m tk cl lt lp ∧ ∀ H', Same H H' → Q (vn (grow tk cl)) H'
theorem map_vn (tk : List Nat) : (tk.map (fun n : Nat => (n : Int))).map V.int = tk.map vn := by rw [List.map_map]; rfl
theorem sum_cast (tk : List Nat) : (tk.map (fun n : Nat => (n : Int))).sum = ((tk.sum : Nat) : Int) := by
  induction tk with
  | nil => rfl
  | cons a r ih => rw [List.map_cons, List.sum_cons, List.sum_cons, ih]; omega
theorem max0 (z : Int) : (if (0 : Int) > z then (0 : Int) else z) = ((z.toNat : Nat) : Int) := by split <;> omega
section
variable {P : Program} {w : World} {K : PySem.W.Frag} {mg : Str → Option Value} {base : Heap}
end
end Tk

/-! ### The law's own defs: hall, length, counts -/
namespace Tk
open PySem PySem.Spec PyProof.Rows L2 Mm
def fV (f : Nat → Nat) (n : Nat) : List V := (List.range (n + 1)).map fun t => vn (f t)
theorem fV_len {f : Nat → Nat} {n : Nat} : (fV f n).length = n + 1 := by unfold fV; simp
theorem fV_at {f : Nat → Nat} {n t : Nat} (h : t ≤ n) : (fV f n)[t]? = some (vn (f t)) := by
  unfold fV
  rw [List.getElem?_map, List.getElem?_range (by omega)]
  rfl
theorem fV_succ {f : Nat → Nat} {n : Nat} : fV f (n + 1) = fV f n ++ [vn (f (n + 1))] := by
  unfold fV
  rw [List.range_succ, List.map_append]
  rfl
theorem at_last {xs : List V} {n : Nat} {x : V} (hl : xs.length = n + 1) (h : xs[n]? = some x) : atI xs (-(1 : Int)) = some x := by
  unfold atI ixN
  rw [hl, if_neg (by omega), if_pos (by omega)]
  show xs[(-(1 : Int) + ((n + 1 : Nat) : Int)).toNat]? = some x
  rw [show (-(1 : Int) + ((n + 1 : Nat) : Int)).toNat = n by omega]
  exact h
def spLHall (C : Addr) : Sp := fun vs H Q _ => ∃ (t tp cp : Addr) (m lt : Nat) (tk cl : List Nat), vs = [.ref t] ∧ PartsAt H t m tp tk cp cl lt ∧
  ∀ h lp H', H h = none → H lp = none → Same H H' → HallAt C H' h m tk cl lt lp → Q (.ref h) H'
def spLength : Sp := fun vs H Q _ => ∃ (t tp cp : Addr) (m lt : Nat) (tk cl : List Nat), vs = [.ref t] ∧ PartsAt H t m tp tk cp cl lt ∧ Q (vn (per tk cl)) H
def spCounts : Sp := fun vs H Q _ => ∃ (t tp cp : Addr) (m lt : Nat) (tk cl : List Nat) (n : Nat), vs = [.ref t, vn n] ∧ PartsAt H t m tp tk cp cl lt ∧ n ≤ 1000 ∧
  ∀ r a b H', H r = none → H a = none → H b = none → a ≠ b → Same H H' → H' r = some (.tup [.ref a, .ref b]) → H' a = some (.lst (fV (tak tk) n)) → H' b = some (.lst (fV (cal tk cl) n)) → Q (.ref r) H'
theorem at3 {a b c d : V} {j : Nat} {x : V} (h : [a, b, c, d][j]? = some x) : atI [a, b, c, d] (j : Int) = some x := atn h
/-- the least multiple of n that c divides -/
theorem least_lcm {n c k : Nat} (hk : 0 < k) (h : c ∣ k * n) (no : ∀ j, 0 < j → j < k → ¬ c ∣ j * n) (hn : 0 < n) (hc : 0 < c) : k * n = Nat.lcm n c := by
  have d1 : Nat.lcm n c ∣ k * n := Nat.lcm_dvd (Nat.dvd_mul_left n k) h
  obtain ⟨j, hj⟩ := Nat.dvd_lcm_left n c
  have hp : 0 < Nat.lcm n c := Nat.lcm_pos hn hc
  have j0 : 0 < j := by
    rcases Nat.eq_zero_or_pos j with e | e
    · rw [e] at hj
      omega
    · exact e
  have e2 : Nat.lcm n c = j * n := by rw [hj, Nat.mul_comm]
  rcases Nat.lt_or_ge j k with lt | ge
  · exact absurd (by rw [← e2]; exact Nat.dvd_lcm_right n c) (no j j0 lt)
  · have h1 := Nat.le_of_dvd (Nat.mul_pos hk hn) d1
    have h2 := Nat.mul_le_mul_right n ge
    omega
theorem below_lcm {n c k : Nat} (no : ∀ j, 0 < j → j < k → ¬ c ∣ j * n) (hn : 0 < n) (hc : 0 < c) : k * n ≤ Nat.lcm n c := by
  obtain ⟨j, hj⟩ := Nat.dvd_lcm_left n c
  have hp : 0 < Nat.lcm n c := Nat.lcm_pos hn hc
  have e2 : Nat.lcm n c = j * n := by rw [hj, Nat.mul_comm]
  have j0 : 0 < j := by
    rcases Nat.eq_zero_or_pos j with e | e
    · rw [e] at hj
      omega
    · exact e
  rcases Nat.lt_or_ge j k with lt | ge
  · exact absurd (by rw [← e2]; exact Nat.dvd_lcm_right n c) (no j j0 lt)
  · rw [e2]
    exact Nat.mul_le_mul_right n ge
section
variable {P : Program} {w : World} {K : PySem.W.Frag} {mg : Str → Option Value} {base : Heap}
theorem ok__law_hall (T : Txt K mg) : OkF P w K mg base 7 (He.ga K "_law_hall") ["_law_parts_here"] (spLHall (He.ga K "Hall")) := by
  have G_init : OkF P w K mg base 5 (He.ma K (He.ga K "Hall") "__init__") ["self", "modulus", "takes", "calls", "lateness"] (spInit (He.ga K "Hall")) := ok_init T
  refine FnP.okF T.f__law_hall sc__law_hall (fun _ _ _ _ _ _ us hl => match us, hl with | [_], _ => rfl) (fun vs H Q E h => ?_) (fun cdv A outer s H vs Q E hr h => ?_)
  · obtain ⟨t, _, _, _, _, _, _, rfl, _⟩ := h
    rfl
  obtain ⟨t, tp, cp, m, lt, tk, cl, rfl, hP, k⟩ := h
  refine ⟨_, (pss_one (ps_ret (pe_make T.mk_Hall G_init.one (hr.mono (by decide)) (by rfl) T.g_Hall G_init.two .nil passL (pa_cons (pe_ix (ixTK (K := K)) (pv 0) pe_int (fun _ _ => rfl)) (pa_cons (pe_ix (ixTK (K := K)) (pv 0) pe_int (fun _ _ => rfl)) (pa_cons (pe_ix (ixTK (K := K)) (pv 0) pe_int (fun _ _ => rfl)) (pa_cons (pe_ix (ixTK (K := K)) (pv 0) pe_int (fun _ _ => rfl)) pa_nil))))))), ?_⟩
  have S := SqT.of (K := K) hP.at_
  refine ⟨_, rfl, t, _, 0, _, rfl, rfl, S, at3 (j := 0) rfl, _, rfl, t, _, 1, _, rfl, rfl, S, at3 (j := 1) rfl, _, rfl, t, _, 2, _, rfl, rfl, S, at3 (j := 2) rfl, _, rfl, t, _, 3, _, rfl, rfl, S, at3 (j := 3) rfl, fun x dx nx ndx nex => ?_⟩
  have S1 : Same H (upd (upd H dx (.own x)) x (.ins (He.ga K "Hall") dx [])) := fun b o e => by
    rw [upd_ne (ne_of_none e nx), upd_ne (ne_of_none e ndx)]
    exact e
  refine ⟨x, dx, tp, cp, m, lt, tk, cl, rfl, upd_same, S1 _ _ hP.tkA, S1 _ _ hP.clA, hP.ok, fun H' lp B n hA => ⟨rfl, ?_⟩⟩
  refine k x lp H' nx (S1.free n) (fun b o e => ?_) hA
  exact B b o (ne_of_none e nx) (S1 b o e)
end
end Tk

/-! ### Equal data -/
namespace Tk
open PySem PySem.Spec PyProof.Rows L2
def flat : V → Bool
  | .non => true
  | .bl _ => true
  | .int _ => true
  | .str _ => true
  | _ => false
/-- one level of data -/
def Nx (K : PySem.W.Frag) (R : Hp → V → V → Prop) (H : Hp) (v u : V) : Prop :=
  (v = u ∧ flat v = true) ∨ (∃ a b xs ys, v = .ref a ∧ u = .ref b ∧ SqL K H a xs ∧ SqL K H b ys ∧ xs.length = ys.length ∧ xs.length ≤ 100000 ∧ ∀ (i : Nat) x y, xs[i]? = some x → ys[i]? = some y → R H x y) ∨
  (∃ a b xs ys, v = .ref a ∧ u = .ref b ∧ SqT K H a xs ∧ SqT K H b ys ∧ xs.length = ys.length ∧ xs.length ≤ 100000 ∧ ∀ (i : Nat) x y, xs[i]? = some x → ys[i]? = some y → R H x y)
/-- the same data, at most n deep -/
def Sm (K : PySem.W.Frag) : Nat → Hp → V → V → Prop
  | 0 => fun _ _ _ => False
  | n + 1 => Nx K (Sm K n)
def spEqOf (R : Hp → V → V → Prop) : Sp := fun vs H Q _ => ∃ v u, vs = [v, u] ∧ R H v u ∧ ∀ H', Same H H' → Q (.bl true) H'
theorem sqt_same {K : PySem.W.Frag} {H H' : Hp} {a : Addr} {xs : List V} (e : Same H H') (h : SqT K H a xs) : SqT K H' a xs := by
  rcases h with (h | ⟨o, h⟩) | h
  · exact .inl (.inl (e _ _ h))
  · exact .inl (.inr ⟨o, e _ _ h⟩)
  · exact .inr h
theorem Sm.same {K : PySem.W.Frag} {H H' : Hp} (e : Same H H') : ∀ {n : Nat} {v u : V}, Sm K n H v u → Sm K n H' v u
  | 0, _, _, h => h
  | n + 1, _, _, h => by
    rcases h with h | ⟨a, b, xs, ys, h1, h2, h3, h4, h5, h6, h7⟩ | ⟨a, b, xs, ys, h1, h2, h3, h4, h5, h6, h7⟩
    · exact .inl h
    · exact .inr (.inl ⟨a, b, xs, ys, h1, h2, e.seq h3, e.seq h4, h5, h6, fun i x y p q => Sm.same e (h7 i x y p q)⟩)
    · exact .inr (.inr ⟨a, b, xs, ys, h1, h2, sqt_same e h3, sqt_same e h4, h5, h6, fun i x y p q => Sm.same e (h7 i x y p q)⟩)
theorem tyx_l {K : PySem.W.Frag} {H : Hp} {a : Addr} {xs : List V} (h : SqL K H a xs) : TyX K H (.ref a) (.type "list") := by
  rcases h with (h | ⟨o, h⟩) | ⟨o, its, n, h1, h2, _⟩
  · exact .base (.lst h)
  · exact .base (.frz h)
  · exact .kList h1 h2
theorem tyx_t {K : PySem.W.Frag} {H : Hp} {a : Addr} {xs : List V} (h : SqT K H a xs) : TyX K H (.ref a) (.type "tuple") := by
  rcases h with (h | ⟨o, h⟩) | ⟨o, its, n, h1, h2, _⟩
  · exact .base (.tup h)
  · exact .fTuple h
  · exact .kTuple h1 h2
theorem rix {K : PySem.W.Frag} {H : Hp} {a : Addr} {xs : List V} {i : Int} {v : V} {Q : VK} (s : SqL K H a xs ∨ SqT K H a xs) (g : atI xs i = some v) (q : Q v H) : rIx K (.ref a) (.int i) H Q := by
  rcases s with s | s
  · exact .inl ⟨a, xs, i, v, rfl, rfl, s, g, q⟩
  · exact .inr (.inl ⟨a, xs, i, v, rfl, rfl, s, g, q⟩)
section
variable {P : Program} {w : World} {K : PySem.W.Frag} {mg : Str → Option Value} {base : Heap}
theorem eq_never (T : Txt K mg) : OkF P w K mg base 1 (He.ga K "_law_equal") ["_law_actual", "_law_expected"] (spEqOf fun _ _ _ => False) :=
  FnP.okF T.f__law_equal sc__law_equal (fun _ _ _ _ _ _ us hl => match us, hl with | [_, _], _ => rfl) (fun vs H Q E h => by obtain ⟨v, u, rfl, _⟩ := h; rfl) (fun cdv A outer s H vs Q E hr h => by obtain ⟨v, u, _, f, _⟩ := h; exact f.elim)
theorem eq_step {k : Nat} {R : Hp → V → V → Prop} (hR : ∀ H H' v u, Same H H' → R H v u → R H' v u) (T : Txt K mg) (G__law_equal : OkF P w K mg base k (He.ga K "_law_equal") ["_law_actual", "_law_expected"] (spEqOf R)) :
    OkF P w K mg base (k + 1) (He.ga K "_law_equal") ["_law_actual", "_law_expected"] (spEqOf (Nx K R)) := by
  refine FnP.okF T.f__law_equal sc__law_equal (fun _ _ _ _ _ _ us hl => match us, hl with | [_, _], _ => rfl) (fun vs H Q E h => ?_) (fun cdv A outer s H vs Q E hr h => ?_)
  · obtain ⟨v, u, rfl, _⟩ := h
    rfl
  obtain ⟨v, u, rfl, hS, q⟩ := h
  refine ⟨_, (pss_cons (ps_if (pt_cmpR (show OpR _ (compareOp .Is) Rd.rIsN from op_isN) (pv 1) pe_non (nomark _)) (pss_one (ps_ret (pe_cmpR (show OpR _ (compareOp .Is) Rd.rIsN from op_isN) (pv 0) pe_non (nomark _)))) pss_nil)
    (pss_cons (ps_if (pt_val (pe_callB (isiK (K := K)) (by rfl) T.g_isinstance (by decide +kernel) (pa_cons (pv 1) (pa_cons (pe_bltn (v := .ty "bool") (by rfl) T.g_bool boot_ty_bool rfl) pa_nil)))) (pss_one (ps_ret (pe_and (pe_callB (isiK (K := K)) (by rfl) T.g_isinstance (by decide +kernel) (pa_cons (pv 0) (pa_cons (pe_bltn (v := .ty "bool") (by rfl) T.g_bool boot_ty_bool rfl) pa_nil))) (pe_one (pe_cmpR op_eq (pv 0) (pv 1) (nomark _)))))) pss_nil)
    (pss_cons (ps_if (pt_val (pe_callB (isiK (K := K)) (by rfl) T.g_isinstance (by decide +kernel) (pa_cons (pv 1) (pa_cons (pe_bltn (v := .ty "int") (by rfl) T.g_int boot_ty_int rfl) pa_nil)))) (pss_one (ps_ret (pe_and (pe_callB (isiK (K := K)) (by rfl) T.g_isinstance (by decide +kernel) (pa_cons (pv 0) (pa_cons (pe_bltn (v := .ty "int") (by rfl) T.g_int boot_ty_int rfl) pa_nil))) (pe_and (pe_not (pe_callB (isiK (K := K)) (by rfl) T.g_isinstance (by decide +kernel) (pa_cons (pv 0) (pa_cons (pe_bltn (v := .ty "bool") (by rfl) T.g_bool boot_ty_bool rfl) pa_nil)))) (pe_one (pe_cmpR op_eq (pv 0) (pv 1) (nomark _))))))) pss_nil)
    (pss_cons (ps_if (pt_val (pe_callB (isiK (K := K)) (by rfl) T.g_isinstance (by decide +kernel) (pa_cons (pv 1) (pa_cons (pe_bltn (v := .ty "str") (by rfl) T.g_str boot_ty_str rfl) pa_nil)))) (pss_one (ps_ret (pe_and (pe_callB (isiK (K := K)) (by rfl) T.g_isinstance (by decide +kernel) (pa_cons (pv 0) (pa_cons (pe_bltn (v := .ty "str") (by rfl) T.g_str boot_ty_str rfl) pa_nil))) (pe_one (pe_cmpR op_eq (pv 0) (pv 1) (nomark _)))))) pss_nil)
    (pss_cons (ps_if (pt_cmpR op_ne (pe_callB (isiK (K := K)) (by rfl) T.g_isinstance (by decide +kernel) (pa_cons (pv 1) (pa_cons (pe_bltn (v := .ty "tuple") (by rfl) T.g_tuple boot_ty_tuple rfl) pa_nil))) (pe_callB (isiK (K := K)) (by rfl) T.g_isinstance (by decide +kernel) (pa_cons (pv 0) (pa_cons (pe_bltn (v := .ty "tuple") (by rfl) T.g_tuple boot_ty_tuple rfl) pa_nil))) (nomark _)) (pss_one (ps_ret pe_bl)) pss_nil)
    (pss_cons (ps_if (pt_cmpR op_ne (pe_callB (isiK (K := K)) (by rfl) T.g_isinstance (by decide +kernel) (pa_cons (pv 1) (pa_cons (pe_bltn (v := .ty "list") (by rfl) T.g_list boot_ty_list rfl) pa_nil))) (pe_callB (isiK (K := K)) (by rfl) T.g_isinstance (by decide +kernel) (pa_cons (pv 0) (pa_cons (pe_bltn (v := .ty "list") (by rfl) T.g_list boot_ty_list rfl) pa_nil))) (nomark _)) (pss_one (ps_ret pe_bl)) pss_nil)
    (pss_cons (ps_if (pt_cmpR op_ne (pe_callB (lenK (K := K)) (by rfl) T.g_len (by decide +kernel) (pa_cons (pv 0) pa_nil)) (pe_callB (lenK (K := K)) (by rfl) T.g_len (by decide +kernel) (pa_cons (pv 1) pa_nil)) (nomark _)) (pss_one (ps_ret pe_bl)) pss_nil)
    (pss_one (ps_ret (pe_callB (allLK (K := K)) (by rfl) T.g_all (by decide +kernel) (pa_cons (pe_lc (own := [("_law_k", 2)]) (g := gName 2) (tt := tYes) (by rfl) sc__law_equal.nd (pi_range1 (by rfl) T.g_range (pa_cons (pe_callB (lenK (K := K)) (by rfl) T.g_len (by decide +kernel) (pa_cons (pv 1) pa_nil)) pa_nil)) (blkOk_by (own := [("_law_k", 2)]) (N := N__law_equal) (sc := (defScope s__law_equal)) (by decide +kernel)) (fun _ _ _ _ _ => pg_name (i := 2) sc__law_equal.nd rfl (Or.inl rfl)) (fun _ _ _ _ _ => pts_nil) (fun _ _ _ _ _ => (pe_call G__law_equal.one hr (by rfl) T.g__law_equal G__law_equal.kp G__law_equal.two .nil passL (pa_cons (pe_ix (ixSK (K := K)) (pv 0) (pv 2) (fun _ _ => rfl)) (pa_cons (pe_ix (ixSK (K := K)) (pv 1) (pv 2) (fun _ _ => rfl)) pa_nil))))) pa_nil))))))))))), ?_⟩
  have q0 := q H (Same.refl H)
  -- isinstance(x, n)
  rcases hS with ⟨rfl, hf⟩ | hS
  · cases v with
    | non => exact ⟨_, rfl, rfl, _, rfl, _, rfl, rfl, q0⟩
    | bl x =>
      refine ⟨_, rfl, rfl, _, rfl, ?_⟩
      refine ⟨_, rfl, .bl x, .ty "bool", _, _, true, rfl, .ty "bool", .base (.bl x), kit_at (by decide +kernel), true, rfl, ?_⟩
      refine ⟨_, rfl, .bl x, .ty "bool", _, _, true, rfl, .ty "bool", .base (.bl x), kit_at (by decide +kernel), true, rfl, ?_⟩
      refine ⟨_, rfl, _, rfl, rfl, ?_⟩
      show Q (V.bl (decide (V.bl x = V.bl x))) H
      rw [decide_eq_true rfl]
      exact q0
    | int x =>
      refine ⟨_, rfl, rfl, _, rfl, ?_⟩
      refine ⟨_, rfl, .int x, .ty "bool", _, _, false, rfl, .ty "bool", .base (.int x), kit_at (by decide +kernel), false, rfl, ?_⟩
      refine ⟨_, rfl, .int x, .ty "int", _, _, true, rfl, .ty "int", .base (.int x), kit_at (by decide +kernel), true, rfl, ?_⟩
      refine ⟨_, rfl, .int x, .ty "int", _, _, true, rfl, .ty "int", .base (.int x), kit_at (by decide +kernel), true, rfl, ?_⟩
      refine ⟨_, rfl, .int x, .ty "bool", _, _, false, rfl, .ty "bool", .base (.int x), kit_at (by decide +kernel), false, rfl, true, rfl, ?_⟩
      refine ⟨_, rfl, _, rfl, rfl, ?_⟩
      show Q (V.bl (decide (V.int x = V.int x))) H
      rw [decide_eq_true rfl]
      exact q0
    | str x =>
      refine ⟨_, rfl, rfl, _, rfl, ?_⟩
      refine ⟨_, rfl, .str x, .ty "bool", _, _, false, rfl, .ty "bool", .base (.str x), kit_at (by decide +kernel), false, rfl, ?_⟩
      refine ⟨_, rfl, .str x, .ty "int", _, _, false, rfl, .ty "int", .base (.str x), kit_at (by decide +kernel), false, rfl, ?_⟩
      refine ⟨_, rfl, .str x, .ty "str", _, _, true, rfl, .ty "str", .base (.str x), kit_at (by decide +kernel), true, rfl, ?_⟩
      refine ⟨_, rfl, .str x, .ty "str", _, _, true, rfl, .ty "str", .base (.str x), kit_at (by decide +kernel), true, rfl, ?_⟩
      refine ⟨_, rfl, _, rfl, rfl, ?_⟩
      show Q (V.bl (decide (V.str x = V.str x))) H
      rw [decide_eq_true rfl]
      exact q0
    | _ => cases hf
  · -- two lists, two tuples: what both want
    obtain ⟨kind, a, b, xs, ys, tya, tyb, rfl, rfl, st, hl, hz, hi, ka, kb, kc, tt1, tl1⟩ : ∃ (kind : String) (a b : Addr) (xs ys : List V), TyX K H (.ref a) (.type kind) ∧ TyX K H (.ref b) (.type kind) ∧ v = .ref a ∧ u = .ref b ∧
        (∀ H', Same H H' → (SqL K H' a xs ∨ SqT K H' a xs) ∧ (SqL K H' b ys ∨ SqT K H' b ys)) ∧ xs.length = ys.length ∧ xs.length ≤ 100000 ∧ (∀ (i : Nat) x y, xs[i]? = some x → ys[i]? = some y → R H x y) ∧
        kitB kind "bool" = some false ∧ kitB kind "int" = some false ∧ kitB kind "str" = some false ∧ (∃ b, kitB kind "tuple" = some b) ∧ (∃ b, kitB kind "list" = some b) := by
      rcases hS with ⟨a, b, xs, ys, h1, h2, h3, h4, h5, h6, h7⟩ | ⟨a, b, xs, ys, h1, h2, h3, h4, h5, h6, h7⟩
      · exact ⟨"list", a, b, xs, ys, tyx_l h3, tyx_l h4, h1, h2, fun H' e => ⟨.inl (e.seq h3), .inl (e.seq h4)⟩, h5, h6, h7, by decide +kernel, by decide +kernel, by decide +kernel, ⟨false, by decide +kernel⟩, ⟨true, by decide +kernel⟩⟩
      · exact ⟨"tuple", a, b, xs, ys, tyx_t h3, tyx_t h4, h1, h2, fun H' e => ⟨.inr (sqt_same e h3), .inr (sqt_same e h4)⟩, h5, h6, h7, by decide +kernel, by decide +kernel, by decide +kernel, ⟨true, by decide +kernel⟩, ⟨false, by decide +kernel⟩⟩
    obtain ⟨tt, htt⟩ := tt1
    obtain ⟨tl, htl⟩ := tl1
    refine ⟨_, rfl, rfl, _, rfl, ?_⟩
    refine ⟨_, rfl, .ref b, .ty "bool", _, _, false, rfl, .ty "bool", tyb, kit_at ka, false, rfl, ?_⟩
    refine ⟨_, rfl, .ref b, .ty "int", _, _, false, rfl, .ty "int", tyb, kit_at kb, false, rfl, ?_⟩
    refine ⟨_, rfl, .ref b, .ty "str", _, _, false, rfl, .ty "str", tyb, kit_at kc, false, rfl, ?_⟩
    refine ⟨_, rfl, .ref b, .ty "tuple", _, _, tt, rfl, .ty "tuple", tyb, kit_at htt, _, rfl, .ref a, .ty "tuple", _, _, tt, rfl, .ty "tuple", tya, kit_at htt, (by cases tt <;> rfl), _, rfl, ?_⟩
    refine iteNS rfl ?_
    refine ⟨_, rfl, .ref b, .ty "list", _, _, tl, rfl, .ty "list", tyb, kit_at htl, _, rfl, .ref a, .ty "list", _, _, tl, rfl, .ty "list", tya, kit_at htl, (by cases tl <;> rfl), _, rfl, ?_⟩
    refine iteNS rfl ?_
    have s0 := st H (Same.refl H)
    refine ⟨_, rfl, a, xs, rfl, s0.1, _, rfl, b, ys, rfl, s0.2, rfl, _, rfl, ?_⟩
    refine iteNS (by rw [hl]) ?_
    -- all([..])
    refine ⟨_, rfl, b, ys, rfl, s0.2, _, rfl, by omega, by omega, fun D hD => ?_⟩
    refine lc_range (lo := 0) (n := ((ys.length : Int)).toNat) (fun i H2 => Same H H2 ∧ H2 D = some (.lst ((List.replicate i true).map V.bl))) ⟨Same.new hD, upd_same⟩ ?_ ?_
    · rintro i H2 hi2 ⟨S2, hD2⟩
      have iy : i < ys.length := by simpa using hi2
      have ix : i < xs.length := by omega
      have s2 := st H2 S2
      have gx : atI xs ((0 : Int) + (i : Int)) = some xs[i] := by rw [Int.zero_add]; exact atn (List.getElem?_eq_getElem ix)
      have gy : atI ys ((0 : Int) + (i : Int)) = some ys[i] := by rw [Int.zero_add]; exact atn (List.getElem?_eq_getElem iy)
      refine ⟨rfl, ?_⟩
      refine ⟨_, rfl, _, rfl, rix s2.1 gx ?_⟩
      refine ⟨_, rfl, _, rfl, rix s2.2 gy ?_⟩
      refine ⟨_, _, rfl, hR _ _ _ _ S2 (hi i _ _ (List.getElem?_eq_getElem ix) (List.getElem?_eq_getElem iy)), fun H3 S3 => ?_⟩
      refine ⟨(List.replicate i true).map V.bl, S3 _ _ hD2, Nat.lt_of_le_of_lt (m := 100000) (by simp; omega) (by decide), ?_, ?_⟩
      · intro b' o e
        rw [upd_ne (ne_of_none e hD)]
        exact S3 _ _ (S2 _ _ e)
      · rw [upd_same, List.replicate_succ', List.map_append]
        rfl
    · rintro H2 ⟨S2, hD2⟩
      refine ⟨D, _, rfl, SqL.of hD2, ?_⟩
      have e : (List.replicate ((ys.length : Int)).toNat true).all id = true := by simp
      rw [e]
      exact q H2 S2
theorem ok__law_equal (T : Txt K mg) : ∀ n : Nat, OkF P w K mg base (n + 1) (He.ga K "_law_equal") ["_law_actual", "_law_expected"] (spEqOf (Sm K n))
  | 0 => eq_never T
  | n + 1 => eq_step (fun H H' v u e h => Sm.same e h) T (ok__law_equal T n)
end
theorem Sm.flats {K : PySem.W.Frag} {n : Nat} {H : Hp} {a b : Addr} {xs : List V} (h1 : SqL K H a xs) (h2 : SqL K H b xs) (hl : xs.length ≤ 100000) (hf : ∀ x ∈ xs, flat x = true) : Sm K (n + 2) H (.ref a) (.ref b) :=
  .inr (.inl ⟨a, b, xs, xs, rfl, rfl, h1, h2, rfl, hl, fun i x y hx hy => .inl ⟨Option.some.inj (hx.symm.trans hy), hf x (List.mem_of_getElem? hx)⟩⟩)
theorem Sm.int {K : PySem.W.Frag} {n : Nat} {H : Hp} {i j : Int} (h : i = j) : Sm K (n + 1) H (.int i) (.int j) := .inl ⟨by rw [h], rfl⟩
end Tk

namespace Tk
open PySem PySem.Spec PyProof.Rows L2 Mm
/-- what a turn of a law holds: the hall, the counts up to n, away from d -/
structure EnvN (C : Addr) (H : Hp) (d hh a1 b1 : Addr) (m : Nat) (tk cl : List Nat) (lt : Nat) (lp : Addr) (n : Nat) : Prop where
  hall : HallAt C H hh m tk cl lt lp
  one : H a1 = some (.lst (fV (tak tk) n))
  two : H b1 = some (.lst (fV (cal tk cl) n))
  nl : lp ≠ d
  n1 : a1 ≠ d
  n2 : b1 ≠ d
theorem EnvN.but {C : Addr} {H H' : Hp} {d hh a1 b1 lp : Addr} {m lt n : Nat} {tk cl : List Nat} {cs : List V} (e : EnvN C H d hh a1 b1 m tk cl lt lp n) (b : But d H H') (hd : H d = some (.lst cs)) : EnvN C H' d hh a1 b1 m tk cl lt lp n :=
  ⟨e.hall.but b hd e.nl, b _ _ e.n1 e.one, b _ _ e.n2 e.two, e.nl, e.n1, e.n2⟩
theorem EnvN.same {C : Addr} {H H' : Hp} {d hh a1 b1 lp : Addr} {m lt n : Nat} {tk cl : List Nat} (e : EnvN C H d hh a1 b1 m tk cl lt lp n) (b : Same H H') : EnvN C H' d hh a1 b1 m tk cl lt lp n :=
  ⟨e.hall.same b, b _ _ e.one, b _ _ e.two, e.nl, e.n1, e.n2⟩
theorem hfs_meth {m : Nat} {tp cp : Addr} {lt : Nat} {lp : Addr} {x : Str} (h : (["_called", "lateness", "calls", "takes", "modulus"] : List Str).contains x = false) : (hfs m tp cp lt lp).lookup x = none := by
  simp only [List.contains_cons, Bool.or_eq_false_iff, beq_eq_false_iff_ne] at h
  obtain ⟨h1, h2, h3, h4, h5, _⟩ := h
  exact hfs_no h1 h2 h3 h4 h5
theorem Sm.flatsT {K : PySem.W.Frag} {n : Nat} {H : Hp} {a b : Addr} {xs : List V} (h1 : SqT K H a xs) (h2 : SqT K H b xs) (hl : xs.length ≤ 100000) (hf : ∀ x ∈ xs, flat x = true) : Sm K (n + 2) H (.ref a) (.ref b) :=
  .inr (.inr ⟨a, b, xs, xs, rfl, rfl, h1, h2, rfl, hl, fun i x y hx hy => .inl ⟨Option.some.inj (hx.symm.trans hy), hf x (List.mem_of_getElem? hx)⟩⟩)
theorem Sm.flat1 {K : PySem.W.Frag} {n : Nat} {H : Hp} {v : V} (h : flat v = true) : Sm K (n + 1) H v v := .inl ⟨rfl, h⟩
theorem flat_vn {ps : List Nat} : ∀ x ∈ ps.map vn, flat x = true := fun x hx => by
  obtain ⟨n, _, rfl⟩ := List.mem_map.mp hx
  rfl
end Tk

/-! ### Readings of halls -/
namespace Tk
open PySem PySem.Spec PyProof.Rows L2 Mm
theorem HallAt.sm {C h lp : Addr} {H H' : Hp} {m lt : Nat} {tk cl : List Nat} (b : Same H H') (p : HallAt C H h m tk cl lt lp) : HallAt C H' h m tk cl lt lp := p.same b
theorem PartsAt.sm {t tp cp : Addr} {H H' : Hp} {m lt : Nat} {tk cl : List Nat} (b : Same H H') (p : PartsAt H t m tp tk cp cl lt) : PartsAt H' t m tp tk cp cl lt := p.same b
theorem PartsAt.sq {K : PySem.W.Frag} {t tp cp : Addr} {H : Hp} {m lt : Nat} {tk cl : List Nat} (p : PartsAt H t m tp tk cp cl lt) : SqT K H t [vn m, .ref tp, .ref cp, vn lt] := SqT.of p.at_
theorem Sm.sm {K : PySem.W.Frag} {H H' : Hp} {n : Nat} {v u : V} (e : Same H H') (h : Sm K n H v u) : Sm K n H' v u := Sm.same e h
inductive SmL (R : V → V → Prop) : List V → List V → Prop where
  | nil : SmL R [] []
  | cons {x y : V} {xs ys : List V} (h : R x y) (t : SmL R xs ys) : SmL R (x :: xs) (y :: ys)
theorem SmL.len {R : V → V → Prop} : ∀ {xs ys : List V}, SmL R xs ys → xs.length = ys.length
  | _, _, .nil => rfl
  | _, _, .cons _ t => by rw [List.length_cons, List.length_cons, t.len]
theorem SmL.at {R : V → V → Prop} : ∀ {xs ys : List V}, SmL R xs ys → ∀ (i : Nat) x y, xs[i]? = some x → ys[i]? = some y → R x y
  | _, _, .nil, i, x, y, h, _ => by cases h
  | _, _, .cons h t, 0, x, y, h1, h2 => by
    obtain rfl := Option.some.inj h1
    obtain rfl := Option.some.inj h2
    exact h
  | _, _, .cons h t, i + 1, x, y, h1, h2 => t.at i x y h1 h2
theorem Sm.lst {K : PySem.W.Frag} {n : Nat} {H : Hp} {a b : Addr} {xs ys : List V} (h1 : SqL K H a xs) (h2 : SqL K H b ys) (hz : xs.length ≤ 100000) (h : SmL (Sm K n H) xs ys) : Sm K (n + 1) H (.ref a) (.ref b) := .inr (.inl ⟨a, b, xs, ys, rfl, rfl, h1, h2, h.len, hz, h.at⟩)
theorem Sm.tpl {K : PySem.W.Frag} {n : Nat} {H : Hp} {a b : Addr} {xs ys : List V} (h1 : SqT K H a xs) (h2 : SqT K H b ys) (hz : xs.length ≤ 100000) (h : SmL (Sm K n H) xs ys) : Sm K (n + 1) H (.ref a) (.ref b) := .inr (.inr ⟨a, b, xs, ys, rfl, rfl, h1, h2, h.len, hz, h.at⟩)
theorem Sm.rfl1 {K : PySem.W.Frag} {n : Nat} {H : Hp} {v : V} (h : flat v = true := by rfl) : Sm K (n + 1) H v v := .inl ⟨rfl, h⟩
namespace Rd
variable {K : PySem.W.Frag} {mg : Str → Option Value} {σ : L2.St} {H : Hp} {Q : VK} {E : XK} {t : TA} {C h lp : Addr} {m lt : Nat} {tk cl : List Nat}
theorem f_modulus (T : Txt K mg) (hA : HallAt (He.ga K "Hall") H h m tk cl lt lp) (k : Q (vn m) H) : fldK K "modulus" Q (.ref h) H := by
  obtain ⟨dx, tp, cp, hh, htp, hcp⟩ := hA.ex
  exact ⟨h, _, dx, _, _, rfl, hh, T.cl_Hall, T.n_modulus, hfs_modulus, k⟩
theorem f_lateness (T : Txt K mg) (hA : HallAt (He.ga K "Hall") H h m tk cl lt lp) (k : Q (vn lt) H) : fldK K "lateness" Q (.ref h) H := by
  obtain ⟨dx, tp, cp, hh, htp, hcp⟩ := hA.ex
  exact ⟨h, _, dx, _, _, rfl, hh, T.cl_Hall, T.n_lateness, hfs_lateness, k⟩
theorem f_takes (T : Txt K mg) (hA : HallAt (He.ga K "Hall") H h m tk cl lt lp) (k : ∀ tp, H tp = some (.tup (tk.map vn)) → Q (.ref tp) H) : fldK K "takes" Q (.ref h) H := by
  obtain ⟨dx, tp, cp, hh, htp, hcp⟩ := hA.ex
  exact ⟨h, _, dx, _, _, rfl, hh, T.cl_Hall, T.n_takes, hfs_takes, k tp htp⟩
theorem f_calls (T : Txt K mg) (hA : HallAt (He.ga K "Hall") H h m tk cl lt lp) (k : ∀ cp, H cp = some (.tup (cl.map vn)) → Q (.ref cp) H) : fldK K "calls" Q (.ref h) H := by
  obtain ⟨dx, tp, cp, hh, htp, hcp⟩ := hA.ex
  exact ⟨h, _, dx, _, _, rfl, hh, T.cl_Hall, T.n_calls, hfs_calls, k cp hcp⟩
theorem h_meth {x : Str} {sp : Sp} (hA : HallAt C H h m tk cl lt lp) (hx : (["_called", "lateness", "calls", "takes", "modulus"] : List Str).contains x = false) (k : t σ H fun vs H2 => sp (.ref h :: vs) H2 Q E) : methK x sp C [] E t σ Q (.ref h) H := by
  obtain ⟨dx, tp, cp, hh, htp, hcp⟩ := hA.ex
  refine ⟨h, dx, _, rfl, hh, hfs_meth hx, ?_⟩
  simp only [List.append_nil]
  exact k
theorem h_prop {sp : Sp} {dvs : List V} (hA : HallAt C H h m tk cl lt lp) (k : sp (.ref h :: dvs) H Q E) : propK sp C dvs E Q (.ref h) H := by
  obtain ⟨dx, tp, cp, hh, htp, hcp⟩ := hA.ex
  exact ⟨h, dx, _, rfl, hh, k⟩
theorem h_taken {n : Nat} {z : Int} {r : List V} (hA : HallAt C H h m tk cl lt lp) (e : z.toNat = n) (k : ∀ H', Same H H' → Q (vn (tak tk n)) H') : spTaken C [.ref h, .int z] H Q E :=
  ⟨h, lp, z, m, lt, tk, cl, rfl, hA, by rw [e]; exact k⟩
theorem h_taken0 {n : Nat} (hA : HallAt C H h m tk cl lt lp) (k : ∀ H', Same H H' → Q (vn (tak tk n)) H') : spTaken C [.ref h, .int (n : Int)] H Q E := h_taken (r := []) hA (by omega) k
theorem h_taken1 {n : Nat} (hA : HallAt C H h m tk cl lt lp) (k : ∀ H', Same H H' → Q (vn (tak tk (n + 1))) H') : spTaken C [.ref h, .int ((n : Int) + 1)] H Q E := h_taken (r := []) hA (by omega) k
theorem h_takenL {n j : Nat} (hA : HallAt C H h m tk cl lt lp) (k : ∀ H', Same H H' → Q (vn (tak tk (n - j))) H') : spTaken C [.ref h, .int ((n : Int) - (j : Int))] H Q E := h_taken (r := []) hA (by omega) k
theorem h_called {n : Nat} {z : Int} {r : List V} (hA : HallAt C H h m tk cl lt lp) (e : z.toNat = n) (k : Q (vn (cal tk cl n)) H) : spCalled C [.ref h, .int z] H Q E :=
  ⟨h, lp, z, m, lt, tk, cl, rfl, hA, by rw [e]; exact k⟩
theorem h_called0 {n : Nat} (hA : HallAt C H h m tk cl lt lp) (k : Q (vn (cal tk cl n)) H) : spCalled C [.ref h, .int (n : Int)] H Q E := h_called (r := []) hA (by omega) k
theorem h_called1 {n : Nat} (hA : HallAt C H h m tk cl lt lp) (k : Q (vn (cal tk cl (n + 1))) H) : spCalled C [.ref h, .int ((n : Int) + 1)] H Q E := h_called (r := []) hA (by omega) k
theorem h_calledL {n j : Nat} (hA : HallAt C H h m tk cl lt lp) (k : Q (vn (cal tk cl (n - j))) H) : spCalled C [.ref h, .int ((n : Int) - (j : Int))] H Q E := h_called (r := []) hA (by omega) k
theorem h_waiting {n : Nat} (hA : HallAt C H h m tk cl lt lp) (hn : n ≤ 1000000000000000000) (k : ∀ H', Same H H' → Q (vn (wt tk cl (n + 1))) H') : spWaiting C [.ref h, .int (n : Int)] H Q E := ⟨h, lp, n, m, lt, tk, cl, rfl, hn, hA, k⟩
theorem h_growth (hA : HallAt C H h m tk cl lt lp) (k : ∀ H', Same H H' → Q (vn (grow tk cl)) H') : spGrowth C [.ref h] H Q E := ⟨h, lp, m, lt, tk, cl, rfl, hA, k⟩
theorem h_period (hA : HallAt C H h m tk cl lt lp) (k : Q (vn (per tk cl)) H) : spPeriod C [.ref h] H Q E := by
  obtain ⟨dx, tp, cp, hh, htp, hcp⟩ := hA.ex
  exact ⟨h, dx, tp, cp, _, tk, cl, rfl, hh, hfs_takes, hfs_calls, htp, hcp, hA.ok.tkP, hA.ok.clP, k⟩
theorem h_lhall {tp cp p : Addr} (hP : PartsAt H p m tp tk cp cl lt) (k : ∀ h lp H', H h = none → H lp = none → Same H H' → HallAt C H' h m tk cl lt lp → Q (.ref h) H') : spLHall C [.ref p] H Q E := ⟨p, tp, cp, m, lt, tk, cl, rfl, hP, k⟩
theorem h_length {tp cp p : Addr} (hP : PartsAt H p m tp tk cp cl lt) (k : Q (vn (per tk cl)) H) : spLength [.ref p] H Q E := ⟨p, tp, cp, m, lt, tk, cl, rfl, hP, k⟩
theorem h_counts {tp cp p : Addr} {n : Nat} (hP : PartsAt H p m tp tk cp cl lt) (hn : n ≤ 1000) (k : ∀ r a b H', H r = none → H a = none → H b = none → a ≠ b → Same H H' → H' r = some (.tup [.ref a, .ref b]) → H' a = some (.lst (fV (tak tk) n)) → H' b = some (.lst (fV (cal tk cl) n)) → Q (.ref r) H') :
    spCounts [.ref p, .int (n : Int)] H Q E := ⟨p, tp, cp, m, lt, tk, cl, n, rfl, hP, hn, k⟩
theorem h_equal {n : Nat} {v u : V} (h : Sm K n H v u) (k : ∀ H', Same H H' → Q (.bl true) H') : spEqOf (Sm K n) [v, u] H Q E := ⟨v, u, rfl, h, k⟩
theorem h_make {tp cp : Addr} (hP : Parts m tk cl lt) (htp : H tp = some (.tup (tk.map vn))) (hcp : H cp = some (.tup (cl.map vn))) (k : ∀ h lp H', H h = none → H lp = none → Same H H' → HallAt C H' h m tk cl lt lp → Q (.ref h) H') :
    makeK C (spInit C) [] E Q [vn m, .ref tp, .ref cp, vn lt] H := fun x dx nx ndx nex => by
  have S1 : Same H (upd (upd H dx (.own x)) x (.ins C dx [])) := fun b o e => by
    rw [upd_ne (ne_of_none e nx), upd_ne (ne_of_none e ndx)]
    exact e
  refine ⟨x, dx, tp, cp, m, lt, tk, cl, rfl, upd_same, S1 _ _ htp, S1 _ _ hcp, hP, fun H' lp B n hA => ⟨rfl, ?_⟩⟩
  exact k x lp H' nx (S1.free n) (fun b o e => B b o (ne_of_none e nx) (S1 b o e)) hA
/-- the parts' items -/
theorem p_0 {tp cp p : Addr} (hP : PartsAt H p m tp tk cp cl lt) (k : Q (vn m) H) : rIxT K (.ref p) (.int 0) H Q := ixT (SqT.of hP.at_) (at3 (j := 0) rfl) k
theorem p_1 {tp cp p : Addr} (hP : PartsAt H p m tp tk cp cl lt) (k : H tp = some (.tup (tk.map vn)) → Q (.ref tp) H) : rIxT K (.ref p) (.int 1) H Q := ixT (SqT.of hP.at_) (at3 (j := 1) rfl) (k hP.tkA)
theorem p_2 {tp cp p : Addr} (hP : PartsAt H p m tp tk cp cl lt) (k : H cp = some (.tup (cl.map vn)) → Q (.ref cp) H) : rIxT K (.ref p) (.int 2) H Q := ixT (SqT.of hP.at_) (at3 (j := 2) rfl) (k hP.clA)
theorem p_3 {tp cp p : Addr} (hP : PartsAt H p m tp tk cp cl lt) (k : Q (vn lt) H) : rIxT K (.ref p) (.int 3) H Q := ixT (SqT.of hP.at_) (at3 (j := 3) rfl) k
end Rd
end Tk

section
local macro_rules | `(tactic| walk_at "hp") => `(tactic| first
  | assumption
  | with_reducible exact L2.upd_same
  | ((with_reducible refine' Tk.Same.get ?k0 ?k1); (case k0 => assumption); (case k1 => walk_at "hp"))
  | fail "hp")
local macro_rules | `(tactic| walk_at "same") => `(tactic| first
  | assumption
  | exact L2.Same.refl _
  | ((with_reducible refine' Tk.Same.nw ?k0 ?k1); (case k0 => assumption); (case k1 => walk_at "same"))
  | ((with_reducible refine' Tk.Same.tr ?k0 ?k1); (case k0 => assumption); (case k1 => walk_at "same")))
local macro_rules | `(tactic| walk_at "sql") => `(tactic| first
  | assumption
  | ((with_reducible refine' L2.SqL.of ?k0); (case k0 => walk_at "hp"))
  | ((with_reducible refine' L2.Same.seq ?k0 ?k1); (case k0 => assumption); (case k1 => walk_at "sql")))
local macro_rules | `(tactic| walk_at "sqt") => `(tactic| first
  | assumption
  | ((with_reducible refine' L2.SqT.of ?k0); (case k0 => walk_at "hp"))
  | ((with_reducible refine' Tk.sqt_sm ?k0 ?k1); (case k0 => assumption); (case k1 => walk_at "sqt")))
local macro_rules | `(tactic| walk_at "sz") => `(tactic| first
  | (show (_ : Nat) ≤ 1000; decide)
  | (simp; done)
  | (simp; omega))
local macro_rules | `(tactic| walk_at "szb") => `(tactic| first
  | assumption
  | (show (_ : Nat) ≤ 100000; decide)
  | (simp; done)
  | (simp; omega))
local macro_rules | `(tactic| walk_at "dp") => `(tactic| first
  | assumption
  | with_reducible exact L2.Dp.non
  | with_reducible exact L2.Dp.int _
  | with_reducible exact L2.Dp.str _
  | with_reducible exact L2.Dp.bl _
  | ((with_reducible refine' L2.Dp.lst ?k0 ?k1); (case k0 => walk_at "sql"); (case k1 => walk_at "dpa"))
  | ((with_reducible refine' L2.Dp.tup ?k0 ?k1); (case k0 => walk_at "sqt"); (case k1 => walk_at "dpa"))
  | ((with_reducible refine' Tk.dp_sm ?k0 ?k1); (case k0 => assumption); (case k1 => walk_at "dp"))
  | fail "dp")
local macro_rules | `(tactic| walk_at "dpa") => `(tactic| first
  | assumption
  | with_reducible exact L2.DpAll.nil
  | ((with_reducible refine' L2.DpAll.cons ?k0 ?k1); (case k0 => walk_at "dp"); (case k1 => walk_at "dpa"))
  | with_reducible exact Tk.dp_nats _
  | ((with_reducible refine' Tk.dpA_sm ?k0 ?k1); (case k0 => assumption); (case k1 => walk_at "dpa"))
  | fail "dpa")
local macro_rules | `(tactic| walk_at "ci") => `(tactic| first
  | exact .inl ⟨by decide, by decide⟩
  | exact .inr ⟨by decide, by decide⟩
  | exact .inl ⟨by omega, by omega⟩
  | exact .inr ⟨by omega, by omega⟩
  | exact ⟨by decide, by decide⟩
  | exact ⟨by omega, by omega⟩
  | (show (0 : Int) < _; decide)
  | (show (0 : Int) < _; omega))
local macro_rules | `(tactic| walk_at "rd1") => `(tactic| first
  | with_reducible refine Tk.Rd.seq ?_
  | with_reducible refine Tk.Rd.star ?_
  | ((with_reducible refine' Tk.Rd.catL ?k0 ?k1 ?k2 fun p H' np S hp => ?_); (case k0 => walk_at "hp"); (case k1 => walk_at "hp"); (case k2 => walk_at "szb"))
  | ((with_reducible refine' Tk.Rd.starK_t ?k0 ?_); (case k0 => walk_at "sqt"))
  | ((with_reducible refine' Tk.Rd.starK_l ?k0 ?_); (case k0 => walk_at "sql"))
  | ((with_reducible refine' Tk.Rd.var ?k0 ?_); (case k0 => exact rfl))
  | with_reducible refine Tk.Rd.c ?_
  | with_reducible refine Tk.Rd.op ?_
  | with_reducible refine Tk.Rd.i0 ?_
  | with_reducible refine Tk.Rd.asg ?_
  | with_reducible refine Tk.Rd.name ?_
  | with_reducible refine Tk.Rd.cons ?_
  | with_reducible refine Tk.Rd.nil ?_
  | with_reducible refine Tk.Rd.call ?_
  | with_reducible refine Tk.Rd.callK_i ?_
  | with_reducible refine Tk.Rd.ifS ?_
  | with_reducible refine Tk.Rd.tst ?_
  | with_reducible refine Tk.Rd.bv ?_
  | with_reducible refine Tk.Rd.toB_i ?_
  | with_reducible refine Tk.Rd.ift ?_
  | with_reducible refine Tk.Rd.iff ?_
  | with_reducible refine Tk.Rd.ifnt ?_
  | with_reducible refine Tk.Rd.ifnf ?_
  | with_reducible refine Tk.Rd.not ?_
  | with_reducible refine Tk.Rd.and ?_
  | with_reducible refine Tk.Rd.or ?_
  | with_reducible refine Tk.Rd.andV ?_
  | with_reducible refine Tk.Rd.andK_i ?_
  | with_reducible refine Tk.Rd.orV ?_
  | with_reducible refine Tk.Rd.orK_i ?_
  | with_reducible refine Tk.Rd.notV ?_
  | with_reducible refine Tk.Rd.notK_i ?_
  | with_reducible refine Tk.Rd.tif ?_
  | with_reducible refine Tk.Rd.yes ?_
  | with_reducible refine Tk.Rd.tfor ?_
  | with_reducible refine Tk.Rd.tlc ?_
  | with_reducible refine Tk.Rd.rng ?_
  | ((with_reducible refine' Tk.Rd.rngK_n ?k0 ?_); (case k0 => first | decide | omega))
  | ((with_reducible refine' Tk.Rd.rngK_lit ?k0 ?_); (case k0 => decide))
  | with_reducible refine Tk.Rd.rng2 ?_
  | with_reducible refine Tk.Rd.rng3 ?_
  | with_reducible refine Tk.Rd.ilist ?_
  | with_reducible refine Tk.Rd.zip ?_
  | with_reducible refine Tk.Rd.itup ?_
  | ((with_reducible refine' Tk.Rd.listK_i ?k0 ?_); (case k0 => walk_at "sql"))
  | ((with_reducible refine' Tk.Rd.ituK_i ?k0 ?_); (case k0 => walk_at "sqt"))
  | with_reducible refine Tk.Rd.chain ?_
  | with_reducible refine Tk.Rd.chainL_i ?_
  | with_reducible refine Tk.Rd.un ?_
  | with_reducible refine Tk.Rd.u1 ?_
  | ((with_reducible refine' Tk.Rd.i1 ?k0 ?_); (case k0 => walk_at "ci"))
  | ((with_reducible refine' Tk.Rd.eq ?k0 ?_); (case k0 => exact rfl))
  | ((with_reducible refine' Tk.Rd.ne ?k0 ?_); (case k0 => exact rfl))
  | with_reducible refine Tk.Rd.isN ?_
  | with_reducible refine Tk.Rd.notN ?_
  | with_reducible refine Tk.Rd.fld ?_
  | with_reducible refine Tk.Rd.meth ?_
  | with_reducible refine Tk.Rd.prop ?_
  | with_reducible refine Tk.Rd.cb ?_
  | with_reducible refine Tk.Rd.bm ?_
  | with_reducible refine Tk.Rd.m0 ?_
  | with_reducible refine Tk.Rd.m0K_i ?_
  | with_reducible refine Tk.Rd.m1 ?_
  | with_reducible refine Tk.Rd.m1K_i ?_
  | with_reducible refine Tk.Rd.tup ?_
  | ((with_reducible refine' Tk.Rd.tupK_i ?k0 fun p H' np S hp => ?_); (case k0 => walk_at "sz"))
  | with_reducible refine Tk.Rd.lst ?_
  | ((with_reducible refine' Tk.Rd.lstK_i ?k0 fun p H' np S hp => ?_); (case k0 => walk_at "sz"))
  | ((with_reducible refine' Tk.Rd.ixT ?k0 ?k1 ?_); (case k0 => walk_at "sqt"); (case k1 => exact rfl))
  | ((with_reducible refine' Tk.Rd.ixL ?k0 ?k1 ?_); (case k0 => walk_at "sql"); (case k1 => exact rfl))
  | ((with_reducible refine' Tk.Rd.lenL ?k0 ?_); (case k0 => walk_at "sql"))
  | ((with_reducible refine' Tk.Rd.lenT ?k0 ?_); (case k0 => walk_at "sqt"))
  | ((with_reducible refine' Tk.Rd.lenS ?k0 ?_); (case k0 => first | assumption | omega | (simp; omega)))
  | ((with_reducible refine' Tk.Rd.slT ?k0 fun p H' S hq => ?_); (case k0 => walk_at "sqt"))
  | ((with_reducible refine' Tk.Rd.catA ?k0 ?k1 ?k2 ?k3 ?k4 fun p H' np S hp => ?_); (case k0 => walk_at "sqt"); (case k1 => walk_at "sqt"); (case k2 => simp); (case k3 => simp); (case k4 => first | (simp; done) | (simp; omega)))
  | with_reducible refine Tk.Rd.make ?_
  | ((with_reducible refine' Tk.Rd.tplL ?k0 fun q H' nq S hq => ?_); (case k0 => walk_at "sql"))
  | ((with_reducible refine' Tk.Rd.lstL ?k0 fun q H' nq S hq => ?_); (case k0 => walk_at "sql"))
  | ((with_reducible refine' Tk.Rd.lstT ?k0 fun q H' nq S hq => ?_); (case k0 => walk_at "sqt"))
  | ((with_reducible refine' Tk.Rd.join ?k0 ?k1 ?_); (case k0 => walk_at "sql"); (case k1 => first | assumption | omega))
  | with_reducible refine Tk.Rd.mx ?_
  | with_reducible refine Tk.Rd.mn ?_
  | with_reducible refine Tk.Rd.noPart ?_
  | with_reducible refine Tk.Rd.part ?_
  | with_reducible refine Tk.Rd.partK_i ?_
  | with_reducible refine Tk.Rd.slc ?_
  | ((with_reducible refine' Tk.Rd.gtup ?k0 ?k1 ?_); (case k0 => walk_at "sqt"); (case k1 => exact rfl))
  | ((with_reducible refine' Tk.Rd.glst ?k0 ?k1 ?_); (case k0 => walk_at "sql"); (case k1 => exact rfl))
  | with_reducible refine Tk.Rd.gcons ?_
  | with_reducible refine Tk.Rd.gnil ?_
  | with_reducible refine Tk.Rd.next ?_
  | with_reducible refine Tk.Rd.drop ?_
  | with_reducible refine Tk.Rd.ret ?_
  | with_reducible refine Tk.Rd.retN ?_
  | with_reducible refine Tk.Rd.par ?_
  | with_reducible refine Tk.Rd.parK_i ?_
  | ((with_reducible refine' Tk.Rd.aug ?k0 ?_); (case k0 => exact rfl))
  | with_reducible refine Tk.Rd.ip ?_
  | ((with_reducible refine' Tk.Rd.bmK_l ?k0 ?_); (case k0 => walk_at "sql"))
  | ((with_reducible refine' Tk.Rd.addS ?k0 ?_); (case k0 => walk_at "sz"))
  | fail "rd1")
local macro_rules | `(tactic| walk_at "rd") => `(tactic| (repeat' walk_at "rd1"))
local macro_rules | `(tactic| walk_at "hall") => `(tactic| first
  | assumption
  | ((with_reducible refine' Tk.HallAt.sm ?k0 ?k1); (case k0 => assumption); (case k1 => walk_at "hall"))
  | fail "hall")
local macro_rules | `(tactic| walk_at "parts") => `(tactic| first
  | assumption
  | ((with_reducible refine' Tk.PartsAt.sm ?k0 ?k1); (case k0 => assumption); (case k1 => walk_at "parts"))
  | fail "parts")
local macro_rules | `(tactic| walk_at "sm") => `(tactic| first
  | assumption
  | exact Tk.Sm.int rfl
  | exact Tk.Sm.flat1 rfl
  | ((with_reducible refine' Tk.Sm.sm ?k0 ?k1); (case k0 => assumption); (case k1 => walk_at "sm"))
  | fail "sm")
local macro_rules | `(tactic| walk_at "rd1") => `(tactic| first
  | ((with_reducible refine' Tk.Rd.f_modulus ?k0 ?k1 ?_); (case k0 => assumption); (case k1 => walk_at "hall"))
  | ((with_reducible refine' Tk.Rd.f_lateness ?k0 ?k1 ?_); (case k0 => assumption); (case k1 => walk_at "hall"))
  | ((with_reducible refine' Tk.Rd.f_takes ?k0 ?k1 fun tp htp => ?_); (case k0 => assumption); (case k1 => walk_at "hall"))
  | ((with_reducible refine' Tk.Rd.f_calls ?k0 ?k1 fun cp hcp => ?_); (case k0 => assumption); (case k1 => walk_at "hall"))
  | ((with_reducible refine' Tk.Rd.h_meth ?k0 ?k1 ?_); (case k0 => walk_at "hall"); (case k1 => decide +kernel))
  | ((with_reducible refine' Tk.Rd.h_prop ?k0 ?_); (case k0 => walk_at "hall"))
  | ((with_reducible refine' Tk.Rd.h_taken0 ?k0 fun H' S => ?_); (case k0 => walk_at "hall"))
  | ((with_reducible refine' Tk.Rd.h_taken1 ?k0 fun H' S => ?_); (case k0 => walk_at "hall"))
  | ((with_reducible refine' Tk.Rd.h_takenL ?k0 fun H' S => ?_); (case k0 => walk_at "hall"))
  | ((with_reducible refine' Tk.Rd.h_called0 ?k0 ?_); (case k0 => walk_at "hall"))
  | ((with_reducible refine' Tk.Rd.h_called1 ?k0 ?_); (case k0 => walk_at "hall"))
  | ((with_reducible refine' Tk.Rd.h_calledL ?k0 ?_); (case k0 => walk_at "hall"))
  | ((with_reducible refine' Tk.Rd.h_waiting ?k0 ?k1 fun H' S => ?_); (case k0 => walk_at "hall"); (case k1 => omega))
  | ((with_reducible refine' Tk.Rd.h_growth ?k0 fun H' S => ?_); (case k0 => walk_at "hall"))
  | ((with_reducible refine' Tk.Rd.h_period ?k0 ?_); (case k0 => walk_at "hall"))
  | ((with_reducible refine' Tk.Rd.h_lhall ?k0 fun h lp H' nh nl S hA => ?_); (case k0 => walk_at "parts"))
  | ((with_reducible refine' Tk.Rd.h_length ?k0 ?_); (case k0 => walk_at "parts"))
  | ((with_reducible refine' Tk.Rd.h_counts ?k0 ?k1 fun r a b H' nr na nb nab S hr ha hb => ?_); (case k0 => walk_at "parts"); (case k1 => omega))
  | ((with_reducible refine' Tk.Rd.h_make ?k0 ?k1 ?k2 fun h lp H' nh nl S hA => ?_); (case k0 => assumption); (case k1 => walk_at "hp"); (case k2 => walk_at "hp"))
  | ((with_reducible refine' Tk.Rd.p_0 ?k0 ?_); (case k0 => walk_at "parts"))
  | ((with_reducible refine' Tk.Rd.p_1 ?k0 fun htp => ?_); (case k0 => walk_at "parts"))
  | ((with_reducible refine' Tk.Rd.p_2 ?k0 fun hcp => ?_); (case k0 => walk_at "parts"))
  | ((with_reducible refine' Tk.Rd.p_3 ?k0 ?_); (case k0 => walk_at "parts"))
  | fail "rd1")
local macro_rules | `(tactic| walk_at "sqt") => `(tactic| first | ((with_reducible refine' Tk.PartsAt.sq ?k0); (case k0 => walk_at "parts")) | fail "sqt")
local macro_rules | `(tactic| walk_at "free") => `(tactic| first
  | assumption
  | ((with_reducible refine' Tk.Same.fr ?k0 ?k1); (case k0 => assumption); (case k1 => walk_at "free")))
local macro_rules | `(tactic| walk_at "hp") => `(tactic| first
  | ((with_reducible refine' Tk.But.gt ?k0 ?k1 ?k2); (case k0 => assumption); (case k1 => assumption); (case k2 => walk_at "hp"))
  | ((with_reducible refine' Tk.But.gl ?k0 ?k1 ?k2); (case k0 => assumption); (case k1 => assumption); (case k2 => walk_at "hp"))
  | fail "hp")
local macro_rules | `(tactic| walk_at "hall") => `(tactic| first | ((with_reducible refine' Tk.HallAt.bt ?k0 ?k1 ?k2 ?k3); (case k0 => assumption); (case k1 => assumption); (case k2 => assumption); (case k3 => walk_at "hall")) | fail "hall")
local macro_rules | `(tactic| walk_at "parts") => `(tactic| first | ((with_reducible refine' Tk.PartsAt.bt ?k0 ?k1 ?k2); (case k0 => assumption); (case k1 => assumption); (case k2 => walk_at "parts")) | fail "parts")
local macro_rules | `(tactic| walk_at "rd1") => `(tactic| first
  | ((with_reducible refine' Tk.Rd.h_below ?k0 ?k1 ?k2 ?k3 fun r H' cs hr B hd hcs => ?_); (case k0 => walk_at "hp"); (case k1 => assumption); (case k2 => first | decide | omega); (case k3 => first | decide | omega))
  | ((with_reducible refine' Tk.Rd.h_parts ?k0 ?k1 ?k2 ?k3 fun t tp cp m lt tk cl H' cs nt B hd hcs hP l1 l2 => ?_); (case k0 => walk_at "hp"); (case k1 => assumption); (case k2 => first | decide | omega); (case k3 => first | decide | omega))
  | ((with_reducible refine' Tk.Rd.h_partsL ?k0 ?k1 ?k2 ?k3 fun t tp cp m lt tk cl H' cs nt B hd hcs hP l1 l2 => ?_); (case k0 => walk_at "hp"); (case k1 => assumption); (case k2 => first | decide | omega); (case k3 => first | decide | omega))
  | ((with_reducible refine' Tk.Rd.h_small ?k0 ?k1 fun t tp cp m lt tk cl H' cs nt B hd hcs hP m1 l1 l2 l3 => ?_); (case k0 => walk_at "hp"); (case k1 => assumption))
  | ((with_reducible refine' Tk.Rd.h_tick ?k0 ?k1 fun t H' cs ht B hd hcs => ?_); (case k0 => walk_at "hp"); (case k1 => assumption))
  | ((with_reducible refine' Tk.Rd.h_mo ?k0 fun v H' S hv => ?_); (case k0 => walk_at "hall"))
  | ((with_reducible refine' Tk.Rd.h_lc ?k0 fun v H' S hv => ?_); (case k0 => walk_at "hall"))
  | ((with_reducible refine' Tk.Rd.h_lm ?k0 fun v H' S hv => ?_); (case k0 => walk_at "hall"))
  | ((with_reducible refine' Tk.Rd.h_gl ?k0 fun v H' S hv => ?_); (case k0 => walk_at "hall"))
  | ((with_reducible refine' Tk.Rd.h_ot ?k0 ?k1 fun r H' nr S hr => ?_); (case k0 => walk_at "hall"); (case k1 => first | assumption | omega))
  | ((with_reducible refine' Tk.Rd.h_most2 ?k0 fun v H' S hv => ?_); (case k0 => walk_at "parts"))
  | ((with_reducible refine' Tk.Rd.h_opens2L ?k0 ?k1 fun l ys H' nl S hl hlen hR => ?_); (case k0 => walk_at "parts"); (case k1 => decide))
  | ((with_reducible refine' Tk.Rd.h_opens2 ?k0 ?k1 fun l ys H' nl S hl hlen hR => ?_); (case k0 => walk_at "parts"); (case k1 => first | decide | omega))
  | fail "rd1")
local macro_rules | `(tactic| walk_at "ok") => `(tactic| first
  | assumption
  | ((with_reducible refine' Tk.HallAt.ok ?k0); (case k0 => walk_at "hall"))
  | ((with_reducible refine' Tk.PartsAt.ok ?k0); (case k0 => walk_at "parts"))
  | fail "ok")
local macro_rules | `(tactic| walk_at "sml") => `(tactic| first
  | exact Tk.Sml.ints (by walk_at "szb")
  | exact Tk.Sml.intsT (by walk_at "szb")
  | trivial
  | (simp [Tk.Sml]; done)
  | (simp [Tk.Sml]; omega)
  | fail "sml")
local macro_rules | `(tactic| walk_at "rd1") => `(tactic| first
  | ((with_reducible refine' Tk.Rd.nT ?k0 ?_); (case k0 => with_reducible exact rfl))
  | ((with_reducible refine' Tk.Rd.dT ?k0 ?_); (case k0 => with_reducible exact rfl))
  | ((with_reducible refine' Tk.Rd.h_enc ?k0 fun l H' nl S hl => ?_); (case k0 => walk_at "hall"))
  | ((with_reducible refine' Tk.Rd.h_dec ?k0 ?k1 fun h lp H' nh nl S hA => ?_); (case k0 => walk_at "hp"); (case k1 => walk_at "ok"))
  | ((with_reducible refine' Tk.Rd.h_text ?k0 fun H' S => ?_); (case k0 => walk_at "hall"))
  | ((with_reducible refine' Tk.Rd.h_eqd ?k0 ?k1 ?k2 fun H' S => ?_); (case k0 => walk_at "dp"); (case k1 => walk_at "dp"); (case k2 => walk_at "sml"))
  | ((with_reducible refine' Tk.Rd.eqd ?k0 ?k1 ?k2 ?k3 ?_); (case k0 => walk_at "dp"); (case k1 => walk_at "dp"); (case k2 => walk_at "sml"); (case k3 => walk_at "sml"))
  | ((with_reducible refine' Tk.Rd.ned ?k0 ?k1 ?k2 ?k3 ?_); (case k0 => walk_at "dp"); (case k1 => walk_at "dp"); (case k2 => walk_at "sml"); (case k3 => walk_at "sml"))
  | fail "rd1")
/-! ### The program's texts -/
namespace Tk
open PySem PySem.Spec PyProof.Rows L2 Mm
/-- a comprehension over zip of two tuples -/
theorem lc_zipT {K : PySem.W.Frag} {a b : Addr} {xs ys : List V} {g : TG} {tt : TT} {te : TE} {vs : List Nat} {σ : L2.St} {H1 : Hp} {D : Addr} {Qd : Hp → Prop} (hl : xs.length = ys.length) (Pv : Nat → Hp → Prop) (h0 : Pv 0 (upd H1 D (.lst []))) (hq : ∀ i H, i ≤ xs.length → Pv i H → SqT K H a xs ∧ SqT K H b ys)
    (hs : ∀ i x y T H, xs[i]? = some x → ys[i]? = some y → Pv i H → H T = none → g (.ref T) (wipe σ vs) (upd H T (.tup [x, y])) fun σ2 H2 => wipe σ2 vs = wipe σ vs ∧ tt σ2 H2 fun b H3 =>
      if b = true then te σ2 H3 fun y H4 => ∃ acc, H4 D = some (.lst acc) ∧ acc.length < sizeLine ∧ Pv (i + 1) (upd H4 D (.lst (acc ++ [y]))) else Pv (i + 1) H3) (hd : ∀ H, Pv xs.length H → Qd H) :
    ∃ W : Nat → Nat → Hp → Prop, (∃ m, W 0 m (upd H1 D (.lst []))) ∧ ∀ i m H, W i m H →
      ((RZ.ItzT K a b).stop i H ∧ Qd H) ∨ ((RZ.ItzT K a b).go i H ∧ ∃ Nx : Hp → Prop, (∀ H', Nx H' → ∃ m', m' < m ∧ W (i + 1) m' H') ∧ ∀ x H', (RZ.ItzT K a b).yld i H x H' → g x (wipe σ vs) H' fun σ2 H2 => wipe σ2 vs = wipe σ vs ∧ tt σ2 H2 fun b H3 =>
        if b = true then te σ2 H3 fun y H4 => ∃ acc, H4 D = some (.lst acc) ∧ acc.length < sizeLine ∧ Nx (upd H4 D (.lst (acc ++ [y]))) else Nx H3) := by
  refine ⟨fun i m H => m = xs.length - i ∧ i ≤ xs.length ∧ Pv i H, ⟨xs.length, by simp, Nat.zero_le _, h0⟩, ?_⟩
  rintro i m H ⟨rfl, hi, p⟩
  obtain ⟨qx, qy⟩ := hq i H hi p
  by_cases hlt : i < xs.length
  · have hx : xs[i]? = some xs[i] := List.getElem?_eq_getElem hlt
    have hlt2 : i < ys.length := by omega
    have hy : ys[i]? = some ys[i] := List.getElem?_eq_getElem hlt2
    refine .inr ⟨⟨xs, ys, _, _, qx, qy, hx, hy⟩, Pv (i + 1), fun H' p' => ⟨xs.length - (i + 1), by omega, rfl, hlt, p'⟩, fun v H' y => ?_⟩
    obtain ⟨T, x', y', rfl, hT, rfl, f1, f2⟩ := y
    exact hs i x' y' T H (f1 xs qx) (f2 ys qy) p hT
  · have e : i = xs.length := by omega
    subst e
    exact .inl ⟨⟨xs, ys, qx, qy, Or.inl (Nat.le_refl _)⟩, hd H p⟩
theorem lc_zpT {K : PySem.W.Frag} {H : Hp} {Q : VK} {σ : L2.St} {te : TE} {a b : Addr} {xs ys : List V} {vs : List Nat} {i j : Nat} (f : Nat → V) (hl : xs.length = ys.length) (ha : SqT K H a xs) (hb : SqT K H b ys) (hn : xs.length ≤ 100000)
    (hw : ∀ x y : V, wipe (((wipe σ vs).set i (some x)).set j (some y)) vs = wipe σ vs) (hs : ∀ (n : Nat) x y, xs[n]? = some x → ys[n]? = some y → ∀ H', Same H H' → ∀ Q' : VK, (∀ H'', Same H' H'' → Q' (f n) H'') → te (((wipe σ vs).set i (some x)).set j (some y)) H' Q')
    (k : ∀ D H', H D = none → Same H H' → H' D = some (.lst ((List.range xs.length).map f)) → Q (.ref D) H') : Rd.lcK (gTup K 2 (gCons (gName i) (gCons (gName j) gNil))) tYes te vs σ Q (RZ.ItzT K a b) H := fun D hD => by
  refine lc_zipT hl (fun n H2 => Same H H2 ∧ H2 D = some (.lst ((List.range n).map f))) ⟨Same.new hD, upd_same⟩ (fun n H2 _ ⟨S2, _⟩ => ⟨sqt_sm S2 ha, sqt_sm S2 hb⟩) ?_ fun H2 ⟨S2, h2⟩ => k D H2 hD S2 h2
  rintro n x y Tp H2 hx hy ⟨S2, h2⟩ hT
  have hi : n < xs.length := (List.getElem?_eq_some_iff.mp hx).1
  have S3 : Same H2 (upd H2 Tp (.tup [x, y])) := Same.new hT
  refine ⟨Tp, _, rfl, SqT.of upd_same, rfl, _, _, rfl, _, _, rfl, rfl, hw x y, ?_⟩
  refine Rd.yes (Rd.ift (hs n x y hx hy _ (S2.trans S3) _ fun H4 S4 => ⟨_, S4 _ _ (S3 _ _ h2), Nat.lt_of_le_of_lt (m := 100000) (by simp; omega) (by decide), fun b o e => ?_, ?_⟩))
  · rw [upd_ne (ne_of_none e hD)]
    exact S4 _ _ (S3 _ _ (S2 _ _ e))
  · rw [upd_same, List.range_succ, List.map_append]
    rfl
/-- numbers of a line -/
structure Lno (w : Str) (ns : List Nat) : Prop where
  w8 : w.length ≤ 8
  fr : 32 ∉ TL.tl w
  n12 : ns.length ≤ 12
  n4 : ∀ n ∈ ns, n ≤ 10000
theorem hall_lno {m lt : Nat} {tk cl : List Nat} (h : Parts m tk cl lt) : Lno "modulus" [m] ∧ Lno "takes" tk ∧ Lno "calls" cl ∧ Lno "lateness" [lt] := by
  have a := h.m4
  have b := h.l99
  refine ⟨⟨by decide +kernel, by decide +kernel, by simp, by simp; omega⟩, ⟨by decide +kernel, by decide +kernel, h.tkP.len, fun n hn => ?_⟩, ⟨by decide +kernel, by decide +kernel, h.clP.len, fun n hn => ?_⟩, ⟨by decide +kernel, by decide +kernel, by simp, by simp; omega⟩⟩
  · have := h.tkP.nine n hn
    omega
  · have := h.clP.nine n hn
    omega
theorem hall_txt {m lt : Nat} {tk cl : List Nat} (h : Parts m tk cl lt) : ((Tx.lns m tk cl lt).map (·.length)).sum + (Tx.lns m tk cl lt).length * ("\n" : Str).length ≤ 400 ∧ (Tx.txt m tk cl lt).length ≤ 400 := by
  obtain ⟨a1, a2, a3, a4⟩ := hall_lno h
  have a := h.m4
  have b := h.l99
  exact ⟨Tx.lns_size a a2.n12 a2.n4 a3.n12 a3.n4 (by omega), Tx.txt_len a a2.n12 a2.n4 a3.n12 a3.n4 (by omega)⟩
def spWl : Sp := fun vs H Q _ => ∃ (w : Str) (p : Addr) (ns : List Nat), vs = [.str w, .ref p] ∧ H p = some (.tup (ns.map vn)) ∧ Lno w ns ∧ ∀ H', Same H H' → Q (.str (Tx.ln w ns)) H'
def spIsn : Sp := fun vs H Q _ => ∃ n : Nat, vs = [.str (Tx.nS n)] ∧ n ≤ 10000 ∧ Q (.bl true) H
def spRl : Sp := fun vs H Q _ => ∃ (w : Str) (ns : List Nat), vs = [.str (Tx.ln w ns)] ∧ Lno w ns ∧ ((w = "modulus" ∨ w = "lateness") → ns.length = 1) ∧ ((w = "undo" ∨ w = "redo") → ns.length = 0) ∧
  ∀ t l H', Same H H' → H' t = some (.tup [.str w, .ref l]) → H' l = some (.lst (ns.map vn)) → Q (.ref t) H'
def spRhl : Sp := fun vs H Q _ => ∃ (p : Addr) (m lt : Nat) (tk cl : List Nat), vs = [.ref p] ∧ H p = some (.lst ((Tx.lns m tk cl lt).map V.str)) ∧ Parts m tk cl lt ∧
  ∀ f a b c d H', Same H H' → H' f = some (.lst [.ref a, .ref b, .ref c, .ref d]) → H' a = some (.lst [vn m]) → H' b = some (.lst (tk.map vn)) → H' c = some (.lst (cl.map vn)) → H' d = some (.lst [vn lt]) → Q (.ref f) H'
def spText (C : Addr) : Sp := fun vs H Q _ => ∃ (h lp : Addr) (m lt : Nat) (tk cl : List Nat), vs = [.ref h] ∧ HallAt C H h m tk cl lt lp ∧ ∀ H', Same H H' → Q (.str (Tx.txt m tk cl lt)) H'
def spParse (C : Addr) : Sp := fun vs H Q _ => ∃ (m lt : Nat) (tk cl : List Nat), vs = [.ref C, .str (Tx.txt m tk cl lt)] ∧ Parts m tk cl lt ∧
  ∀ h lp H', H h = none → H lp = none → Same H H' → HallAt C H' h m tk cl lt lp → Q (.ref h) H'
section
variable {P : Program} {w : World} {K : PySem.W.Frag} {mg : Str → Option Value} {base : Heap}
theorem take_succ_of {α : Type} {l : List α} {i : Nat} {x : α} (e : l[i]? = some x) : l.take (i + 1) = l.take i ++ [x] := by
  rw [List.take_succ, e]
  rfl
theorem vn_at {ns : List Nat} {i : Nat} {x : V} (h : (ns.map vn)[i]? = some x) : ∃ n, x = vn n ∧ ns[i]? = some n := by
  rw [List.getElem?_map] at h
  cases e : ns[i]? with
  | none => rw [e] at h; cases h
  | some n =>
    rw [e] at h
    exact ⟨n, (Option.some.inj h).symm, rfl⟩
theorem str_at {ns : List Str} {i : Nat} {x : V} (h : (ns.map V.str)[i]? = some x) : ∃ n, x = .str n ∧ ns[i]? = some n := by
  rw [List.getElem?_map] at h
  cases e : ns[i]? with
  | none => rw [e] at h; cases h
  | some n =>
    rw [e] at h
    exact ⟨n, (Option.some.inj h).symm, rfl⟩
/-- the words and the numbers of the lines -/
def nms : List Str := ["modulus", "takes", "calls", "lateness"]
def nss (m : Nat) (tk cl : List Nat) (lt : Nat) : List (List Nat) := [[m], tk, cl, [lt]]
theorem line_at {m lt : Nat} {tk cl : List Nat} (h : Parts m tk cl lt) {i : Nat} (hi : i < 4) {w : Str} (hw : nms[i]? = some w) :
    ∃ ns, (nss m tk cl lt)[i]? = some ns ∧ (Tx.lns m tk cl lt)[i]? = some (Tx.ln w ns) ∧ Lno w ns ∧ ((w = "modulus" ∨ w = "lateness") → ns.length = 1) := by
  obtain ⟨L1, L2, L3, L4⟩ := hall_lno h
  have : i = 0 ∨ i = 1 ∨ i = 2 ∨ i = 3 := by omega
  rcases this with rfl | rfl | rfl | rfl <;> (obtain rfl := Option.some.inj hw)
  · exact ⟨_, rfl, rfl, L1, fun _ => rfl⟩
  · exact ⟨_, rfl, rfl, L2, fun q => by rcases q with q | q <;> exact absurd q (by decide +kernel)⟩
  · exact ⟨_, rfl, rfl, L3, fun q => by rcases q with q | q <;> exact absurd q (by decide +kernel)⟩
  · exact ⟨_, rfl, rfl, L4, fun _ => rfl⟩
theorem log_small {n : Nat} (h : n ≤ 10000) : ((n : Int)).natAbs.log2 < 1920 := by
  have e : ((n : Int)).natAbs = n := Int.natAbs_natCast n
  rw [e]
  rcases Nat.eq_zero_or_pos n with z | z
  · rw [z]
    decide
  · exact (Nat.log2_lt (by omega)).mpr (Nat.lt_of_le_of_lt h (by decide))
theorem ok_write_line (T : Txt K mg) : OkF P w K mg base 1 (He.ga K "write_line") ["word", "numbers"] spWl := by
  refine FnP.okF T.f_write_line sc_write_line (fun _ _ _ _ _ _ us hl => match us, hl with | [_, _], _ => rfl) (fun vs H Q E h => ?_) (fun cdv A outer s H vs Q E hr h => ?_)
  · obtain ⟨w, p, ns, rfl, _⟩ := h
    rfl
  obtain ⟨w, p, ns, rfl, hp, hL, k⟩ := h
  refine ⟨_, (pss_one (ps_ret (pe_joinR (K := K) pe_str (pe_op op_cat (pe_lst (pa_cons (pv 0) pa_nil)) (pe_lc (own := [("number", 2)]) (g := gName 2) (tt := tYes) (by rfl) sc_write_line.nd (pi_tupK (K := K) (pv 1)) (blkOk_by (own := [("number", 2)]) (N := N_write_line) (sc := (defScope s_write_line)) (by decide +kernel)) (fun _ _ _ _ _ => pg_name (i := 2) sc_write_line.nd rfl (Or.inl rfl)) (fun _ _ _ _ _ => pts_nil) (fun _ _ _ _ _ => (pe_callTy (show CallR _ (.type "str") Rd.rStrI from call_str_int) (by rfl) T.g_str (by decide +kernel) (pa_cons (pv 2) pa_nil)))))))), ?_⟩
  refine ⟨⟨_, rfl⟩, ?_⟩
  refine ⟨_, rfl, (by show 1 ≤ sizeLine; decide), fun l hl => ?_⟩
  have S1 : Same H (upd H l (.lst [.str w])) := Same.new hl
  have h1 : upd H l (.lst [.str w]) l = some (.lst [.str w]) := upd_same
  generalize upd H l (.lst [.str w]) = H1 at S1 h1
  refine ⟨_, rfl, p, rfl, ⟨_, SqT.of (S1 _ _ hp)⟩, fun D hD => ?_⟩
  refine lc_tup (K := K) (a := p) (xs := ns.map vn) (fun i H2 => Same H1 H2 ∧ H2 D = some (.lst (((ns.take i).map Tx.nS).map V.str))) ⟨Same.new hD, upd_same⟩ (fun i H2 _ ⟨S2, _⟩ => SqT.of (S2 _ _ (S1 _ _ hp))) ?_ ?_
  · rintro i x H2 hx ⟨S2, h2⟩
    rw [List.getElem?_map] at hx
    cases e : ns[i]? with
    | none => rw [e] at hx; cases hx
    | some n =>
      rw [e] at hx
      obtain rfl : vn n = x := Option.some.inj hx
      have n4 := hL.n4 n (List.mem_of_getElem? e)
      have il := (List.getElem?_eq_some_iff.mp e).1
      have n12 := hL.n12
      refine ⟨rfl, _, rfl, _, rfl, log_small n4, _, h2, Nat.lt_of_le_of_lt (m := 12) (by simp; omega) (by decide), fun b o eb => ?_, ?_⟩
      · rw [upd_ne (ne_of_none eb hD)]
        exact S2 _ _ eb
      · rw [upd_same, take_succ_of e, List.map_append, List.map_append]
        rfl
  · rintro H2 ⟨S2, h2⟩
    rw [List.length_map, List.take_length] at h2
    refine ⟨l, D, _, _, rfl, rfl, S2 _ _ h1, h2, ?_, fun q hq => ?_⟩
    · have := hL.n12
      exact Nat.le_trans (m := 20) (by simp; omega) (by decide)
    refine ⟨_, q, w :: ns.map Tx.nS, rfl, rfl, .inl (SqL.of (by rw [upd_same]; rfl)), Tx.ln_size hL.w8 hL.n12 hL.n4, ?_⟩
    exact k _ ((S1.trans S2).trans (Same.new hq))
theorem ok_is_number (T : Txt K mg) : OkF P w K mg base 1 (He.ga K "is_number") ["word"] spIsn := by
  refine FnP.okF T.f_is_number sc_is_number (fun _ _ _ _ _ _ us hl => match us, hl with | [_], _ => rfl) (fun vs H Q E h => ?_) (fun cdv A outer s H vs Q E hr h => ?_)
  · obtain ⟨n, rfl, _⟩ := h
    rfl
  obtain ⟨n, rfl, hn, k⟩ := h
  refine ⟨_, (pss_cons (ps_if (pt_not (PW.pt (pw_and (pt_val (pe_m0 PySem.F.slot_str_isascii PySem.F.type_str_isascii mt_isascii (pv 0))) (pw_and1 (pt_val (pe_m0 PySem.F.slot_str_isdigit PySem.F.type_str_isdigit mt_isdigit (pv 0))))))) (pss_one (ps_ret pe_bl)) pss_nil)
    (pss_one (ps_ret (pe_and (pe_cmpR op_le (pe_callB (show CallR _ (.builtin "len") Rd.rLenStr from call_len_str) (by rfl) T.g_len (by decide +kernel) (pa_cons (pv 0) pa_nil)) (pe_gint (by rfl) T.c_MOST_DIGITS) (nomark _)) (pe_one (pe_or (pe_cmpR op_eq (pv 0) pe_str (nomark _)) (pe_one (pe_not (pe_m1 PySem.F.slot_str_startswith PySem.F.type_str_startswith mt_startswith (pv 0) pe_str))))))))), ?_⟩
  have l5 := Tx.num_len hn
  walk_at "rd"
  refine ⟨_, rfl, rfl, trivial, ?_⟩
  rw [Tx.num_ascii]
  walk_at "rd"
  refine ⟨_, rfl, rfl, trivial, ?_⟩
  rw [Tx.num_digit]
  walk_at "rd"
  refine Rd.dT (by omega) ?_
  walk_at "rd"
  refine Rd.d2 (fun _ => k) fun c => ?_
  walk_at "rd"
  refine ⟨_, _, rfl, rfl, ?_⟩
  have n0 : 0 < n := by
    rcases Nat.eq_zero_or_pos n with z | z
    · exact absurd (congrArg V.str (Tx.num_zero.mpr z)) c
    · exact z
  rw [Tx.not_starts n0]
  exact ⟨_, rfl, k⟩
theorem ok_read_line (T : Txt K mg) : OkF P w K mg base 2 (He.ga K "read_line") ["line"] spRl := by
  have G_is_number : OkF P w K mg base 1 (He.ga K "is_number") ["word"] spIsn := ok_is_number T
  refine FnP.okF T.f_read_line sc_read_line (fun _ _ _ _ _ _ us hl => match us, hl with | [_], _ => rfl) (fun vs H Q E h => ?_) (fun cdv A outer s H vs Q E hr h => ?_)
  · obtain ⟨w, ns, rfl, _⟩ := h
    rfl
  obtain ⟨w, ns, rfl, hL, h1, h0, k⟩ := h
  refine ⟨_, (pss_cons (ps_asg (pe_splitR (pv 0) pe_str) (pg_star rfl (pg_name (i := 1) sc_read_line.nd rfl (Or.inl rfl)) (pg_name (i := 2) sc_read_line.nd rfl (Or.inl rfl))))
    (pss_cons (ps_if (pt_not (pt_val (pe_callB (allLK (K := K)) (by rfl) T.g_all (by decide +kernel) (pa_cons (pe_lc (own := [("text", 3)]) (g := gName 3) (tt := tYes) (by rfl) sc_read_line.nd (pi_listK (K := K) (pv 2)) (blkOk_by (own := [("text", 3)]) (N := N_read_line) (sc := (defScope s_read_line)) (by decide +kernel)) (fun _ _ _ _ _ => pg_name (i := 3) sc_read_line.nd rfl (Or.inl rfl)) (fun _ _ _ _ _ => pts_nil) (fun _ _ _ _ _ => (pe_call G_is_number.one (hr.mono (by decide)) (by rfl) T.g_is_number G_is_number.kp G_is_number.two .nil passL (pa_cons (pv 3) pa_nil)))) pa_nil)))) (pss_one (ps_ret (pe_tup (pa_cons (pv 1) (pa_cons pe_non pa_nil))))) pss_nil)
    (pss_cons (ps_if (PW.pt (pw_and (pt_cmpR (inK (K := K)) (pv 1) (pe_glob (v := .ref (He.ga K "ONE_NUMBER_WORDS")) (by rfl) T.g_ONE_NUMBER_WORDS rfl) (by rfl)) (pw_and1 (pt_cmpR op_ne (pe_callB (lenK (K := K)) (by rfl) T.g_len (by decide +kernel) (pa_cons (pv 2) pa_nil)) pe_int (nomark _))))) (pss_one (ps_ret (pe_tup (pa_cons (pv 1) (pa_cons pe_non pa_nil))))) pss_nil)
    (pss_cons (ps_if (PW.pt (pw_and (pt_cmpR (inK (K := K)) (pv 1) (pe_glob (v := .ref (He.ga K "BARE_WORDS")) (by rfl) T.g_BARE_WORDS rfl) (by rfl)) (pw_and1 (pt_cmpR op_gt (pe_callB (lenK (K := K)) (by rfl) T.g_len (by decide +kernel) (pa_cons (pv 2) pa_nil)) pe_int (nomark _))))) (pss_one (ps_ret (pe_tup (pa_cons (pv 1) (pa_cons pe_non pa_nil))))) pss_nil)
    (pss_one (ps_ret (pe_tup (pa_cons (pv 1) (pa_cons (pe_lc (own := [("text", 3)]) (g := gName 3) (tt := tYes) (by rfl) sc_read_line.nd (pi_listK (K := K) (pv 2)) (blkOk_by (own := [("text", 3)]) (N := N_read_line) (sc := (defScope s_read_line)) (by decide +kernel)) (fun _ _ _ _ _ => pg_name (i := 3) sc_read_line.nd rfl (Or.inl rfl)) (fun _ _ _ _ _ => pts_nil) (fun _ _ _ _ _ => (pe_callTy call_int_str (by rfl) T.g_int (by decide +kernel) (pa_cons (pv 3) pa_nil)))) pa_nil))))))))), ?_⟩
  have l81 := Tx.ln_len hL.w8 hL.n12 hL.n4
  have n12 := hL.n12
  walk_at "rd"
  refine ⟨_, _, rfl, rfl, (by decide +kernel), Nat.le_trans (m := 83) (by omega) (by decide), fun p hp => ?_⟩
  rw [Tx.ln_split hL.fr]
  refine ⟨p, _, _, rfl, SqL.of (by rw [upd_same]; rfl), by simp; omega, fun D hD => ?_⟩
  have S1 : Same H (upd (upd H p (.lst ((w :: ns.map Tx.nS).map V.str))) D (.lst ((ns.map Tx.nS).map V.str))) := (Same.new hp).trans (Same.new hD)
  have hd : upd (upd H p (.lst ((w :: ns.map Tx.nS).map V.str))) D (.lst ((ns.map Tx.nS).map V.str)) D = some (.lst ((ns.map Tx.nS).map V.str)) := upd_same
  show tSeq _ _ _ _ (upd (upd H p (.lst ((w :: ns.map Tx.nS).map V.str))) D (.lst ((ns.map Tx.nS).map V.str)))
  generalize upd (upd H p (.lst ((w :: ns.map Tx.nS).map V.str))) D (.lst ((ns.map Tx.nS).map V.str)) = H1 at S1 hd
  -- all([is_number(text) for text in rest])
  walk_at "rd"
  refine Rd.lc_lst (fun _ => .bl true) (by walk_at "sql") (by simp; omega) (fun i x hx => Rd.turn1 rfl fun H' S Q' q => ?_) fun B H2 nB S2 h2 => ?_
  · obtain ⟨y, rfl, hy⟩ := str_at hx
    rw [List.getElem?_map] at hy
    obtain ⟨n, hn, rfl⟩ : ∃ n, ns[i]? = some n ∧ Tx.nS n = y := by
      cases e : ns[i]? with
      | none => rw [e] at hy; cases hy
      | some n => rw [e] at hy; exact ⟨n, rfl, Option.some.inj hy⟩
    walk_at "rd"
    exact ⟨n, rfl, hL.n4 n (List.mem_of_getElem? hn), q _ (Same.refl _)⟩
  · have hd2 := S2 _ _ hd
    walk_at "rd"
    refine ⟨B, (List.range ((ns.map Tx.nS).map V.str).length).map fun _ => true, rfl, SqL.of (by rw [List.map_map]; exact h2), ?_⟩
    rw [show (((List.range ((ns.map Tx.nS).map V.str).length).map fun _ => true).all id) = true by simp]
    walk_at "rd"
    -- word in ONE_NUMBER_WORDS and len(rest) != 1
    refine Rd.inS (.inr (T.t_ONE_NUMBER_WORDS H2)) rfl rfl ?_
    walk_at "rd"
    refine Rd.bb (fun c => ?g1) (fun c => ?g2)
    case' g1 =>
      have n1 : ns.length = 1 := by
        refine h1 ?_
        simp [inV, eqV] at c
        rcases c with c | c
        · exact .inl c.symm
        · exact .inr c.symm
      walk_at "rd"
      refine Rd.neT (by simp; omega) ?_
    -- word in BARE_WORDS and len(rest) > 0
    all_goals
      walk_at "rd"
      refine Rd.inS (.inr (T.t_BARE_WORDS H2)) rfl rfl ?_
      walk_at "rd"
      refine Rd.bb (fun c2 => ?_) (fun c2 => ?_)
    all_goals try
      (have n0 : ns.length = 0 := by
        refine h0 ?_
        simp [inV, eqV] at c2
        rcases c2 with c2 | c2
        · exact .inl c2.symm
        · exact .inr c2.symm
       walk_at "rd"
       refine Rd.dF (by rw [List.length_map, List.length_map]; omega) ?_)
    all_goals
      walk_at "rd"
      refine Rd.lc_lst (fun i => vn (ns.getD i 0)) (SqL.of hd2) (by simp; omega) (fun i x hx => Rd.turn1 rfl fun H' S Q' q => ?_) fun D3 H4 nD3 S4 h4 => ?_
      · obtain ⟨y, rfl, hy⟩ := str_at hx
        rw [List.getElem?_map] at hy
        obtain ⟨n, hn, rfl⟩ : ∃ n, ns[i]? = some n ∧ Tx.nS n = y := by
          cases e : ns[i]? with
          | none => rw [e] at hy; cases hy
          | some n => rw [e] at hy; exact ⟨n, rfl, Option.some.inj hy⟩
        have n4 := hL.n4 n (List.mem_of_getElem? hn)
        have l5 : (Str.ofString (toString ((n : Nat) : Int))).length ≤ 5 := Tx.num_len n4
        walk_at "rd"
        refine ⟨_, n, rfl, TL.int_num (by rw [← TL.tl_num, ← TL.len_tl]; omega), Nat.le_trans l5 (by decide), ?_⟩
        rw [Rd.getD_of hn] at q
        exact q _ (Same.refl _)
      · rw [List.length_map, List.length_map, Rd.range_get ns 0 vn] at h4
        walk_at "rd"
        rename_i q H5 nq S5 hq
        exact k q D3 H5 ((S1.trans S2).trans (S4.trans S5)) hq (S5 _ _ h4)
theorem ok_read_hall_lines (T : Txt K mg) : OkF P w K mg base 3 (He.ga K "read_hall_lines") ["lines"] spRhl := by
  have G_read_line : OkF P w K mg base 2 (He.ga K "read_line") ["line"] spRl := ok_read_line T
  refine FnP.okF T.f_read_hall_lines sc_read_hall_lines (fun _ _ _ _ _ _ us hl => match us, hl with | [_], _ => rfl) (fun vs H Q E h => ?_) (fun cdv A outer s H vs Q E hr h => ?_)
  · obtain ⟨p, m, lt, tk, cl, rfl, _⟩ := h
    rfl
  obtain ⟨p, m, lt, tk, cl, rfl, hp, hP, k⟩ := h
  obtain ⟨L1, L2, L3, L4⟩ := hall_lno hP
  refine ⟨_, (pss_cons (ps_set (i := 1) sc_read_hall_lines.nd rfl (Or.inl rfl) (pe_lst pa_nil))
    (pss_cons (ps_for own_cx rfl (pi_enumT (by rfl) T.g_enumerate (pa_cons (pe_glob (v := .ref (He.ga K "HALL_WORDS")) (by rfl) T.g_HALL_WORDS rfl) pa_nil)) (pg_tup rfl (pgs_cons (pg_name (i := 2) sc_read_hall_lines.nd rfl (Or.inl rfl)) (pgs_cons (pg_name (i := 3) sc_read_hall_lines.nd rfl (Or.inl rfl)) pgs_nil)))
      (pss_cons (ps_if (pt_cmpR op_eq (pv 2) (pe_callB (lenK (K := K)) (by rfl) T.g_len (by decide +kernel) (pa_cons (pv 0) pa_nil)) (nomark _)) (pss_one ps_never) pss_nil)
    (pss_cons (ps_asg (pe_call G_read_line.one (hr.mono (by decide)) (by rfl) T.g_read_line G_read_line.kp G_read_line.two .nil passL (pa_cons (pe_ix (ixLK (K := K)) (pv 0) (pv 2) (fun _ _ => rfl)) pa_nil)) (pg_tup rfl (pgs_cons (pg_name (i := 4) sc_read_hall_lines.nd rfl (Or.inl rfl)) (pgs_cons (pg_name (i := 5) sc_read_hall_lines.nd rfl (Or.inl rfl)) pgs_nil))))
    (pss_cons (ps_if (PW.pt (pw_or (pt_cmpR op_ne (pv 4) (pv 3) (nomark _)) (pw_or1 (pt_cmpR (show OpR _ (compareOp .Is) Rd.rIsN from op_isN) (pv 5) pe_non (nomark _))))) (pss_one ps_never) pss_nil)
    (pss_one (ps_expr (pe_bm PySem.F.plainAttrs_list PySem.F.slot_list_append PySem.F.type_list_append mt_append (pv 1) (pa_cons (pv 5) pa_nil))))))))
    (pss_one (ps_ret (pv 1))))), ?_⟩
  walk_at "rd"
  rename_i l H1 nl S1 hl
  refine ⟨He.ga K "HALL_WORDS", _, rfl, T.t_HALL_WORDS _, ?_⟩
  refine for_enumT (K := K) (a := He.ga K "HALL_WORDS") (xs := nms.map V.str) (fun i σ H2 => ∃ a b c d, σ = [some (.ref p), some (.ref l), a, b, c, d] ∧ Same H H2 ∧
    ∃ rs : List Addr, rs.length = i ∧ H2 l = some (.lst (rs.map V.ref)) ∧ ∀ (j : Nat) r, rs[j]? = some r → ∃ ns, (nss m tk cl lt)[j]? = some ns ∧ H2 r = some (.lst (ns.map vn))) ⟨_, _, _, _, rfl, S1, [], rfl, hl, fun j r q => by cases q⟩ (fun i σ H2 _ _ => T.t_HALL_WORDS _) ?_ ?_
  · rintro i x σ H2 hx ⟨a, b, c, d, rfl, S2, rs, hrl, h2, hrs⟩ Tp hT
    obtain ⟨w, rfl, hw⟩ := str_at hx
    have i4 : i < 4 := (List.getElem?_eq_some_iff.mp hw).1
    obtain ⟨ns, hns, hln, hlo, hl1⟩ := line_at hP i4 hw
    have S3 : Same H2 (upd H2 Tp (.tup [vnI i, .str w])) := Same.new hT
    have hTp : upd H2 Tp (.tup [vnI i, .str w]) Tp = some (.tup [vnI i, .str w]) := upd_same
    generalize upd H2 Tp (.tup [vnI i, .str w]) = H3 at S3 hTp
    walk_at "rd"
    refine Rd.eF (by simp [Tx.lns]; omega) ?_
    walk_at "rd"
    refine Rd.ixL (by walk_at "sql") (atn (by rw [List.getElem?_map, hln]; rfl)) ?_
    walk_at "rd"
    have hl0 : (w = "undo" ∨ w = "redo") → ns.length = 0 := by
      have : i = 0 ∨ i = 1 ∨ i = 2 ∨ i = 3 := by omega
      rcases this with rfl | rfl | rfl | rfl <;> (obtain rfl := Option.some.inj hw) <;> (intro e; exfalso; revert e; decide +kernel)
    refine ⟨w, ns, rfl, hlo, hl1, hl0, fun t l2 H4 S4 ht hl2 => ?_⟩
    walk_at "rd"
    first | refine Rd.nT rfl ?_ | skip
    walk_at "rd"
    refine Rd.dF (by simp) ?_
    walk_at "rd"
    refine Rd.app (xs := rs.map V.ref) (by walk_at "hp") (by simp; omega) ?_
    have nll : l2 ≠ l := fun e => by
      have z := S4 _ _ (S3 _ _ h2)
      rw [← e, hl2] at z
      injection z with z
      injection z with z
      cases ns with
      | nil =>
        have : i = 0 ∨ i = 1 ∨ i = 2 ∨ i = 3 := by omega
        rcases this with rfl | rfl | rfl | rfl
        · cases hns
        · have := hP.tkP.pos
          have e2 : tk = [] := Option.some.inj hns
          rw [e2] at this
          cases this
        · have := hP.clP.pos
          have e2 : cl = [] := Option.some.inj hns
          rw [e2] at this
          cases this
        · cases hns
      | cons a r =>
        cases rs with
        | nil => cases z
        | cons b s => cases z
    refine ⟨_, _, _, _, rfl, fun b o e => ?_, rs ++ [l2], by simp [hrl], ?_, fun j r hr => ?_⟩
    · rw [upd_ne (ne_of_none e nl)]
      exact S4 _ _ (S3 _ _ (S2 _ _ e))
    · rw [upd_same, List.map_append]
      rfl
    · rcases Nat.lt_or_ge j rs.length with lt1 | ge1
      · rw [List.getElem?_append_left lt1] at hr
        obtain ⟨ns', q1, q2⟩ := hrs j r hr
        refine ⟨ns', q1, ?_⟩
        have nr : r ≠ l := fun e => by
          rw [e, h2] at q2
          injection q2 with q2
          injection q2 with q2
          cases ns' with
          | nil =>
            cases rs with
            | nil => simp at lt1
            | cons b s => cases q2
          | cons a r' =>
            cases rs with
            | nil => cases q2
            | cons b s => cases q2
        rw [upd_ne nr]
        exact S4 _ _ (S3 _ _ q2)
      · rw [List.getElem?_append_right ge1] at hr
        have ej : j - rs.length = 0 := by
          have := (List.getElem?_eq_some_iff.mp hr).1
          simp at this
          omega
        rw [ej] at hr
        obtain rfl : l2 = r := Option.some.inj hr
        have : j = i := by omega
        subst this
        refine ⟨ns, hns, ?_⟩
        rw [upd_ne nll]
        exact hl2
  · rintro σ H2 ⟨a, b, c, d, rfl, S2, rs, hrl, h2, hrs⟩
    walk_at "rd"
    obtain ⟨r0, r1, r2, r3, rfl⟩ : ∃ r0 r1 r2 r3, rs = [r0, r1, r2, r3] := by
      match rs, hrl with
      | [r0, r1, r2, r3], _ => exact ⟨r0, r1, r2, r3, rfl⟩
    have g : ∀ (j : Nat) r ns, [r0, r1, r2, r3][j]? = some r → (nss m tk cl lt)[j]? = some ns → H2 r = some (.lst (ns.map vn)) := fun j r ns e1 e2 => by
      obtain ⟨ns', q1, q2⟩ := hrs j r e1
      rw [e2] at q1
      obtain rfl := Option.some.inj q1
      exact q2
    exact k l r0 r1 r2 r3 H2 S2 h2 (g 0 r0 [m] rfl rfl) (g 1 r1 tk rfl rfl) (g 2 r2 cl rfl rfl) (g 3 r3 [lt] rfl rfl)
theorem ok_text (T : Txt K mg) : OkF P w K mg base 2 (getAt K (He.ga K "Hall") "text") ["self"] (spText (He.ga K "Hall")) := by
  have G_write_line : OkF P w K mg base 1 (He.ga K "write_line") ["word", "numbers"] spWl := ok_write_line T
  refine FnP.okF T.f_text sc_text (fun _ _ _ _ _ _ us hl => match us, hl with | [_], _ => rfl) (fun vs H Q E h => ?_) (fun cdv A outer s H vs Q E hr h => ?_)
  · obtain ⟨h, lp, m, lt, tk, cl, rfl, _⟩ := h
    rfl
  obtain ⟨h, lp, m, lt, tk, cl, rfl, hA, k⟩ := h
  obtain ⟨dx, tp, cp, hh, htp, hcp⟩ := hA.ex
  obtain ⟨z1, z2⟩ := hall_txt hA.ok
  refine ⟨_, (pss_cons (ps_set (i := 1) sc_text.nd rfl (Or.inl rfl) (pe_tup (pa_cons (pe_tup (pa_cons (pe_fld (pv 0) rfl) pa_nil)) (pa_cons (pe_fld (pv 0) rfl) (pa_cons (pe_fld (pv 0) rfl) (pa_cons (pe_tup (pa_cons (pe_fld (pv 0) rfl) pa_nil)) pa_nil))))))
    (pss_one (ps_ret (pe_joinR (K := K) pe_str (pe_lc (own := [("word", 2), ("numbers", 3)]) (g := gTup K 2 (gCons (gName 2) (gCons (gName 3) gNil))) (tt := tYes) (by rfl) sc_text.nd (RZ.pi_zipA (by rfl) T.g_zip (pa_cons (pe_glob (v := .ref (He.ga K "HALL_WORDS")) (by rfl) T.g_HALL_WORDS rfl) (pa_cons (pv 1) pa_nil))) (blkOk_by (own := [("word", 2), ("numbers", 3)]) (N := N_text) (sc := (defScope s_text)) (by decide +kernel)) (fun _ _ _ _ _ => pg_tup rfl (pgs_cons (pg_name (i := 2) sc_text.nd rfl (Or.inl rfl) (by first | exact Or.inr rfl | exact Or.inl rfl)) (pgs_cons (pg_name (i := 3) sc_text.nd rfl (Or.inl rfl) (by first | exact Or.inr rfl | exact Or.inl rfl)) pgs_nil))) (fun _ _ _ _ _ => pts_nil) (fun _ _ _ _ _ => (pe_call G_write_line.one (hr.mono (by decide)) (by rfl) T.g_write_line G_write_line.kp G_write_line.two .nil passL (pa_cons (pv 2) (pa_cons (pv 3) pa_nil))))))))), ?_⟩
  walk_at "rd"
  rename_i t1 H1 n1 S1 ht1 tp hp1 cp hp2 t2 H2 n2 S2 ht2 t3 H3 n3 S3 ht3
  have sT := SqT.of (K := K) ht3
  refine Rd.zipK_t (T.t_HALL_WORDS H3) sT ?_
  refine lc_zpT (xs := nms.map V.str) (ys := [.ref t1, .ref tp, .ref cp, .ref t2]) (fun i => .str ((Tx.lns m tk cl lt).getD i "")) rfl (T.t_HALL_WORDS H3) sT (by simp [nms]) (fun x y => rfl) (fun i x y hx hy H' S Q' q => ?_) fun D H4 nD S4 h4 => ?_
  · obtain ⟨w, rfl, hw⟩ := str_at hx
    have i4 : i < 4 := (List.getElem?_eq_some_iff.mp hw).1
    obtain ⟨ns, hns, hln, hlo, hl1⟩ := line_at hA.ok i4 hw
    rw [Rd.getD_of hln] at q
    obtain ⟨p, rfl, hp⟩ : ∃ p, y = .ref p ∧ H3 p = some (.tup (ns.map vn)) := by
      have : i = 0 ∨ i = 1 ∨ i = 2 ∨ i = 3 := by omega
      rcases this with rfl | rfl | rfl | rfl <;> (obtain rfl := Option.some.inj hy) <;> (obtain rfl := Option.some.inj hns)
      · exact ⟨t1, rfl, S3 _ _ (S2 _ _ ht1)⟩
      · exact ⟨tp, rfl, S3 _ _ (S2 _ _ hp1)⟩
      · exact ⟨cp, rfl, S3 _ _ (S2 _ _ hp2)⟩
      · exact ⟨t2, rfl, S3 _ _ ht2⟩
    walk_at "rd"
    exact ⟨w, p, ns, rfl, S _ _ hp, hlo, q⟩
  · have e : (List.range (nms.map V.str).length).map (fun i => V.str ((Tx.lns m tk cl lt).getD i "")) = (Tx.lns m tk cl lt).map V.str := Rd.range_get (Tx.lns m tk cl lt) "" V.str
    rw [e] at h4
    refine Rd.join (SqL.of h4) (by omega) ?_
    exact k _ (((S1.trans S2).trans S3).trans S4)
theorem ok_parse (T : Txt K mg) : OkF P w K mg base 7 (cmFn K (He.ga K "Hall") "parse") ["cls", "text"] (spParse (He.ga K "Hall")) := by
  have G_read_hall_lines : OkF P w K mg base 3 (He.ga K "read_hall_lines") ["lines"] spRhl := ok_read_hall_lines T
  have G_init : OkF P w K mg base 5 (He.ma K (He.ga K "Hall") "__init__") ["self", "modulus", "takes", "calls", "lateness"] (spInit (He.ga K "Hall")) := ok_init T
  refine FnP.okF T.f_parse sc_parse (fun _ _ _ _ _ _ us hl => match us, hl with | [_, _], _ => rfl) (fun vs H Q E h => ?_) (fun cdv A outer s H vs Q E hr h => ?_)
  · obtain ⟨m, lt, tk, cl, rfl, _⟩ := h
    rfl
  obtain ⟨m, lt, tk, cl, rfl, hP, k⟩ := h
  obtain ⟨z1, z2⟩ := hall_txt hP
  refine ⟨_, (pss_cons (ps_if (pt_not (pt_val (pe_callB (isiK (K := K)) (by rfl) T.g_isinstance (by decide +kernel) (pa_cons (pv 1) (pa_cons (pe_bltn (v := .ty "str") (by rfl) T.g_str boot_ty_str rfl) pa_nil))))) (pss_one ps_never) pss_nil)
    (pss_cons (ps_set (i := 2) sc_parse.nd rfl (Or.inl rfl) (pe_splitR (pv 1) pe_str))
    (pss_cons (ps_asg (pe_call G_read_hall_lines.one (hr.mono (by decide)) (by rfl) T.g_read_hall_lines G_read_hall_lines.kp G_read_hall_lines.two .nil passL (pa_cons (pv 2) pa_nil)) (pg_lst rfl (pgs_cons (pg_name (i := 3) sc_parse.nd rfl (Or.inl rfl)) (pgs_cons (pg_name (i := 4) sc_parse.nd rfl (Or.inl rfl)) (pgs_cons (pg_name (i := 5) sc_parse.nd rfl (Or.inl rfl)) (pgs_cons (pg_name (i := 6) sc_parse.nd rfl (Or.inl rfl)) pgs_nil))))))
    (pss_cons (ps_if (pt_cmpR op_gt (pe_callB (lenK (K := K)) (by rfl) T.g_len (by decide +kernel) (pa_cons (pv 2) pa_nil)) (pe_callB (lenK (K := K)) (by rfl) T.g_len (by decide +kernel) (pa_cons (pe_glob (v := .ref (He.ga K "HALL_WORDS")) (by rfl) T.g_HALL_WORDS rfl) pa_nil)) (nomark _)) (pss_one ps_never) pss_nil)
    (pss_one (ps_ret (pe_makeL (i := 0) T.mk_Hall G_init.one (hr.mono (by decide)) rfl (by first | exact .inl rfl | exact .inr (.inl rfl)) G_init.two .nil passL (pa_cons (pe_ix (ixLK (K := K)) (pv 3) pe_int (fun _ _ => rfl)) (pa_cons (pe_callTy (tplK (K := K)) (by rfl) T.g_tuple (by decide +kernel) (pa_cons (pv 4) pa_nil)) (pa_cons (pe_callTy (tplK (K := K)) (by rfl) T.g_tuple (by decide +kernel) (pa_cons (pv 5) pa_nil)) (pa_cons (pe_ix (ixLK (K := K)) (pv 6) pe_int (fun _ _ => rfl)) pa_nil))))))))))), ?_⟩
  walk_at "rd"
  refine ⟨.str _, .ty "str", _, _, true, rfl, .ty "str", .base (.str _), kit_at (by decide +kernel), ?_⟩
  walk_at "rd"
  refine Rd.split (by decide +kernel) (by omega) fun p H1 np S1 hp => ?_
  rw [Tx.txt_split] at hp
  walk_at "rd"
  refine ⟨p, m, lt, tk, cl, rfl, hp, hP, fun f a b c d H2 S2 hf ha hb hc hd => ?_⟩
  walk_at "rd"
  refine ⟨_, _, rfl, .inr (T.t_HALL_WORDS H2), ?_⟩
  walk_at "rd"
  refine Rd.dF (by simp [Tx.lns]) ?_
  walk_at "rd"
  refine ⟨rfl, ?_⟩
  walk_at "rd"
  rename_i x lp H5 nx nl S5 hA
  exact k x lp H5 (by walk_at "free") (by walk_at "free") (by walk_at "same") hA
end
namespace Rd
theorem h_text {H : Hp} {Q : VK} {E : XK} {C h lp : Addr} {m lt : Nat} {tk cl : List Nat} (hA : HallAt C H h m tk cl lt lp) (k : ∀ H', Same H H' → Q (.str (Tx.txt m tk cl lt)) H') : spText C [.ref h] H Q E := ⟨h, lp, m, lt, tk, cl, rfl, hA, k⟩
end Rd
end Tk

end

section
local macro_rules | `(tactic| walk_at "hp") => `(tactic| first
  | assumption
  | with_reducible exact L2.upd_same
  | ((with_reducible refine' Tk.Same.get ?k0 ?k1); (case k0 => assumption); (case k1 => walk_at "hp"))
  | fail "hp")
local macro_rules | `(tactic| walk_at "same") => `(tactic| first
  | assumption
  | exact L2.Same.refl _
  | ((with_reducible refine' Tk.Same.nw ?k0 ?k1); (case k0 => assumption); (case k1 => walk_at "same"))
  | ((with_reducible refine' Tk.Same.tr ?k0 ?k1); (case k0 => assumption); (case k1 => walk_at "same")))
local macro_rules | `(tactic| walk_at "sql") => `(tactic| first
  | assumption
  | ((with_reducible refine' L2.SqL.of ?k0); (case k0 => walk_at "hp"))
  | ((with_reducible refine' L2.Same.seq ?k0 ?k1); (case k0 => assumption); (case k1 => walk_at "sql")))
local macro_rules | `(tactic| walk_at "sqt") => `(tactic| first
  | assumption
  | ((with_reducible refine' L2.SqT.of ?k0); (case k0 => walk_at "hp"))
  | ((with_reducible refine' Tk.sqt_sm ?k0 ?k1); (case k0 => assumption); (case k1 => walk_at "sqt")))
local macro_rules | `(tactic| walk_at "sz") => `(tactic| first
  | (show (_ : Nat) ≤ 1000; decide)
  | (simp; done)
  | (simp; omega))
local macro_rules | `(tactic| walk_at "szb") => `(tactic| first
  | assumption
  | (show (_ : Nat) ≤ 100000; decide)
  | (simp; done)
  | (simp; omega))
local macro_rules | `(tactic| walk_at "dp") => `(tactic| first
  | assumption
  | with_reducible exact L2.Dp.non
  | with_reducible exact L2.Dp.int _
  | with_reducible exact L2.Dp.str _
  | with_reducible exact L2.Dp.bl _
  | ((with_reducible refine' L2.Dp.lst ?k0 ?k1); (case k0 => walk_at "sql"); (case k1 => walk_at "dpa"))
  | ((with_reducible refine' L2.Dp.tup ?k0 ?k1); (case k0 => walk_at "sqt"); (case k1 => walk_at "dpa"))
  | ((with_reducible refine' Tk.dp_sm ?k0 ?k1); (case k0 => assumption); (case k1 => walk_at "dp"))
  | fail "dp")
local macro_rules | `(tactic| walk_at "dpa") => `(tactic| first
  | assumption
  | with_reducible exact L2.DpAll.nil
  | ((with_reducible refine' L2.DpAll.cons ?k0 ?k1); (case k0 => walk_at "dp"); (case k1 => walk_at "dpa"))
  | with_reducible exact Tk.dp_nats _
  | ((with_reducible refine' Tk.dpA_sm ?k0 ?k1); (case k0 => assumption); (case k1 => walk_at "dpa"))
  | fail "dpa")
local macro_rules | `(tactic| walk_at "ci") => `(tactic| first
  | exact .inl ⟨by decide, by decide⟩
  | exact .inr ⟨by decide, by decide⟩
  | exact .inl ⟨by omega, by omega⟩
  | exact .inr ⟨by omega, by omega⟩
  | exact ⟨by decide, by decide⟩
  | exact ⟨by omega, by omega⟩
  | (show (0 : Int) < _; decide)
  | (show (0 : Int) < _; omega))
local macro_rules | `(tactic| walk_at "rd1") => `(tactic| first
  | with_reducible refine Tk.Rd.seq ?_
  | with_reducible refine Tk.Rd.star ?_
  | ((with_reducible refine' Tk.Rd.catL ?k0 ?k1 ?k2 fun p H' np S hp => ?_); (case k0 => walk_at "hp"); (case k1 => walk_at "hp"); (case k2 => walk_at "szb"))
  | ((with_reducible refine' Tk.Rd.starK_t ?k0 ?_); (case k0 => walk_at "sqt"))
  | ((with_reducible refine' Tk.Rd.starK_l ?k0 ?_); (case k0 => walk_at "sql"))
  | ((with_reducible refine' Tk.Rd.var ?k0 ?_); (case k0 => exact rfl))
  | with_reducible refine Tk.Rd.c ?_
  | with_reducible refine Tk.Rd.op ?_
  | with_reducible refine Tk.Rd.i0 ?_
  | with_reducible refine Tk.Rd.asg ?_
  | with_reducible refine Tk.Rd.name ?_
  | with_reducible refine Tk.Rd.cons ?_
  | with_reducible refine Tk.Rd.nil ?_
  | with_reducible refine Tk.Rd.call ?_
  | with_reducible refine Tk.Rd.callK_i ?_
  | with_reducible refine Tk.Rd.ifS ?_
  | with_reducible refine Tk.Rd.tst ?_
  | with_reducible refine Tk.Rd.bv ?_
  | with_reducible refine Tk.Rd.toB_i ?_
  | with_reducible refine Tk.Rd.ift ?_
  | with_reducible refine Tk.Rd.iff ?_
  | with_reducible refine Tk.Rd.ifnt ?_
  | with_reducible refine Tk.Rd.ifnf ?_
  | with_reducible refine Tk.Rd.not ?_
  | with_reducible refine Tk.Rd.and ?_
  | with_reducible refine Tk.Rd.or ?_
  | with_reducible refine Tk.Rd.andV ?_
  | with_reducible refine Tk.Rd.andK_i ?_
  | with_reducible refine Tk.Rd.orV ?_
  | with_reducible refine Tk.Rd.orK_i ?_
  | with_reducible refine Tk.Rd.notV ?_
  | with_reducible refine Tk.Rd.notK_i ?_
  | with_reducible refine Tk.Rd.tif ?_
  | with_reducible refine Tk.Rd.yes ?_
  | with_reducible refine Tk.Rd.tfor ?_
  | with_reducible refine Tk.Rd.tlc ?_
  | with_reducible refine Tk.Rd.rng ?_
  | ((with_reducible refine' Tk.Rd.rngK_n ?k0 ?_); (case k0 => first | decide | omega))
  | ((with_reducible refine' Tk.Rd.rngK_lit ?k0 ?_); (case k0 => decide))
  | with_reducible refine Tk.Rd.rng2 ?_
  | with_reducible refine Tk.Rd.rng3 ?_
  | with_reducible refine Tk.Rd.ilist ?_
  | with_reducible refine Tk.Rd.zip ?_
  | with_reducible refine Tk.Rd.itup ?_
  | ((with_reducible refine' Tk.Rd.listK_i ?k0 ?_); (case k0 => walk_at "sql"))
  | ((with_reducible refine' Tk.Rd.ituK_i ?k0 ?_); (case k0 => walk_at "sqt"))
  | with_reducible refine Tk.Rd.chain ?_
  | with_reducible refine Tk.Rd.chainL_i ?_
  | with_reducible refine Tk.Rd.un ?_
  | with_reducible refine Tk.Rd.u1 ?_
  | ((with_reducible refine' Tk.Rd.i1 ?k0 ?_); (case k0 => walk_at "ci"))
  | ((with_reducible refine' Tk.Rd.eq ?k0 ?_); (case k0 => exact rfl))
  | ((with_reducible refine' Tk.Rd.ne ?k0 ?_); (case k0 => exact rfl))
  | with_reducible refine Tk.Rd.isN ?_
  | with_reducible refine Tk.Rd.notN ?_
  | with_reducible refine Tk.Rd.fld ?_
  | with_reducible refine Tk.Rd.meth ?_
  | with_reducible refine Tk.Rd.prop ?_
  | with_reducible refine Tk.Rd.cb ?_
  | with_reducible refine Tk.Rd.bm ?_
  | with_reducible refine Tk.Rd.m0 ?_
  | with_reducible refine Tk.Rd.m0K_i ?_
  | with_reducible refine Tk.Rd.m1 ?_
  | with_reducible refine Tk.Rd.m1K_i ?_
  | with_reducible refine Tk.Rd.tup ?_
  | ((with_reducible refine' Tk.Rd.tupK_i ?k0 fun p H' np S hp => ?_); (case k0 => walk_at "sz"))
  | with_reducible refine Tk.Rd.lst ?_
  | ((with_reducible refine' Tk.Rd.lstK_i ?k0 fun p H' np S hp => ?_); (case k0 => walk_at "sz"))
  | ((with_reducible refine' Tk.Rd.ixT ?k0 ?k1 ?_); (case k0 => walk_at "sqt"); (case k1 => exact rfl))
  | ((with_reducible refine' Tk.Rd.ixL ?k0 ?k1 ?_); (case k0 => walk_at "sql"); (case k1 => exact rfl))
  | ((with_reducible refine' Tk.Rd.lenL ?k0 ?_); (case k0 => walk_at "sql"))
  | ((with_reducible refine' Tk.Rd.lenT ?k0 ?_); (case k0 => walk_at "sqt"))
  | ((with_reducible refine' Tk.Rd.lenS ?k0 ?_); (case k0 => first | assumption | omega | (simp; omega)))
  | ((with_reducible refine' Tk.Rd.slT ?k0 fun p H' S hq => ?_); (case k0 => walk_at "sqt"))
  | ((with_reducible refine' Tk.Rd.catA ?k0 ?k1 ?k2 ?k3 ?k4 fun p H' np S hp => ?_); (case k0 => walk_at "sqt"); (case k1 => walk_at "sqt"); (case k2 => simp); (case k3 => simp); (case k4 => first | (simp; done) | (simp; omega)))
  | with_reducible refine Tk.Rd.make ?_
  | ((with_reducible refine' Tk.Rd.tplL ?k0 fun q H' nq S hq => ?_); (case k0 => walk_at "sql"))
  | ((with_reducible refine' Tk.Rd.lstL ?k0 fun q H' nq S hq => ?_); (case k0 => walk_at "sql"))
  | ((with_reducible refine' Tk.Rd.lstT ?k0 fun q H' nq S hq => ?_); (case k0 => walk_at "sqt"))
  | ((with_reducible refine' Tk.Rd.join ?k0 ?k1 ?_); (case k0 => walk_at "sql"); (case k1 => first | assumption | omega))
  | with_reducible refine Tk.Rd.mx ?_
  | with_reducible refine Tk.Rd.mn ?_
  | with_reducible refine Tk.Rd.noPart ?_
  | with_reducible refine Tk.Rd.part ?_
  | with_reducible refine Tk.Rd.partK_i ?_
  | with_reducible refine Tk.Rd.slc ?_
  | ((with_reducible refine' Tk.Rd.gtup ?k0 ?k1 ?_); (case k0 => walk_at "sqt"); (case k1 => exact rfl))
  | ((with_reducible refine' Tk.Rd.glst ?k0 ?k1 ?_); (case k0 => walk_at "sql"); (case k1 => exact rfl))
  | with_reducible refine Tk.Rd.gcons ?_
  | with_reducible refine Tk.Rd.gnil ?_
  | with_reducible refine Tk.Rd.next ?_
  | with_reducible refine Tk.Rd.drop ?_
  | with_reducible refine Tk.Rd.ret ?_
  | with_reducible refine Tk.Rd.retN ?_
  | with_reducible refine Tk.Rd.par ?_
  | with_reducible refine Tk.Rd.parK_i ?_
  | ((with_reducible refine' Tk.Rd.aug ?k0 ?_); (case k0 => exact rfl))
  | with_reducible refine Tk.Rd.ip ?_
  | ((with_reducible refine' Tk.Rd.bmK_l ?k0 ?_); (case k0 => walk_at "sql"))
  | ((with_reducible refine' Tk.Rd.addS ?k0 ?_); (case k0 => walk_at "sz"))
  | fail "rd1")
local macro_rules | `(tactic| walk_at "rd") => `(tactic| (repeat' walk_at "rd1"))
local macro_rules | `(tactic| walk_at "hall") => `(tactic| first
  | assumption
  | ((with_reducible refine' Tk.HallAt.sm ?k0 ?k1); (case k0 => assumption); (case k1 => walk_at "hall"))
  | fail "hall")
local macro_rules | `(tactic| walk_at "parts") => `(tactic| first
  | assumption
  | ((with_reducible refine' Tk.PartsAt.sm ?k0 ?k1); (case k0 => assumption); (case k1 => walk_at "parts"))
  | fail "parts")
local macro_rules | `(tactic| walk_at "sm") => `(tactic| first
  | assumption
  | exact Tk.Sm.int rfl
  | exact Tk.Sm.flat1 rfl
  | ((with_reducible refine' Tk.Sm.sm ?k0 ?k1); (case k0 => assumption); (case k1 => walk_at "sm"))
  | fail "sm")
local macro_rules | `(tactic| walk_at "rd1") => `(tactic| first
  | ((with_reducible refine' Tk.Rd.f_modulus ?k0 ?k1 ?_); (case k0 => assumption); (case k1 => walk_at "hall"))
  | ((with_reducible refine' Tk.Rd.f_lateness ?k0 ?k1 ?_); (case k0 => assumption); (case k1 => walk_at "hall"))
  | ((with_reducible refine' Tk.Rd.f_takes ?k0 ?k1 fun tp htp => ?_); (case k0 => assumption); (case k1 => walk_at "hall"))
  | ((with_reducible refine' Tk.Rd.f_calls ?k0 ?k1 fun cp hcp => ?_); (case k0 => assumption); (case k1 => walk_at "hall"))
  | ((with_reducible refine' Tk.Rd.h_meth ?k0 ?k1 ?_); (case k0 => walk_at "hall"); (case k1 => decide +kernel))
  | ((with_reducible refine' Tk.Rd.h_prop ?k0 ?_); (case k0 => walk_at "hall"))
  | ((with_reducible refine' Tk.Rd.h_taken0 ?k0 fun H' S => ?_); (case k0 => walk_at "hall"))
  | ((with_reducible refine' Tk.Rd.h_taken1 ?k0 fun H' S => ?_); (case k0 => walk_at "hall"))
  | ((with_reducible refine' Tk.Rd.h_takenL ?k0 fun H' S => ?_); (case k0 => walk_at "hall"))
  | ((with_reducible refine' Tk.Rd.h_called0 ?k0 ?_); (case k0 => walk_at "hall"))
  | ((with_reducible refine' Tk.Rd.h_called1 ?k0 ?_); (case k0 => walk_at "hall"))
  | ((with_reducible refine' Tk.Rd.h_calledL ?k0 ?_); (case k0 => walk_at "hall"))
  | ((with_reducible refine' Tk.Rd.h_waiting ?k0 ?k1 fun H' S => ?_); (case k0 => walk_at "hall"); (case k1 => omega))
  | ((with_reducible refine' Tk.Rd.h_growth ?k0 fun H' S => ?_); (case k0 => walk_at "hall"))
  | ((with_reducible refine' Tk.Rd.h_period ?k0 ?_); (case k0 => walk_at "hall"))
  | ((with_reducible refine' Tk.Rd.h_lhall ?k0 fun h lp H' nh nl S hA => ?_); (case k0 => walk_at "parts"))
  | ((with_reducible refine' Tk.Rd.h_length ?k0 ?_); (case k0 => walk_at "parts"))
  | ((with_reducible refine' Tk.Rd.h_counts ?k0 ?k1 fun r a b H' nr na nb nab S hr ha hb => ?_); (case k0 => walk_at "parts"); (case k1 => omega))
  | ((with_reducible refine' Tk.Rd.h_make ?k0 ?k1 ?k2 fun h lp H' nh nl S hA => ?_); (case k0 => assumption); (case k1 => walk_at "hp"); (case k2 => walk_at "hp"))
  | ((with_reducible refine' Tk.Rd.p_0 ?k0 ?_); (case k0 => walk_at "parts"))
  | ((with_reducible refine' Tk.Rd.p_1 ?k0 fun htp => ?_); (case k0 => walk_at "parts"))
  | ((with_reducible refine' Tk.Rd.p_2 ?k0 fun hcp => ?_); (case k0 => walk_at "parts"))
  | ((with_reducible refine' Tk.Rd.p_3 ?k0 ?_); (case k0 => walk_at "parts"))
  | fail "rd1")
local macro_rules | `(tactic| walk_at "sqt") => `(tactic| first | ((with_reducible refine' Tk.PartsAt.sq ?k0); (case k0 => walk_at "parts")) | fail "sqt")
local macro_rules | `(tactic| walk_at "free") => `(tactic| first
  | assumption
  | ((with_reducible refine' Tk.Same.fr ?k0 ?k1); (case k0 => assumption); (case k1 => walk_at "free")))
local macro_rules | `(tactic| walk_at "hp") => `(tactic| first
  | ((with_reducible refine' Tk.But.gt ?k0 ?k1 ?k2); (case k0 => assumption); (case k1 => assumption); (case k2 => walk_at "hp"))
  | ((with_reducible refine' Tk.But.gl ?k0 ?k1 ?k2); (case k0 => assumption); (case k1 => assumption); (case k2 => walk_at "hp"))
  | fail "hp")
local macro_rules | `(tactic| walk_at "hall") => `(tactic| first | ((with_reducible refine' Tk.HallAt.bt ?k0 ?k1 ?k2 ?k3); (case k0 => assumption); (case k1 => assumption); (case k2 => assumption); (case k3 => walk_at "hall")) | fail "hall")
local macro_rules | `(tactic| walk_at "parts") => `(tactic| first | ((with_reducible refine' Tk.PartsAt.bt ?k0 ?k1 ?k2); (case k0 => assumption); (case k1 => assumption); (case k2 => walk_at "parts")) | fail "parts")
local macro_rules | `(tactic| walk_at "rd1") => `(tactic| first
  | ((with_reducible refine' Tk.Rd.h_below ?k0 ?k1 ?k2 ?k3 fun r H' cs hr B hd hcs => ?_); (case k0 => walk_at "hp"); (case k1 => assumption); (case k2 => first | decide | omega); (case k3 => first | decide | omega))
  | ((with_reducible refine' Tk.Rd.h_parts ?k0 ?k1 ?k2 ?k3 fun t tp cp m lt tk cl H' cs nt B hd hcs hP l1 l2 => ?_); (case k0 => walk_at "hp"); (case k1 => assumption); (case k2 => first | decide | omega); (case k3 => first | decide | omega))
  | ((with_reducible refine' Tk.Rd.h_partsL ?k0 ?k1 ?k2 ?k3 fun t tp cp m lt tk cl H' cs nt B hd hcs hP l1 l2 => ?_); (case k0 => walk_at "hp"); (case k1 => assumption); (case k2 => first | decide | omega); (case k3 => first | decide | omega))
  | ((with_reducible refine' Tk.Rd.h_small ?k0 ?k1 fun t tp cp m lt tk cl H' cs nt B hd hcs hP m1 l1 l2 l3 => ?_); (case k0 => walk_at "hp"); (case k1 => assumption))
  | ((with_reducible refine' Tk.Rd.h_tick ?k0 ?k1 fun t H' cs ht B hd hcs => ?_); (case k0 => walk_at "hp"); (case k1 => assumption))
  | ((with_reducible refine' Tk.Rd.h_mo ?k0 fun v H' S hv => ?_); (case k0 => walk_at "hall"))
  | ((with_reducible refine' Tk.Rd.h_lc ?k0 fun v H' S hv => ?_); (case k0 => walk_at "hall"))
  | ((with_reducible refine' Tk.Rd.h_lm ?k0 fun v H' S hv => ?_); (case k0 => walk_at "hall"))
  | ((with_reducible refine' Tk.Rd.h_gl ?k0 fun v H' S hv => ?_); (case k0 => walk_at "hall"))
  | ((with_reducible refine' Tk.Rd.h_ot ?k0 ?k1 fun r H' nr S hr => ?_); (case k0 => walk_at "hall"); (case k1 => first | assumption | omega))
  | ((with_reducible refine' Tk.Rd.h_most2 ?k0 fun v H' S hv => ?_); (case k0 => walk_at "parts"))
  | ((with_reducible refine' Tk.Rd.h_opens2L ?k0 ?k1 fun l ys H' nl S hl hlen hR => ?_); (case k0 => walk_at "parts"); (case k1 => decide))
  | ((with_reducible refine' Tk.Rd.h_opens2 ?k0 ?k1 fun l ys H' nl S hl hlen hR => ?_); (case k0 => walk_at "parts"); (case k1 => first | decide | omega))
  | fail "rd1")
local macro_rules | `(tactic| walk_at "ok") => `(tactic| first
  | assumption
  | ((with_reducible refine' Tk.HallAt.ok ?k0); (case k0 => walk_at "hall"))
  | ((with_reducible refine' Tk.PartsAt.ok ?k0); (case k0 => walk_at "parts"))
  | fail "ok")
local macro_rules | `(tactic| walk_at "sml") => `(tactic| first
  | exact Tk.Sml.ints (by walk_at "szb")
  | exact Tk.Sml.intsT (by walk_at "szb")
  | trivial
  | (simp [Tk.Sml]; done)
  | (simp [Tk.Sml]; omega)
  | fail "sml")
local macro_rules | `(tactic| walk_at "rd1") => `(tactic| first
  | ((with_reducible refine' Tk.Rd.nT ?k0 ?_); (case k0 => with_reducible exact rfl))
  | ((with_reducible refine' Tk.Rd.dT ?k0 ?_); (case k0 => with_reducible exact rfl))
  | ((with_reducible refine' Tk.Rd.h_enc ?k0 fun l H' nl S hl => ?_); (case k0 => walk_at "hall"))
  | ((with_reducible refine' Tk.Rd.h_dec ?k0 ?k1 fun h lp H' nh nl S hA => ?_); (case k0 => walk_at "hp"); (case k1 => walk_at "ok"))
  | ((with_reducible refine' Tk.Rd.h_text ?k0 fun H' S => ?_); (case k0 => walk_at "hall"))
  | ((with_reducible refine' Tk.Rd.h_eqd ?k0 ?k1 ?k2 fun H' S => ?_); (case k0 => walk_at "dp"); (case k1 => walk_at "dp"); (case k2 => walk_at "sml"))
  | ((with_reducible refine' Tk.Rd.eqd ?k0 ?k1 ?k2 ?k3 ?_); (case k0 => walk_at "dp"); (case k1 => walk_at "dp"); (case k2 => walk_at "sml"); (case k3 => walk_at "sml"))
  | ((with_reducible refine' Tk.Rd.ned ?k0 ?k1 ?k2 ?k3 ?_); (case k0 => walk_at "dp"); (case k1 => walk_at "dp"); (case k2 => walk_at "sml"); (case k3 => walk_at "sml"))
  | fail "rd1")
namespace Tk
open PySem PySem.Spec PyProof.Rows L2 Mm
section
variable {P : Program} {w : World} {K : PySem.W.Frag} {mg : Str → Option Value} {base : Heap}
theorem ok_law (T : Txt K mg) {fd : FuncData} (F : FnP K "law" "law" s_law (He.ga K "law") fd) : FnOk P w K mg base CX0 9 (He.ga K "law") fd ["_law_script"] (spLaw K) := by
  have G__law_random : OkF P w K mg base 1 (He.ga K "_law_random") ["_law_script", "_law_salt"] (spRandom K) := ok__law_random T
  have G__law_parts : OkF P w K mg base 3 (He.ga K "_law_parts") ["_law_d", "_law_most"] spParts := ok__law_parts T
  have G__law_hall : OkF P w K mg base 7 (He.ga K "_law_hall") ["_law_parts_here"] (spLHall (He.ga K "Hall")) := ok__law_hall T
  have G__law_equal : OkF P w K mg base 5 (He.ga K "_law_equal") ["_law_actual", "_law_expected"] (spEqOf (Sm K 4)) := ok__law_equal T 4
  have G_text : OkF P w K mg base 2 (getAt K (He.ga K "Hall") "text") ["self"] (spText (He.ga K "Hall")) := ok_text T
  have G_parse : OkF P w K mg base 7 (cmFn K (He.ga K "Hall") "parse") ["cls", "text"] (spParse (He.ga K "Hall")) := ok_parse T
  refine okLaw F sc_law (fun vs H Q E h => ?_) (fun cdv A outer s H vs Q E hr h => ?_)
  · obtain ⟨a, ns, rfl, _⟩ := h
    rfl
  obtain ⟨a, ns, rfl, hS, hlen, k⟩ := h
  refine ⟨_, (pss_cons (ps_set (i := 1) sc_law.nd rfl (Or.inl rfl) (pe_call G__law_random.one (hr.mono (by decide)) (by rfl) T.g__law_random G__law_random.kp G__law_random.two .nil passL (pa_cons (pv 0) (pa_cons pe_int pa_nil))))
    (pss_cons (ps_for PassesOwn.never rfl (pi_range1 (by rfl) T.g_range (pa_cons pe_int pa_nil)) (pg_name (i := 2) sc_law.nd rfl (Or.inl rfl))
      (pss_cons (ps_set (i := 3) sc_law.nd rfl (Or.inl rfl) (pe_call G__law_parts.one (hr.mono (by decide)) (by rfl) T.g__law_parts G__law_parts.kp G__law_parts.two .nil passL (pa_cons (pv 1) (pa_cons pe_int pa_nil))))
    (pss_cons (ps_set (i := 4) sc_law.nd rfl (Or.inr rfl) (pe_lst (pa_cons (pe_lst (pa_cons (pe_ix (ixTK (K := K)) (pv 3) pe_int (fun _ _ => rfl)) pa_nil)) (pa_cons (pe_callTy (lstK (K := K)) (by rfl) T.g_list (by decide +kernel) (pa_cons (pe_ix (ixTK (K := K)) (pv 3) pe_int (fun _ _ => rfl)) pa_nil)) (pa_cons (pe_callTy (lstK (K := K)) (by rfl) T.g_list (by decide +kernel) (pa_cons (pe_ix (ixTK (K := K)) (pv 3) pe_int (fun _ _ => rfl)) pa_nil)) (pa_cons (pe_lst (pa_cons (pe_ix (ixTK (K := K)) (pv 3) pe_int (fun _ _ => rfl)) pa_nil)) pa_nil))))))
    (pss_cons (ps_set (i := 5) sc_law.nd rfl (Or.inr rfl) (pe_lst (pa_cons pe_str (pa_cons pe_str (pa_cons pe_str (pa_cons pe_str pa_nil))))))
    (pss_cons (ps_set (i := 6) sc_law.nd rfl (Or.inl rfl) (pe_joinR (K := K) pe_str (pe_lc (own := [("_law_k", 8)]) (g := gName 8) (tt := tYes) (by rfl) sc_law.nd (pi_range1 (by rfl) T.g_range (pa_cons pe_int pa_nil)) (blkOk_by (own := [("_law_k", 8)]) (N := N_law) (sc := (defScope s_law)) (by decide +kernel)) (fun _ _ _ _ _ => pg_name (i := 8) sc_law.nd rfl (Or.inl rfl)) (fun _ _ _ _ _ => pts_nil) (fun _ _ _ _ _ => (pe_op (show OpR _ (binaryOp .Add) Rd.rAddS from op_add_str) (pe_op (show OpR _ (binaryOp .Add) Rd.rAddS from op_add_str) (pe_ix (ixLK (K := K)) (pv 5) (pv 8) (fun _ _ => rfl)) pe_str) (pe_joinR (K := K) pe_str (pe_lc (own := [("_law_number", 9)]) (g := gName 9) (tt := tYes) (by rfl) sc_law.nd (pi_listK (K := K) (pe_ix (ixLK (K := K)) (pv 4) (pv 8) (fun _ _ => rfl))) (blkRe (blkOk_by (own := [("_law_number", 9)]) (N := N_law) (sc := ({ kind := .function, names := [(".0", .local), ("_law_k", .local), ("_law_names", .free), ("_law_rows", .free)], isGenerator := false, isCoroutine := false } : Scope)) (by decide +kernel))) (fun _ _ _ _ _ => pg_name (i := 9) sc_law.nd rfl (Or.inl rfl)) (fun _ _ _ _ _ => pts_nil) (fun _ _ _ _ _ => (pe_callTy (show CallR _ (.type "str") Rd.rStrI from call_str_int) (by rfl) T.g_str (by decide +kernel) (pa_cons (pv 9) pa_nil))))))))))
    (pss_cons (ps_set (i := 7) sc_law.nd rfl (Or.inl rfl) (ClX.pe_cmeth (pe_glob (v := .ref (He.ga K "Hall")) (by rfl) T.g_Hall rfl) T.k_parse.1 T.k_parse.2 (G_parse.one.raw G_parse.two .nil) (hr.mono (by decide)) passL (pa_cons (pv 6) pa_nil)))
    (pss_cons (ps_if (pt_not (pt_val (pe_call G__law_equal.one (hr.mono (by decide)) (by rfl) T.g__law_equal G__law_equal.kp G__law_equal.two .nil passL (pa_cons (pe_lst (pa_cons (pe_prop (pv 7) T.cl_Hall T.p_text G_text.one (hr.mono (by decide)) G_text.two .nil passL (by rfl)) (pa_cons (pe_prop (pe_call G__law_hall.one (hr.mono (by decide)) (by rfl) T.g__law_hall G__law_hall.kp G__law_hall.two .nil passL (pa_cons (pv 3) pa_nil)) T.cl_Hall T.p_text G_text.one (hr.mono (by decide)) G_text.two .nil passL (by rfl)) pa_nil))) (pa_cons (pe_lst (pa_cons (pv 6) (pa_cons (pv 6) pa_nil))) pa_nil))))) (pss_one (ps_ret pe_bl)) pss_nil)
    (pss_one (ps_if (pt_not (pt_val (pe_call G__law_equal.one (hr.mono (by decide)) (by rfl) T.g__law_equal G__law_equal.kp G__law_equal.two .nil passL (pa_cons (pe_lst (pa_cons (pe_fld (pv 7) rfl) (pa_cons (pe_fld (pv 7) rfl) (pa_cons (pe_fld (pv 7) rfl) (pa_cons (pe_fld (pv 7) rfl) pa_nil))))) (pa_cons (pe_callTy (lstK (K := K)) (by rfl) T.g_list (by decide +kernel) (pa_cons (pv 3) pa_nil)) pa_nil))))) (pss_one (ps_ret pe_bl)) pss_nil)))))))))
    (pss_one (ps_ret pe_bl)))), ?_⟩
  -- the source
  refine ⟨_, rfl, a, ns, 18, rfl, hS, hlen, by decide, by decide, fun d cs H1 hd0 S1 hd hcs => ?_⟩
  refine ⟨5, rfl, by decide, by decide, for_range (lo := 0) (n := 5) (fun i σ H2 => ∃ v2 v3 v4 v5 v6 v7 v8 v9, σ = [some (.ref a), some (.ref d), v2, v3, v4, v5, v6, v7, v8, v9] ∧ ∃ cs, H2 d = some (.lst cs) ∧ DSt cs)
    ⟨_, _, _, _, _, _, _, _, rfl, cs, hd, hcs⟩ ?_ (fun σ H2 _ => k H2)⟩
  clear hd hcs hd0 S1
  rintro i σ H2 hi ⟨v2, v3, v4, v5, v6, v7, v8, v9, rfl, cs, hd, hcs⟩
  -- the parts
  walk_at "rd"
  refine ⟨d, 12, cs, rfl, by decide, by decide, hd, hcs, fun t tp cp m lt tk cl H3 _ S3 hP _ _ => ?_⟩
  obtain ⟨c3, hd3, hc3⟩ := S3.at_
  clear hd hcs S3
  walk_at "rd"
  rename_i l0 H4 _ S4 hl0 htp l1 H5 _ S5 hl1 hcp l2 H6 _ S6 hl2 l3 H7 _ S7 hl3 lr H8 _ S8 hlr ln H9 _ S9 hln
  refine Rd.lc_rng (fun i => .str ((Tx.lns m tk cl lt).getD i "")) (by decide) (fun i hi => Rd.turn1 rfl fun H' S Q' q => ?_) fun D H10 nD S10 h10 => ?_
  · have hi : i < 4 := hi
    obtain ⟨w, hw⟩ : ∃ w, nms[i]? = some w := ⟨_, List.getElem?_eq_getElem hi⟩
    obtain ⟨ns, hns, hl, hlo, _⟩ := line_at hP.ok hi hw
    have w8 := hlo.w8
    have n12 := hlo.n12
    have sp1 : (" " : Str).length = 1 := by decide +kernel
    obtain ⟨li, hli, hl9⟩ : ∃ li, [V.ref l0, V.ref l1, V.ref l2, V.ref l3][i]? = some (.ref li) ∧ H9 li = some (.lst (ns.map vn)) := by
      have : i = 0 ∨ i = 1 ∨ i = 2 ∨ i = 3 := by omega
      rcases this with rfl | rfl | rfl | rfl <;> (obtain rfl := Option.some.inj hns)
      · exact ⟨l0, rfl, (by walk_at "hp")⟩
      · exact ⟨l1, rfl, (by walk_at "hp")⟩
      · exact ⟨l2, rfl, (by walk_at "hp")⟩
      · exact ⟨l3, rfl, (by walk_at "hp")⟩
    rw [Rd.getD_of hl] at q
    have hn : ns ≠ [] := by
      have : i = 0 ∨ i = 1 ∨ i = 2 ∨ i = 3 := by omega
      rcases this with rfl | rfl | rfl | rfl <;> (obtain rfl := Option.some.inj hns)
      · simp
      · intro e
        have := hP.ok.tkP.pos
        rw [e] at this
        cases this
      · intro e
        have := hP.ok.clP.pos
        rw [e] at this
        cases this
      · simp
    walk_at "rd"
    refine Rd.ixL (xs := nms.map V.str) (SqL.of (S _ _ hln)) (atn (by rw [List.getElem?_map, hw]; rfl)) ?_
    walk_at "rd"
    refine Rd.addS (by omega) ?_
    walk_at "rd"
    refine Rd.ixL (by walk_at "sql") (atn hli) ?_
    have hl' := S _ _ hl9
    walk_at "rd"
    refine Rd.lc_lst (fun j => .str (Tx.nS (ns.getD j 0))) (SqL.of hl') (by simp; omega) (fun j x hx => Rd.turn1 rfl fun H' S Q' q => ?_) fun B HB nB SB hB => ?_
    · obtain ⟨n, rfl, hn⟩ := vn_at hx
      rw [Rd.getD_of hn] at q
      walk_at "rd"
      exact ⟨n, rfl, log_small (hlo.n4 n (List.mem_of_getElem? hn)), q _ (Same.refl _)⟩
    · rw [List.length_map, show (fun j => V.str (Tx.nS (ns.getD j 0))) = fun j => (V.str ∘ Tx.nS) (ns.getD j 0) from rfl, Rd.range_get ns 0 (V.str ∘ Tx.nS), ← List.map_map] at hB
      have z := Tx.ns_size hlo.n12 hlo.n4
      walk_at "rd"
      refine Rd.addS ?_ ?_
      · have z2 := Tx.ns_len hlo.n12 hlo.n4
        have e : (w ++ " ").length = w.length + 1 := by rw [TL.len_tl, TL.tl_append, List.length_append, ← TL.len_tl, ← TL.len_tl, sp1]
        rw [e]
        omega
      rw [Tx.ln_glue hn]
      exact q _ SB
  · have e : (List.range 4).map (fun i => V.str ((Tx.lns m tk cl lt).getD i "")) = (Tx.lns m tk cl lt).map V.str := Rd.range_get (Tx.lns m tk cl lt) "" V.str
    rw [e] at h10
    obtain ⟨z1, z2⟩ := hall_txt hP.ok
    walk_at "rd"
    refine ⟨rfl, ?_⟩
    walk_at "rd"
    refine ⟨m, lt, tk, cl, rfl, hP.ok, fun hh lp H11 nh nl S11 hA => ?_⟩
    walk_at "rd"
    rename_i H12 S12 h2 lp2 H13 nh2 nl2 S13 hA2 H14 S14 p1 H15 np1 S15 hp1 p2 H16 np2 S16 hp2
    refine Rd.h_equal (Sm.flats (SqL.of (S16 _ _ hp1)) (SqL.of hp2) (by simp) (by simp [flat])) fun H17 S17 => ?_
    clear e h10 hl0 hl1 hl2 hl3 hlr hln nh nl nh2 nl2 np1 np2
    have hA' : HallAt (He.ga K "Hall") H17 hh m tk cl lt lp := (by walk_at "hall")
    have hP' : PartsAt H17 t m tp tk cp cl lt := (by walk_at "parts")
    have hd17 : H17 d = some (.lst c3) := (by walk_at "hp")
    clear hA hA2 hP hp1 hp2 S4 S5 S6 S7 S8 S9 S10 S11 S12 S13 S14 S15 S16 S17 htp hcp nD
    walk_at "rd"
    rename_i tp2 htp2 cp2 hcp2 p3 H18 np3 S18 hp3 p4 H19 np4 S19 hp4
    refine Rd.h_equal (Sm.lst (SqL.of (S19 _ _ hp3)) (SqL.of hp4) (by simp) (.cons .rfl1 (.cons ?_ (.cons ?_ (.cons .rfl1 .nil))))) fun H20 S20 => ?_
    · exact Sm.flatsT (SqT.of (S19 _ _ (S18 _ _ htp2))) (SqT.of (S19 _ _ (S18 _ _ hP'.tkA))) (by have := hP'.ok.tkP.len; simp; omega) flat_vn
    · exact Sm.flatsT (SqT.of (S19 _ _ (S18 _ _ hcp2))) (SqT.of (S19 _ _ (S18 _ _ hP'.clA))) (by have := hP'.ok.clP.len; simp; omega) flat_vn
    walk_at "rd"
    exact ⟨_, _, _, _, _, _, _, _, rfl, c3, (by walk_at "hp"), hc3⟩
end
end Tk

end

/-! ### The end -/
namespace Tk
open PySem PySem.Spec PyProof.Rows L2
theorem facts {P : Program} {w : World} {K : PySem.W.Frag} {h : Heap} {mg : Str → Option Value} {f : Addr} (X : K.In h) (G : h.Ns mainGlobals mg) (hfa : mg ("law" : Str) = some (.ref f)) (c : Says fcts dps K) :
    ∃ fd : FuncData, (∀ (s : Shared) (v : Value), BindsTo s fd ⟨[v], []⟩ [("_law_script", v)]) ∧ ∀ base : Heap, K.In base → base.Ns mainGlobals mg → FnOk P w K mg base CX0 9 f fd ["_law_script"] (spLaw K) := by
  obtain ⟨fd, F⟩ := law_fn c
  have T := txt X G c
  have e := hfa.symm.trans (He.glo_ok X G (c.fact lawF rfl))
  cases e
  have b := FunD.bindsA (ps := ["_law_script"]) F fun _ _ _ _ _ _ us hl => match us, hl with | [_], _ => rfl
  exact ⟨fd, fun s v => b s [v] rfl, fun base _ _ => ok_law T F⟩
end Tk
open PySem PySem.W PySem.Calls PyProof.Rows
set_option maxRecDepth 100000 in
set_option maxHeartbeats 0 in
theorem PySem.Challenge.cw_ticketwrap_k18_texts_of_halls_holds : PySem.Challenge.rw_ticketwrap_k18_texts_of_halls.Holds := by
  w_on; o_law
  refine HeadRun.head_imp (r := OpenLaw.row PySem.Challenge.rw_ticketwrap_k18_texts_of_halls) (q := view (OpenLaw.row PySem.Challenge.rw_ticketwrap_k18_texts_of_halls).prog [0, 38]) (H := Tk.hk) (ob := Tk.ob) (M := 20000) (loose := Tk.names) (d := HeadRun.topDef (OpenLaw.row PySem.Challenge.rw_ticketwrap_k18_texts_of_halls).prog 38) (kwd := []) Tk.ob_eq Tk.run
    (by kernel_rfl) (by kernel_rfl) (by kernel_rfl) (by rfl) (by first | assumption | decide +kernel) (by decide +kernel) ⟨rfl, rfl, rfl, rfl, rfl, by decide +kernel⟩ ?hw ?hc
  case hw => w_witness2
  case hc =>
    refine L2.walk_ofE (l := PySem.Challenge.rw_ticketwrap_k18_texts_of_halls) (n := 63) (k := 9) (x := "_law_script") (CX := L2.CX0) rfl (by decide) (by kernel_rfl) ⟨rfl, by decide, by decide⟩ ?F (fun _ _ _ _ z => z)
    intro w mg fa h Y G hmg0
    obtain ⟨K, KX, c, _⟩ := Y
    have hmg : mg ("law" : PySem.Str) = some (.ref fa) := by
      have e : (HeadRun.topDef (OpenLaw.row PySem.Challenge.rw_ticketwrap_k18_texts_of_halls).prog 38).name = ("law" : PySem.Str) := by kernel_rfl
      rw [← e]
      exact hmg0
    obtain ⟨fd, hb, hF⟩ := Tk.facts (P := (PySem.Challenge.rw_ticketwrap_k18_texts_of_halls).prog) (w := w) KX G hmg c
    exact ⟨K, fd, Tk.spLaw K, KX, hb, fun H a ns hl _ hS => ⟨a, ns, rfl, hS, hl, fun _ => rfl⟩, hF⟩
