import PyProof.Rows.All
import Wide.All
import OpenK.AllK
import Wide.FinOn
import KE.KStateDown
import KE.KMathGC
import KE.KTupSum
import KE.GoesEnum
import KE.KUnpackStar
import HandS.StrMore
import HandS.Zip
import HandS.ClsMeth
import HandS.Codes
import HandS.ForMost
import HandS.Exc
import HandS.TryOnly
import HandS.ExcOwn
import HandS.ExcValue
import HandS.WordsExc
import HandS.Defaults
import HandS.Property
import HandS.Conv
import HandS.Flow
import HandS.Wide
import HandS.IsInst
import HandS.TupAny
import HandS.Deep
import HandS.Evl
import HandS.Lambda
import HandS.EndTab
import HandS.HeadWalk
import HandS.GenList
import HandS.RevRange
import HandS.Gcd
import HandS.CallLocal
import HandS.TryMany
import HandS.SetKeys
import HandS.Star
import HandS.SortKw
import KE.DatumOrd
import PyProof.GenComp
import KE.HD3
import HandS.HeadEnd
import HandS.HeadHook1
import HandS.HeadHook2
import HandS.HeadHook4
import HandS.NestedK
import PySem.Challenge.RW_ticketwrap_k01_takes_and_calls
set_option Elab.async false
set_option linter.all false
set_option maxRecDepth 100000
set_option maxHeartbeats 4000000
/-! ### A. Rules and facts of our own -/
namespace Tk
open PySem PySem.Spec PyProof.Rows L2
section
variable {X : Cx}

/-! math.lcm, sum of a tuple -/
def rLcm : List V → Hp → VK → Prop := fun vs H Q => ∃ a b : Nat, vs = [.int a, .int b] ∧ a < 1000000 ∧ b < 1000000 ∧ Q (.int ((Nat.lcm a b : Nat) : Int)) H
theorem cr_lcm : CallR X (.builtin "math.lcm") rLcm := by
  intro pins s σ H vs us Q I r h
  obtain ⟨a, b, rfl, ha, hb, q⟩ := h
  obtain ⟨t, u, rfl⟩ := Vals.int2 r
  refine PySem.W.mc_lcm (by simp; omega) (by simp; omega) fun _ => ⟨.int _, H, I.tok _, ⟨_, rfl⟩, ?_⟩
  simpa using q
def rSumT (K : PySem.W.Frag) : List V → Hp → VK → Prop := fun vs H Q => ∃ (a : Addr) (ns : List Int), vs = [V.ref a] ∧ SqT K H a (ns.map V.int) ∧ Q (.int ns.sum) H
theorem istup_old {h : Heap} {t : Addr} {its : List Value} (p : IsTup h t its.toArray) : h.IsTuple t its.toArray := by
  obtain ⟨o, ho, hc, n, hd⟩ := p
  exact ⟨o, ho, hc, n, hd⟩
theorem cr_sumT (hc : X.calm = true) : CallR X (.builtin "sum") (rSumT X.K) := by
  intro pins s σ H vs us Q I r h
  obtain ⟨a, ns, rfl, hs, q⟩ := h
  obtain ⟨its, rv, hl, _⟩ := I.tuple hs
  rw [Vals.ref1 r]
  have hi := rv.ints
  obtain ⟨xs, hx⟩ := hi.allInts.items
  have hn : numsOf its.toArray.toList = ns := by rw [show its.toArray.toList = its from rfl, hi.numsOf]
  have ht := istup_old hl
  rw [hx] at ht hn
  rw [nums_intItems] at hn
  refine PySem.W.ktm_sumG (I.ok.hd hc) ht fun h' tk t' hk => ?_
  rw [preSum_eq, List.take_of_length_le (by simp), hn]
  exact ⟨.int _, H, I.kept hk, ⟨_, rfl⟩, q⟩
/-- f(e, ..), f a name for a built-in function of a module -/
theorem pfun {x : Str} {p pos : Pos} {e : Expr} {es : List Expr} {t : TA} {id : String} {r : List V → Hp → VK → Prop} (hc : CallR X (.builtin id) r) (hg : Gl X x) (hm : X.mg x = some (.builtin id)) (ha : PA X (e :: es) t) (hdb : (x == ("__debug__" : Str)) = false := by decide)
    (he : starEach (e :: es) X.env = (false, eval e X.env) :: starEach es X.env := by rfl) (hpl : (backTo pos (starEach es X.env)).any (·.1) = false := by rfl) : PE X (.Call (.Name x p) (e :: es) [] pos) (tCB r t) :=
  ⟨fun pins s σ H _ I h => wpAny_Call_Name_kw (ld_glob I hg hm (PyProof.Rows.callWith_builtin1 (thn (ha.run pos pins s σ H _ I h) fun us s1 ⟨vs, H1, I1, r1, q1⟩ => hc pins s1 σ H1 vs us _ I1 r1 q1) he hpl) hdb)⟩

/-! a comprehension within a comprehension -/
theorem look_relabel {env : Env} : ∀ {names : List (Str × NameKind)} {x : Str}, names.lookup x = some .cell ∨ names.lookup x = some .free →
    (names.map fun (n, k) => if (k == NameKind.free && env.scope.kind == .function && env.kindOf n == some .cell) then (n, NameKind.cell) else (n, k)).lookup x = some .cell ∨
    (names.map fun (n, k) => if (k == NameKind.free && env.scope.kind == .function && env.kindOf n == some .cell) then (n, NameKind.cell) else (n, k)).lookup x = some .free
  | [], x, h => by rcases h with h | h <;> simp at h
  | (n, k) :: r, x, h => by
    have ih := @look_relabel env r x
    show List.lookup x ((if (k == NameKind.free && env.scope.kind == .function && env.kindOf n == some .cell) = true then (n, NameKind.cell) else (n, k)) :: _) = _ ∨ List.lookup x ((if (k == NameKind.free && env.scope.kind == .function && env.kindOf n == some .cell) = true then (n, NameKind.cell) else (n, k)) :: _) = _
    cases hx : x == n with
    | true =>
      simp only [List.lookup_cons, hx] at h
      by_cases hc : (k == NameKind.free && env.scope.kind == .function && env.kindOf n == some .cell) = true
      · rw [if_pos hc]
        simp [List.lookup_cons, hx]
      · rw [if_neg hc]
        simp only [List.lookup_cons, hx]
        exact h
    | false =>
      simp only [List.lookup_cons, hx] at h
      by_cases hc : (k == NameKind.free && env.scope.kind == .function && env.kindOf n == some .cell) = true
      · rw [if_pos hc]; simp only [List.lookup_cons, hx]; exact ih h
      · rw [if_neg hc]; simp only [List.lookup_cons, hx]; exact ih h
theorem blkRe {N : List Str} {sc scope : Scope} {own : List (Str × Nat)} {env : Env} (h : BlkOk N sc scope own) : BlkOk N (relabel sc env) scope own :=
  ⟨h.kind, h.uniq, h.ix, fun y hy e => look_relabel (h.free y hy e), h.own⟩
/-! a def that stands at a and keeps a promise; its calls -/
structure OkF (P : Program) (w : World) (K : PySem.W.Frag) (mg : Str → Option Value) (base : Heap) (k : Nat) (a : Addr) (ps : List Str) (sp : Sp) : Prop where
  ex : ∃ fd, FnOk P w K mg base (L2.CX P w) k a fd ps sp ∧ Binds K fd ps []
  kp : PySem.W.keepIn K (.ref a) = true
theorem OkF.one {P : Program} {w : World} {K : PySem.W.Frag} {mg : Str → Option Value} {base : Heap} {k : Nat} {a : Addr} {ps : List Str} {sp : Sp} (O : OkF P w K mg base k a ps sp) : FnOk P w K mg base (L2.CX P w) k a (Classical.choose O.ex) ps sp := (Classical.choose_spec O.ex).1
theorem OkF.two {P : Program} {w : World} {K : PySem.W.Frag} {mg : Str → Option Value} {base : Heap} {k : Nat} {a : Addr} {ps : List Str} {sp : Sp} (O : OkF P w K mg base k a ps sp) : Binds K (Classical.choose O.ex) ps [] := (Classical.choose_spec O.ex).2
variable {x : Str} {pos : Pos}
/-- a constant of the module -/
theorem pe_gint {v : Int} (hg : Gl X x) (h : ∃ t, X.mg x = some (.int v t)) (hd : (x == ("__debug__" : Str)) = false := by decide) : PE X (.Name x pos) (tC (.int v)) := by
  obtain ⟨t, h⟩ := h
  exact pe_glob hg h ⟨t, rfl⟩ hd
end

/-! facts of the top, read by a Hook -/
abbrev FnP (K : PySem.W.Frag) (x qual : Str) (st : Stmt) (f : Addr) (fd : FuncData) : Prop := FunD K x qual (defArgs st) (defBody st) (defScope st) [] [] f fd
/-- where a def stands, and the def -/
structure Dp where
  at_ : PySem.W.Frag → Addr
  d : He.DefD
def look (K : PySem.W.Frag) (a : Addr) : He.FnW := match K.lookup a with
  | some o => (match o.data with
    | .func fd => some (fd.name, fd.qualname, fd.params, fd.body, fd.scope, fd.globals, fd.closure, fd.builtins)
    | _ => none)
  | none => none
def okA (K : PySem.W.Frag) (a : Addr) (d : He.DefD) : Bool := PySem.W.keepIn K (.ref a) && (match K.lookup a with
  | some o => (match o.data with
    | .func fd => PySem.W.codeIn K fd.code d.qual && (He.dflB K fd.defaults (d.dvs K) && He.kwdB K fd.kwdefaults (d.kws K))
    | _ => false)
  | none => false)
theorem fun_at {K : PySem.W.Frag} {a : Addr} {d : He.DefD} (e : look K a = d.val) (c : okA K a d = true) : ∃ fd, FunD K d.name d.qual d.params d.body d.scope (d.dvs K) (d.kws K) a fd := by
  obtain ⟨kp, c2⟩ := He.ba c
  unfold look at e
  cases q : K.lookup a with
  | none => rw [q] at c2; cases c2
  | some o =>
    obtain ⟨oc, od, dt, osl⟩ := o
    rw [q] at c2 e
    cases dt with
    | func fd =>
      obtain ⟨n1, n2, n3, n4, n5, n6, n7, n8, n9, n10, n11, n12, n13, n14, n15⟩ := fd
      have z : (some (n1, n2, n3, n4, n5, n6, n7, n15) : He.FnW) = d.val := e
      unfold He.DefD.val at z
      simp only [Option.some.injEq, Prod.mk.injEq] at z
      obtain ⟨rfl, rfl, rfl, rfl, rfl, rfl, rfl, rfl⟩ := z
      obtain ⟨c3, c4⟩ := He.ba (show (PySem.W.codeIn K n13 d.qual && (He.dflB K n8 (d.dvs K) && He.kwdB K n9 (d.kws K))) = true from c2)
      obtain ⟨c5, c6⟩ := He.ba c4
      exact ⟨_, ⟨oc, od, n8, n9, n10, n11, n12, n13, n14, osl, rfl, q, c3, He.dflB_ok c5, He.kwdB_ok c6⟩, kp⟩
    | _ => cases c2
abbrev Al : Type := Bool × List He.FnW
def obsT (fa : List (PySem.W.Frag → Bool)) (fn : List Dp) (K : PySem.W.Frag) : Al := ((fa.all fun f => f K) && fn.all fun d => okA K (d.at_ K) d.d, fn.map fun d => look K (d.at_ K))
def valT (fn : List Dp) : Al := (true, fn.map fun d => d.d.val)
def Says (fa : List (PySem.W.Frag → Bool)) (fn : List Dp) (K : PySem.W.Frag) : Prop := obsT fa fn K = valT fn
/-! defs that make functions: their code objects, the tables of these -/
def codeAt (K : PySem.W.Frag) (a : Addr) : Addr := match K.lookup a with
  | some ⟨_, _, .func fd, _⟩ => (match fd.code with
    | .ref c => c
    | _ => 0)
  | _ => 0
def ctAt (K : PySem.W.Frag) (a : Addr) : Addr × Addr := (codeAt K a, He.tabOf K (codeAt K a))
theorem codeAt_eq {K : PySem.W.Frag} {a : Addr} {oc : Value} {od : Option Addr} {osl : Array (Option Value)} {fd : FuncData} {cd : Value} {q : Str} (lk : K.lookup a = some ⟨oc, od, .func fd, osl⟩) (e : fd.code = cd) (h : PySem.W.codeIn K cd q = true) : cd = .ref (codeAt K a) := by
  obtain ⟨c, rfl⟩ := He.codeIn_ref h
  unfold codeAt
  rw [lk]
  show Value.ref c = .ref (match fd.code with | .ref c => c | _ => 0)
  rw [e]
abbrev Mk_ : Type := PySem.W.Frag → Addr
/-- what is looked at: what is reached from the module, and the notes on builtins -/
def asX (g : Addr → Option Obj) (n : Nat) : List Addr := cStatics :: He.asD g n
structure Tells (tf : List Mk_) (h : Heap) (K : PySem.W.Frag) : Prop where
  hd : ∀ p ∈ tf, PySem.W.codeHdIn K (ctAt K (p K)).1 (ctAt K (p K)).2 = true
  out : ∀ p ∈ tf, K.lookup (ctAt K (p K)).2 = none
  empty : ∀ p ∈ tf, h.get? (ctAt K (p K)).2 = some { cls := .none, data := .fields #[] }
  apart : (tf.map fun p => (ctAt K (p K)).2).Nodup
def tabsB (g : Addr → Option Obj) (tf : List Mk_) (K : PySem.W.Frag) : Bool := (tf.all fun p => PySem.W.codeHdIn K (ctAt K (p K)).1 (ctAt K (p K)).2 && (match g (ctAt K (p K)).2 with
  | some o => He.emptyTab o
  | none => false)) && decide ((tf.map fun p => (ctAt K (p K)).2).Nodup)
abbrev AlX : Type := Al × Bool
def obsG (n : Nat) (fa : List (PySem.W.Frag → Bool)) (fn : List Dp) (tf : List Mk_) (g : Addr → Option Obj) : AlX := (obsT fa fn (He.frT g (asX g n)), tabsB g tf (He.frT g (asX g n)))
theorem tells_of {n : Nat} {tf : List Mk_} {h : Heap} (e : tabsB h.get? tf (He.frT h.get? (asX h.get? n)) = true) : Tells tf h (He.frT h.get? (asX h.get? n)) := by
  obtain ⟨h2, h5⟩ := He.ba e
  have key : ∀ p ∈ tf, PySem.W.codeHdIn (He.frT h.get? (asX h.get? n)) (ctAt (He.frT h.get? (asX h.get? n)) (p (He.frT h.get? (asX h.get? n)))).1 (ctAt (He.frT h.get? (asX h.get? n)) (p (He.frT h.get? (asX h.get? n)))).2 = true ∧
      ∃ o, h.get? (ctAt (He.frT h.get? (asX h.get? n)) (p (He.frT h.get? (asX h.get? n)))).2 = some o ∧ He.emptyTab o = true := fun p hp => by
    obtain ⟨h3, h4⟩ := He.ba (List.all_eq_true.mp h2 p hp)
    refine ⟨h3, ?_⟩
    generalize h.get? (ctAt (He.frT h.get? (asX h.get? n)) (p (He.frT h.get? (asX h.get? n)))).2 = z at h4
    cases z with
    | none => cases h4
    | some o => exact ⟨o, rfl, h4⟩
  exact ⟨fun p hp => (key p hp).1, fun p hp => by
    obtain ⟨_, o, q, z⟩ := key p hp
    exact He.frT_none q z, fun p hp => by
    obtain ⟨_, o, q, z⟩ := key p hp
    rw [q, He.emptyTab_eq z], of_decide_eq_true h5⟩
def hook (n : Nat) (fa : List (PySem.W.Frag → Bool)) (fn : List Dp) (tf : List Mk_) : PySem.W.Hook where
  α := AlX
  obs := fun s => obsG n fa fn tf s.heap.get?
  val := fun _ => (valT fn, true)
  says := fun _ h => ∃ K : PySem.W.Frag, K.In h ∧ Says fa fn K ∧ Tells tf h K
  of := fun _ _ e => ⟨_, He.frT_in, congrArg (fun z : AlX => z.1) e, tells_of (congrArg (fun z : AlX => z.2) e)⟩
  keeps := fun _ _ _ ⟨K, hK, c, t⟩ q => ⟨K, PySem.W.Frag.In.keeps hK q, c, t.hd, t.out, fun p hp => q _ _ (t.empty p hp), t.apart⟩
theorem obsG_eq {n : Nat} {fa : List (PySem.W.Frag → Bool)} {fn : List Dp} {tf : List Mk_} {g : Addr → Option Obj} {s : Shared} (h : ∀ a, g a = s.heap.get? a) : obsG n fa fn tf g = (hook n fa fn tf).obs s :=
  congrArg (obsG n fa fn tf) (funext h)
section
variable {fa : List (PySem.W.Frag → Bool)} {fn : List Dp} {K : PySem.W.Frag}
theorem Says.fact (c : Says fa fn K) (i : Nat) {f : PySem.W.Frag → Bool} (h : fa[i]? = some f := by rfl) : f K = true :=
  List.all_eq_true.mp (He.ba (show ((fa.all fun f => f K) && fn.all fun d => okA K (d.at_ K) d.d) = true from congrArg (fun z : Al => z.1) c)).1 f (List.mem_of_getElem? h)
theorem Says.def_ (c : Says fa fn K) (i : Nat) {d : Dp} (h : fn[i]? = some d := by rfl) : (∃ fd, FunD K d.d.name d.d.qual d.d.params d.d.body d.d.scope (d.d.dvs K) (d.d.kws K) (d.at_ K) fd) ∧ PySem.W.keepIn K (.ref (d.at_ K)) = true := by
  have c2 := (He.ba (show ((fa.all fun f => f K) && fn.all fun d => okA K (d.at_ K) d.d) = true from congrArg (fun z : Al => z.1) c)).2
  have c3 := List.all_eq_true.mp c2 d (List.mem_of_getElem? h)
  have e : (fn.map fun d => look K (d.at_ K))[i]? = (fn.map fun d => d.d.val)[i]? := congrArg (fun z : Al => z.2[i]?) c
  rw [List.getElem?_map, List.getElem?_map, h] at e
  exact ⟨fun_at (Option.some.inj e) c3, (He.ba c3).1⟩
end
/-! single facts -/
/-- where the property f of the class C has its getter -/
def propAt (K : PySem.W.Frag) (C : Addr) (f : Str) : Addr := match PySem.W.findIn K (.ref C) f with
  | some (some (.ref p)) => p
  | _ => 0
def getAt (K : PySem.W.Frag) (C : Addr) (f : Str) : Addr := match PySem.W.recIn K (propAt K C f) "property" with
  | some (.ref g :: _) => g
  | _ => 0
def propB (K : PySem.W.Frag) (C : Addr) (f : Str) : Bool := decide (PySem.W.findIn K (.ref C) f = some (some (.ref (propAt K C f)))) && (decide (PySem.W.specialIn K (.ref (propAt K C f)) "__get__" = some (some (.builtin "property.__get__"))) &&
  (decide (PySem.W.takesIn K (.ref (propAt K C f)) = some true) && (match PySem.W.recIn K (propAt K C f) "property" with
    | some (v :: _) => decide (v = .ref (getAt K C f))
    | _ => false)))
theorem prop_ok {K : PySem.W.Frag} {C : Addr} {f : Str} (h : propB K C f = true) : PropOf K C f (propAt K C f) (getAt K C f) := by
  obtain ⟨h1, h⟩ := He.ba h
  obtain ⟨h2, h⟩ := He.ba h
  obtain ⟨h3, h4⟩ := He.ba h
  refine ⟨of_decide_eq_true h1, of_decide_eq_true h2, of_decide_eq_true h3, ?_⟩
  cases e : PySem.W.recIn K (propAt K C f) "property" with
  | none => rw [e] at h4; cases h4
  | some l =>
    rw [e] at h4
    cases l with
    | nil => cases h4
    | cons v r => exact ⟨r, by rw [show v = _ from of_decide_eq_true h4]⟩
def bltB (x : Str) (id : String) (K : PySem.W.Frag) : Bool := decide (PySem.W.nsIn K mainGlobals x = some (some (.builtin id)))
theorem blt_ok {K : PySem.W.Frag} {h : Heap} {mg : Str → Option Value} (X : K.In h) (G : h.Ns mainGlobals mg) {x : Str} {id : String} (c : bltB x id K = true) : mg x = some (.builtin id) := PySem.W.mg_of X G (of_decide_eq_true c)
def fcB (f : He.Fa) (K : PySem.W.Frag) : Bool := f.ok K

/-- the class method m of the class C: its record, its def -/
def cmAt (K : PySem.W.Frag) (C : Addr) (m : Str) : Addr := match PySem.W.findIn K (.ref C) m with
  | some (some (.ref p)) => p
  | _ => 0
def cmFn (K : PySem.W.Frag) (C : Addr) (m : Str) : Addr := match PySem.W.recIn K (cmAt K C m) "classmethod" with
  | some (.ref g :: _) => g
  | _ => 0
def cmB (K : PySem.W.Frag) (C : Addr) (m : Str) : Bool := PySem.W.readsIn K C (.type "type") && (decide (PySem.W.specialIn K (.ref C) "__getattribute__" = some (some (.builtin "type.__getattribute__"))) && ((match PySem.W.findCls K (.ref C) (.type "type") m with
    | some (.get a b c d) => decide (a = .builtin "classmethod.__get__") && (decide (b = .ref (cmAt K C m)) && (decide (c = .none) && decide (d = .ref C)))
    | _ => false) && ((match PySem.W.recIn K (cmAt K C m) "classmethod" with
    | some (v :: _) => decide (v = .ref (cmFn K C m))
    | _ => false) && PySem.W.fnIn K (cmFn K C m))))
theorem cm_ok {K : PySem.W.Frag} {C : Addr} {m : Str} (h : cmB K C m = true) : ClX.CRead K C (.type "type") ∧ ClX.CMet K C (.type "type") m (cmAt K C m) (cmFn K C m) := by
  obtain ⟨h1, h⟩ := He.ba h
  obtain ⟨h2, h⟩ := He.ba h
  obtain ⟨h3, h⟩ := He.ba h
  obtain ⟨h4, h5⟩ := He.ba h
  refine ⟨⟨h1, of_decide_eq_true h2⟩, ?_, ?_, h5⟩
  · cases e : PySem.W.findCls K (.ref C) (.type "type") m with
    | none => rw [e] at h3; cases h3
    | some z =>
      rw [e] at h3
      cases z with
      | get a b c d =>
        obtain ⟨z1, z⟩ := He.ba (show (decide (a = .builtin "classmethod.__get__") && (decide (b = .ref (cmAt K C m)) && (decide (c = .none) && decide (d = .ref C)))) = true from h3)
        obtain ⟨z2, z⟩ := He.ba z
        obtain ⟨z3, z4⟩ := He.ba z
        rw [of_decide_eq_true z1, of_decide_eq_true z2, of_decide_eq_true z3, of_decide_eq_true z4]
      | _ => cases h3
  · cases e : PySem.W.recIn K (cmAt K C m) "classmethod" with
    | none => rw [e] at h4; cases h4
    | some l =>
      rw [e] at h4
      cases l with
      | nil => cases h4
      | cons v r => exact ⟨r, by rw [show v = _ from of_decide_eq_true h4]⟩
/-- a tuple of texts of the module -/
def strsB : List Value → List Str → Bool
  | [], [] => true
  | .str x _ :: r, y :: s => decide (x = y) && strsB r s
  | _, _ => false
theorem strs_ok : ∀ {l : List Value} {ss : List Str}, strsB l ss = true → Vals (ss.map V.str) l
  | [], [], _ => .nil
  | [], _ :: _, h => by cases h
  | v :: r, ss, h => by
    cases v with
    | str x t =>
      cases ss with
      | nil => cases h
      | cons y s =>
        obtain ⟨h1, h2⟩ := He.ba (show (decide (x = y) && strsB r s) = true from h)
        rw [List.map_cons]
        exact .cons ⟨t, by rw [of_decide_eq_true h1]⟩ (strs_ok h2)
    | _ => cases h
def tupB (x : Str) (ss : List Str) (K : PySem.W.Frag) : Bool := match K.lookup (He.ga K x) with
  | some ⟨.type c, _, .seq its _, _⟩ => decide (c = "tuple") && (decide (its.size ≤ 1000) && strsB its.toList ss)
  | _ => false
theorem tup_ok {K : PySem.W.Frag} {x : Str} {ss : List Str} (h : tupB x ss K = true) (H : Hp) : SqT K H (He.ga K x) (ss.map V.str) := by
  unfold tupB at h
  cases q : K.lookup (He.ga K x) with
  | none => rw [q] at h; cases h
  | some o =>
    obtain ⟨oc, od, dt, osl⟩ := o
    rw [q] at h
    cases oc with
    | type c =>
      cases dt with
      | seq its n =>
        obtain ⟨h1, h⟩ := He.ba (show (decide (c = "tuple") && (decide (its.size ≤ 1000) && strsB its.toList ss)) = true from h)
        obtain ⟨h2, h3⟩ := He.ba h
        refine .inr ⟨_, its, n, q, congrArg Value.type (of_decide_eq_true h1), rfl, ?_, strs_ok h3⟩
        have := of_decide_eq_true h2
        rw [sizeLine_eq]
        omega
      | _ => cases h
    | _ => cases dt <;> cases h
/-- a place, as a value -/
abbrev vnI (i : Nat) : V := .int (i : Int)

/-! named readings -/
namespace Rd
def rJoin (K : PySem.W.Frag) : V → List V → Hp → VK → Prop := fun x xs H Q => ∃ a p, ∃ ys : List Str, x = .str a ∧ xs = [.ref p] ∧ (SqL K H p (ys.map V.str) ∨ SqT K H p (ys.map V.str)) ∧ (ys.map (·.length)).sum + ys.length * a.length ≤ 16777216 ∧ Q (.str (Txt.join a ys)) H
def rSplit : V → List V → Hp → VK → Prop := fun x xs H Q => ∃ a b, x = .str a ∧ xs = [.str b] ∧ (b.length == 0) = false ∧ a.length + 2 ≤ sizeLine ∧ rNewStrs (Txt.split a b) H Q
def rMax2 : List V → Hp → VK → Prop := fun xs H Q => ∃ i j, xs = [.int i, .int j] ∧ Q (.int (if j > i then j else i)) H
def rMin2 : List V → Hp → VK → Prop := fun xs H Q => ∃ i j, xs = [.int i, .int j] ∧ Q (.int (if j < i then j else i)) H
def rIsN : R2 := fun x y H Q => y = .non ∧ Q (.bl (decide (x = .non))) H
def rNotN : R2 := fun x y H Q => y = .non ∧ Q (.bl (!decide (x = .non))) H
def rLst (K : PySem.W.Frag) : List V → Hp → VK → Prop := fun xs H Q => ∃ p ys, xs = [.ref p] ∧ (SqL K H p ys ∨ SqT K H p ys) ∧ ∀ l, H l = none → Q (.ref l) (upd H l (.lst ys))
def rTpl (K : PySem.W.Frag) : List V → Hp → VK → Prop := fun xs H Q => ∃ p ys, xs = [.ref p] ∧ ((SqL K H p ys ∧ ∀ l, H l = none → Q (.ref l) (upd H l (.tup ys))) ∨ (SqT K H p ys ∧ Q (.ref p) H))
def rStrI : List V → Hp → VK → Prop := fun xs H Q => ∃ i : Int, xs = [.int i] ∧ i.natAbs.log2 < 1920 ∧ Q (.str (toString i)) H
def rAddS : R2 := fun x y H Q => ∃ i j, x = .str i ∧ y = .str j ∧ i.length + j.length ≤ sizeLine ∧ Q (.str (i ++ j)) H
def rLenStr : List V → Hp → VK → Prop := fun xs H Q => ∃ z, xs = [.str z] ∧ z.length ≤ sizeLine ∧ Q (.int z.length) H
end Rd
section
variable {X : Cx} {o e : Expr} {to te : TE} {K : PySem.W.Frag}
theorem starAK {e : Expr} {p : Pos} {es : List Expr} {te : TE} {t : TA} (he : PE X e te) (hr : PA X es t) (hK : X.K = K := by rfl) (hs : starEach (.Starred e p :: es) X.env = (true, eval e X.env) :: starEach es X.env := by rfl) : PA X (.Starred e p :: es) (StX.tStar K te t) := hK ▸ StX.pa_star he hr hs
theorem ixLK (hK : X.K = K := by rfl) : IxR X (rIxL K) := hK ▸ ix_list
theorem ixTK (hK : X.K = K := by rfl) : IxR X (rIxT K) := hK ▸ ix_tup
theorem ixSK (hK : X.K = K := by rfl) : IxR X (rIx K) := hK ▸ ix_seq
theorem lenK (hK : X.K = K := by rfl) : CallR X (.builtin "len") (Evl.rLenS K) := hK ▸ call_len_seq
theorem tplK (hK : X.K = K := by rfl) : CallR X (.type "tuple") (Rd.rTpl K) := hK ▸ call_tuple_of
theorem lstK (hK : X.K = K := by rfl) : CallR X (.type "list") (Rd.rLst K) := hK ▸ call_list_of
theorem slLK (hK : X.K = K := by rfl) : SlR X (rSlL K) := hK ▸ sl_list
theorem slAK (hK : X.K = K := by rfl) : SlR X (rSlA K) := hK ▸ sl_tupA
theorem eqDK (hu : X.A.units + 64 < cLine) (hK : X.K = K := by rfl) : OpR X (compareOp .Eq) (rEqD K) := hK ▸ op_eqD hu
theorem neDK (hu : X.A.units + 64 < cLine) (hK : X.K = K := by rfl) : OpR X (compareOp .NotEq) (rNeD K) := hK ▸ op_neD hu
theorem inK (hK : X.K = K := by rfl) : OpR X (compareOp .In) (rIn K false) := hK ▸ op_in_seq
theorem notInK (hK : X.K = K := by rfl) : OpR X (compareOp .NotIn) (rIn K true) := hK ▸ op_notIn_seq
theorem sumTK (hc : X.calm = true := by rfl) (hK : X.K = K := by rfl) : CallR X (.builtin "sum") (rSumT K) := hK ▸ cr_sumT hc
theorem sumLK (hc : X.calm = true := by rfl) (hK : X.K = K := by rfl) : CallR X (.builtin "sum") (rSum K) := hK ▸ cr_sum hc
theorem maxLK (hc : X.calm = true := by rfl) (hK : X.K = K := by rfl) : CallR X (.builtin "max") (rMax K) := hK ▸ cr_max hc
theorem minLK (hc : X.calm = true := by rfl) (hK : X.K = K := by rfl) : CallR X (.builtin "min") (rMin K) := hK ▸ cr_min hc
theorem allLK (hc : X.calm = true := by rfl) (hK : X.K = K := by rfl) : CallR X (.builtin "all") (rAll K) := hK ▸ cr_all hc
theorem isiK (hK : X.K = K := by rfl) : CallR X (.builtin "isinstance") (rIsi K) := hK ▸ call_isi
theorem catAK (hK : X.K = K := by rfl) : OpR X (binaryOp .Add) (rCatA K) := hK ▸ op_catA
theorem pi_listK {tg l : Expr} {tl : TE} (hl : PE X l tl) (hK : X.K = K := by rfl) : PI X tg l (iList K tl) := hK ▸ pi_list hl
theorem pi_tupK {tg l : Expr} {tl : TE} (hl : PE X l tl) (hK : X.K = K := by rfl) : PI X tg l (iTup K tl) := hK ▸ pi_tup hl
theorem pe_joinR {apos pos : Pos} (ho : PE X o to) (he : PE X e te) (hK : X.K = K := by rfl) (hs : starEach [e] X.env = [(false, eval e X.env)] := by rfl) (hbase : attributeBase o "join" X.env (eval o X.env) = eval o X.env := by rfl) (hline : (apos.endLine == pos.line) = true := by rfl) :
    PE X (.Call (.Attribute o "join" apos) [e] [] pos) (tM1 (Rd.rJoin K) to te) := by
  subst hK
  exact pe_join ho he hs hbase hline
theorem pe_splitR {apos pos : Pos} (ho : PE X o to) (he : PE X e te) (hs : starEach [e] X.env = [(false, eval e X.env)] := by rfl) (hbase : attributeBase o "split" X.env (eval o X.env) = eval o X.env := by rfl) (hline : (apos.endLine == pos.line) = true := by rfl) :
    PE X (.Call (.Attribute o "split" apos) [e] [] pos) (tM1 Rd.rSplit to te) := pe_split ho he hs hbase hline
end
/-! small words -/
theorem own_cx {X : Cx} {K : Value → Shared → Prop} {E₁ : Value → Shared → Prop} (hx : X.xe = fun e s' => wpAny (model X.prog X.w) X.A (leaving X.env e) (fun _ s'' => K e s'') E₁ s' := by rfl) : PassesOwn (model X.prog X.w) X.A X.env X.xe := passes_of hx
theorem FnP.okF {P : Program} {w : World} {K : PySem.W.Frag} {mg : Str → Option Value} {base : Heap} {x qual : Str} {st : Stmt} {f : Addr} {N ps : List Str} {k : Nat} {sp : Sp} (F : ∃ fd, FnP K x qual st f fd) (S : FnScope N ps (defScope st))
    (hb : ∀ (kV doc pm : Value) (an : Option Addr) (cdv ct : Value) (us : List Value), us.length = ps.length → bindArgs (PySem.W.fnOf x qual (defArgs st) (defBody st) (defScope st) .none kV doc pm an cdv ct) ⟨us, []⟩ = pure (ps.zip us))
    (len : ∀ vs H Q E, sp vs H Q E → vs.length = ps.length)
    (hbody : ∀ (cdv : Value) (A : Around) (outer : List Env) (s : Shared) (H : Hp) (vs : List V) (Q : VK) (E : XK), Room k (A.deeper (envOfC qual (defScope st) s.heap.objs.size f cdv)) → sp vs H Q E →
      ∃ t, PSs (cxOf (L2.CX P w) P w K mg base N qual (defScope st) f cdv A outer s H E) (defBody st) t ∧ t { nx := fun _ H' => Q .non H', rt := Q } (start N vs) H) : OkF P w K mg base (k + 1) f ps sp := by
  obtain ⟨fd, F⟩ := F
  exact ⟨⟨fd, F.ok S len hbody, F.bindsN hb⟩, F.kp⟩
/-- the law's own def: nothing leaves it -/
theorem okLaw {P : Program} {w : World} {K : PySem.W.Frag} {mg : Str → Option Value} {base : Heap} {x qual : Str} {st : Stmt} {f : Addr} {fd : FuncData} {N ps : List Str} {k : Nat} {sp : Sp} (F : FnP K x qual st f fd) (S : FnScope N ps (defScope st)) (len : ∀ vs H Q E, sp vs H Q E → vs.length = ps.length)
    (hbody : ∀ (cdv : Value) (A : Around) (outer : List Env) (s : Shared) (H : Hp) (vs : List V) (Q : VK) (E : XK), Room k (A.deeper (envOfC qual (defScope st) s.heap.objs.size f cdv)) → sp vs H Q E →
      ∃ t, PSs (cxOf CX0 P w K mg base N qual (defScope st) f cdv A outer s H E).nox (defBody st) t ∧ t { nx := fun _ H' => Q .non H', rt := Q } (start N vs) H) : FnOk P w K mg base CX0 (k + 1) f fd ps sp :=
  F.ok S len fun cdv A outer s H vs Q E hr h => by
    obtain ⟨t, h1, h2⟩ := hbody cdv A outer s H vs Q E hr h
    exact ⟨t, h1.nox, h2⟩
def spLaw (K : PySem.W.Frag) : Sp := fun vs H Q _ => ∃ (a : Addr) (ns : List Int), vs = [.ref a] ∧ SqL K H a (ns.map V.int) ∧ ns.length ≤ 63 ∧ ∀ H', Q (.bl true) H'
/-- the same, the tables of the defs that make functions there -/
def spLawT (K : PySem.W.Frag) (T : List (Addr × Str)) : Sp := fun vs H Q _ => ∃ (a : Addr) (ns : List Int), vs = [.ref a] ∧ SqL K H a (ns.map V.int) ∧ ns.length ≤ 63 ∧ LamX.Tabs T H ∧ ∀ H', Q (.bl true) H'
/-- all but what stands at d is as it was -/
def But (d : Addr) (H H' : Hp) : Prop := ∀ b o, b ≠ d → H b = some o → H' b = some o
end Tk
/-! ### B. The text by places -/
namespace Tk
open PySem PySem.Spec PyProof.Rows L2
def top (i : Nat) : Stmt := PySem.Challenge.pw_ticketwrap_k01_takes_and_calls.main.body.getD i (.Pass ⟨0, 0, 0, 0⟩)
abbrev s_is_integer_within : Stmt := top 8
abbrev N_is_integer_within : List Str := ["value", "low", "high"]
theorem sc_is_integer_within : FnScope N_is_integer_within ["value", "low", "high"] (defScope s_is_integer_within) := ⟨rfl, rfl, rfl, by decide +kernel, rfl, by decide +kernel, by decide +kernel⟩
abbrev s_check_tick : Stmt := top 9
abbrev N_check_tick : List Str := ["tick"]
theorem sc_check_tick : FnScope N_check_tick ["tick"] (defScope s_check_tick) := ⟨rfl, rfl, rfl, by decide +kernel, rfl, by decide +kernel, by decide +kernel⟩
abbrev s_first_invalid_item : Stmt := top 16
abbrev N_first_invalid_item : List Str := ["pattern", "index", "item"]
theorem sc_first_invalid_item : FnScope N_first_invalid_item ["pattern"] (defScope s_first_invalid_item) := ⟨rfl, rfl, rfl, by decide +kernel, rfl, by decide +kernel, by decide +kernel⟩
abbrev s_check_pattern : Stmt := top 17
abbrev N_check_pattern : List Str := ["part", "pattern", "index"]
theorem sc_check_pattern : FnScope N_check_pattern ["part", "pattern"] (defScope s_check_pattern) := ⟨rfl, rfl, rfl, by decide +kernel, rfl, by decide +kernel, by decide +kernel⟩
abbrev s_check_hall : Stmt := top 18
abbrev N_check_hall : List Str := ["modulus", "takes", "calls", "lateness"]
theorem sc_check_hall : FnScope N_check_hall ["modulus", "takes", "calls", "lateness"] (defScope s_check_hall) := ⟨rfl, rfl, rfl, by decide +kernel, rfl, by decide +kernel, by decide +kernel⟩
abbrev s_count_calls : Stmt := top 19
abbrev N_count_calls : List Str := ["takes", "calls", "ticks", "called", "waiting", "tick", "now"]
theorem sc_count_calls : FnScope N_count_calls ["takes", "calls", "ticks"] (defScope s_count_calls) := ⟨rfl, rfl, rfl, by decide +kernel, rfl, by decide +kernel, by decide +kernel⟩
abbrev s_init : Stmt := inClass (top 20) 0
abbrev N_init : List Str := ["self", "modulus", "takes", "calls", "lateness"]
theorem sc_init : FnScope N_init ["self", "modulus", "takes", "calls", "lateness"] (defScope s_init) := ⟨rfl, rfl, rfl, by decide +kernel, rfl, by decide +kernel, by decide +kernel⟩
abbrev s_period : Stmt := inClass (top 20) 1
abbrev N_period : List Str := ["self"]
theorem sc_period : FnScope N_period ["self"] (defScope s_period) := ⟨rfl, rfl, rfl, by decide +kernel, rfl, by decide +kernel, by decide +kernel⟩
abbrev s_taken : Stmt := inClass (top 20) 3
abbrev N_taken : List Str := ["self", "tick", "rounds", "rest"]
theorem sc_taken : FnScope N_taken ["self", "tick"] (defScope s_taken) := ⟨rfl, rfl, rfl, by decide +kernel, rfl, by decide +kernel, by decide +kernel⟩
abbrev s_called : Stmt := inClass (top 20) 4
abbrev N_called : List Str := ["self", "tick", "period", "skipped", "in_period"]
theorem sc_called : FnScope N_called ["self", "tick"] (defScope s_called) := ⟨rfl, rfl, rfl, by decide +kernel, rfl, by decide +kernel, by decide +kernel⟩
abbrev s_waiting : Stmt := inClass (top 20) 5
abbrev N_waiting : List Str := ["self", "tick"]
theorem sc_waiting : FnScope N_waiting ["self", "tick"] (defScope s_waiting) := ⟨rfl, rfl, rfl, by decide +kernel, rfl, by decide +kernel, by decide +kernel⟩
abbrev s_events : Stmt := inClass (top 20) 6
abbrev N_events : List Str := ["self", "start", "end", "tick", "number"]
theorem sc_events : GScope N_events ["self", "start", "end"] (defScope s_events) := ⟨rfl, rfl, rfl, by decide +kernel, rfl, by decide +kernel, by decide +kernel⟩
abbrev s__law_random : Stmt := top 22
abbrev N__law_random : List Str := ["_law_script", "_law_salt", "_law_seed", "_law_cell"]
theorem sc__law_random : FnScope N__law_random ["_law_script", "_law_salt"] (defScope s__law_random) := ⟨rfl, rfl, rfl, by decide +kernel, rfl, by decide +kernel, by decide +kernel⟩
abbrev s__law_below : Stmt := top 23
abbrev N__law_below : List Str := ["_law_d", "_law_limit", "_law_result"]
theorem sc__law_below : FnScope N__law_below ["_law_d", "_law_limit"] (defScope s__law_below) := ⟨rfl, rfl, rfl, by decide +kernel, rfl, by decide +kernel, by decide +kernel⟩
abbrev s__law_pattern : Stmt := top 24
abbrev N__law_pattern : List Str := ["_law_d", "_law_most", "_law_high", "_law_k"]
theorem sc__law_pattern : FnScope N__law_pattern ["_law_d", "_law_most"] (defScope s__law_pattern) := ⟨rfl, rfl, rfl, by decide +kernel, rfl, by decide +kernel, by decide +kernel⟩
abbrev s__law_parts : Stmt := top 25
abbrev N__law_parts : List Str := ["_law_d", "_law_most", "_law_modulus", "_law_lateness"]
theorem sc__law_parts : FnScope N__law_parts ["_law_d", "_law_most"] (defScope s__law_parts) := ⟨rfl, rfl, rfl, by decide +kernel, rfl, by decide +kernel, by decide +kernel⟩
abbrev s__law_hall : Stmt := top 26
abbrev N__law_hall : List Str := ["_law_parts_here"]
theorem sc__law_hall : FnScope N__law_hall ["_law_parts_here"] (defScope s__law_hall) := ⟨rfl, rfl, rfl, by decide +kernel, rfl, by decide +kernel, by decide +kernel⟩
abbrev s__law_length : Stmt := top 27
abbrev N__law_length : List Str := ["_law_parts_here", "_law_length_here"]
theorem sc__law_length : FnScope N__law_length ["_law_parts_here"] (defScope s__law_length) := ⟨rfl, rfl, rfl, by decide +kernel, rfl, by decide +kernel, by decide +kernel⟩
abbrev s__law_counts : Stmt := top 28
abbrev N__law_counts : List Str := ["_law_parts_here", "_law_ticks", "_law_taken", "_law_called", "_law_tick"]
theorem sc__law_counts : FnScope N__law_counts ["_law_parts_here", "_law_ticks"] (defScope s__law_counts) := ⟨rfl, rfl, rfl, by decide +kernel, rfl, by decide +kernel, by decide +kernel⟩
abbrev s__law_equal : Stmt := top 29
abbrev N__law_equal : List Str := ["_law_actual", "_law_expected", "_law_k"]
theorem sc__law_equal : FnScope N__law_equal ["_law_actual", "_law_expected"] (defScope s__law_equal) := ⟨rfl, rfl, rfl, by decide +kernel, rfl, by decide +kernel, by decide +kernel⟩
abbrev s_law : Stmt := top 30
abbrev N_law : List Str := ["_law_script", "_law_d", "_law_step", "_law_parts_here", "_law_hall_here", "_law_length_here", "_law_taken", "_law_called", "_law_tick", "_law_start", "_law_end", "_law_expected", "_law_number"]
theorem sc_law : FnScope N_law ["_law_script"] (defScope s_law) := ⟨rfl, rfl, rfl, by decide +kernel, rfl, by decide +kernel, by decide +kernel⟩
structure Txt (K : PySem.W.Frag) (mg : Str → Option Value) : Prop where
  g_abs : mg "abs" = none
  g_all : mg "all" = none
  g_bool : mg "bool" = none
  g_divmod : mg "divmod" = none
  g_enumerate : mg "enumerate" = none
  g_int : mg "int" = none
  g_isinstance : mg "isinstance" = none
  g_len : mg "len" = none
  g_list : mg "list" = none
  g_max : mg "max" = none
  g_min : mg "min" = none
  g_range : mg "range" = none
  g_str : mg "str" = none
  g_sum : mg "sum" = none
  g_tuple : mg "tuple" = none
  g_lcm : mg "lcm" = some (.builtin "math.lcm")
  c_LAST_TICK : ∃ t, mg "LAST_TICK" = some (.int 1000000000000000000 t)
  c_LEAST_MODULUS : ∃ t, mg "LEAST_MODULUS" = some (.int 2 t)
  c_GREATEST_MODULUS : ∃ t, mg "GREATEST_MODULUS" = some (.int 10000 t)
  c_MOST_ITEMS : ∃ t, mg "MOST_ITEMS" = some (.int 12 t)
  c_GREATEST_ITEM : ∃ t, mg "GREATEST_ITEM" = some (.int 9 t)
  c_GREATEST_LATENESS : ∃ t, mg "GREATEST_LATENESS" = some (.int 99 t)
  g_is_integer_within : mg "is_integer_within" = some (.ref (He.ga K "is_integer_within"))
  g_check_tick : mg "check_tick" = some (.ref (He.ga K "check_tick"))
  g_first_invalid_item : mg "first_invalid_item" = some (.ref (He.ga K "first_invalid_item"))
  g_check_pattern : mg "check_pattern" = some (.ref (He.ga K "check_pattern"))
  g_check_hall : mg "check_hall" = some (.ref (He.ga K "check_hall"))
  g_count_calls : mg "count_calls" = some (.ref (He.ga K "count_calls"))
  g__law_random : mg "_law_random" = some (.ref (He.ga K "_law_random"))
  g__law_below : mg "_law_below" = some (.ref (He.ga K "_law_below"))
  g__law_pattern : mg "_law_pattern" = some (.ref (He.ga K "_law_pattern"))
  g__law_parts : mg "_law_parts" = some (.ref (He.ga K "_law_parts"))
  g__law_hall : mg "_law_hall" = some (.ref (He.ga K "_law_hall"))
  g__law_length : mg "_law_length" = some (.ref (He.ga K "_law_length"))
  g__law_counts : mg "_law_counts" = some (.ref (He.ga K "_law_counts"))
  g__law_equal : mg "_law_equal" = some (.ref (He.ga K "_law_equal"))
  g_Hall : mg "Hall" = some (.ref (He.ga K "Hall"))
  cl_Hall : Cls K (He.ga K "Hall")
  mk_Hall : Mk K (He.ga K "Hall") (He.ma K (He.ga K "Hall") "__init__")
  n_modulus : NoAttr K (He.ga K "Hall") "modulus"
  n_takes : NoAttr K (He.ga K "Hall") "takes"
  n_calls : NoAttr K (He.ga K "Hall") "calls"
  n_lateness : NoAttr K (He.ga K "Hall") "lateness"
  n__called : NoAttr K (He.ga K "Hall") "_called"
  m_taken : Meth K (He.ga K "Hall") "taken" (He.ma K (He.ga K "Hall") "taken")
  m_called : Meth K (He.ga K "Hall") "called" (He.ma K (He.ga K "Hall") "called")
  m_waiting : Meth K (He.ga K "Hall") "waiting" (He.ma K (He.ga K "Hall") "waiting")
  m_events : Meth K (He.ga K "Hall") "events" (He.ma K (He.ga K "Hall") "events")
  p_period : PropOf K (He.ga K "Hall") "period" (propAt K (He.ga K "Hall") "period") (getAt K (He.ga K "Hall") "period")
  f_is_integer_within : ∃ fd, FnP K "is_integer_within" "is_integer_within" s_is_integer_within (He.ga K "is_integer_within") fd
  f_check_tick : ∃ fd, FnP K "check_tick" "check_tick" s_check_tick (He.ga K "check_tick") fd
  f_first_invalid_item : ∃ fd, FnP K "first_invalid_item" "first_invalid_item" s_first_invalid_item (He.ga K "first_invalid_item") fd
  f_check_pattern : ∃ fd, FnP K "check_pattern" "check_pattern" s_check_pattern (He.ga K "check_pattern") fd
  f_check_hall : ∃ fd, FnP K "check_hall" "check_hall" s_check_hall (He.ga K "check_hall") fd
  f_count_calls : ∃ fd, FnP K "count_calls" "count_calls" s_count_calls (He.ga K "count_calls") fd
  f_init : ∃ fd, FnP K "__init__" "Hall.__init__" s_init (He.ma K (He.ga K "Hall") "__init__") fd
  f_period : ∃ fd, FnP K "period" "Hall.period" s_period (getAt K (He.ga K "Hall") "period") fd
  f_taken : ∃ fd, FnP K "taken" "Hall.taken" s_taken (He.ma K (He.ga K "Hall") "taken") fd
  f_called : ∃ fd, FnP K "called" "Hall.called" s_called (He.ma K (He.ga K "Hall") "called") fd
  f_waiting : ∃ fd, FnP K "waiting" "Hall.waiting" s_waiting (He.ma K (He.ga K "Hall") "waiting") fd
  f_events : ∃ fd, FnP K "events" "Hall.events" s_events (He.ma K (He.ga K "Hall") "events") fd
  f__law_random : ∃ fd, FnP K "_law_random" "_law_random" s__law_random (He.ga K "_law_random") fd
  f__law_below : ∃ fd, FnP K "_law_below" "_law_below" s__law_below (He.ga K "_law_below") fd
  f__law_pattern : ∃ fd, FnP K "_law_pattern" "_law_pattern" s__law_pattern (He.ga K "_law_pattern") fd
  f__law_parts : ∃ fd, FnP K "_law_parts" "_law_parts" s__law_parts (He.ga K "_law_parts") fd
  f__law_hall : ∃ fd, FnP K "_law_hall" "_law_hall" s__law_hall (He.ga K "_law_hall") fd
  f__law_length : ∃ fd, FnP K "_law_length" "_law_length" s__law_length (He.ga K "_law_length") fd
  f__law_counts : ∃ fd, FnP K "_law_counts" "_law_counts" s__law_counts (He.ga K "_law_counts") fd
  f__law_equal : ∃ fd, FnP K "_law_equal" "_law_equal" s__law_equal (He.ga K "_law_equal") fd
def fcts : List (PySem.W.Frag → Bool) := [fcB (.free "abs"), fcB (.free "all"), fcB (.free "bool"), fcB (.free "divmod"), fcB (.free "enumerate"), fcB (.free "int"), fcB (.free "isinstance"), fcB (.free "len"), fcB (.free "list"), fcB (.free "max"), fcB (.free "min"), fcB (.free "range"), fcB (.free "str"), fcB (.free "sum"), fcB (.free "tuple"), bltB "lcm" "math.lcm", fcB (.int "LAST_TICK" 1000000000000000000), fcB (.int "LEAST_MODULUS" 2), fcB (.int "GREATEST_MODULUS" 10000), fcB (.int "MOST_ITEMS" 12), fcB (.int "GREATEST_ITEM" 9), fcB (.int "GREATEST_LATENESS" 99), fcB (.glo "is_integer_within"), fcB (.glo "check_tick"), fcB (.glo "first_invalid_item"), fcB (.glo "check_pattern"), fcB (.glo "check_hall"), fcB (.glo "count_calls"), fcB (.glo "_law_random"), fcB (.glo "_law_below"), fcB (.glo "_law_pattern"), fcB (.glo "_law_parts"), fcB (.glo "_law_hall"), fcB (.glo "_law_length"), fcB (.glo "_law_counts"), fcB (.glo "_law_equal"), fcB (.glo "Hall"), fcB (.cls "Hall"), fcB (.mkr "Hall"), fcB (.noat "Hall" "modulus"), fcB (.noat "Hall" "takes"), fcB (.noat "Hall" "calls"), fcB (.noat "Hall" "lateness"), fcB (.noat "Hall" "_called"), fcB (.meth "Hall" "taken"), fcB (.meth "Hall" "called"), fcB (.meth "Hall" "waiting"), fcB (.meth "Hall" "events"), (fun K => propB K (He.ga K "Hall") "period"), fcB (.glo "law")]
def lawF : Nat := 49
def dps : List Dp := [⟨fun K => (He.ga K "is_integer_within"), ⟨("is_integer_within", none), "is_integer_within", "is_integer_within", defArgs s_is_integer_within, defBody s_is_integer_within, defScope s_is_integer_within, [], []⟩⟩, ⟨fun K => (He.ga K "check_tick"), ⟨("check_tick", none), "check_tick", "check_tick", defArgs s_check_tick, defBody s_check_tick, defScope s_check_tick, [], []⟩⟩, ⟨fun K => (He.ga K "first_invalid_item"), ⟨("first_invalid_item", none), "first_invalid_item", "first_invalid_item", defArgs s_first_invalid_item, defBody s_first_invalid_item, defScope s_first_invalid_item, [], []⟩⟩, ⟨fun K => (He.ga K "check_pattern"), ⟨("check_pattern", none), "check_pattern", "check_pattern", defArgs s_check_pattern, defBody s_check_pattern, defScope s_check_pattern, [], []⟩⟩, ⟨fun K => (He.ga K "check_hall"), ⟨("check_hall", none), "check_hall", "check_hall", defArgs s_check_hall, defBody s_check_hall, defScope s_check_hall, [], []⟩⟩, ⟨fun K => (He.ga K "count_calls"), ⟨("count_calls", none), "count_calls", "count_calls", defArgs s_count_calls, defBody s_count_calls, defScope s_count_calls, [], []⟩⟩, ⟨fun K => (He.ma K (He.ga K "Hall") "__init__"), ⟨("__init__", none), "__init__", "Hall.__init__", defArgs s_init, defBody s_init, defScope s_init, [], []⟩⟩, ⟨fun K => (getAt K (He.ga K "Hall") "period"), ⟨("period", none), "period", "Hall.period", defArgs s_period, defBody s_period, defScope s_period, [], []⟩⟩, ⟨fun K => (He.ma K (He.ga K "Hall") "taken"), ⟨("taken", none), "taken", "Hall.taken", defArgs s_taken, defBody s_taken, defScope s_taken, [], []⟩⟩, ⟨fun K => (He.ma K (He.ga K "Hall") "called"), ⟨("called", none), "called", "Hall.called", defArgs s_called, defBody s_called, defScope s_called, [], []⟩⟩, ⟨fun K => (He.ma K (He.ga K "Hall") "waiting"), ⟨("waiting", none), "waiting", "Hall.waiting", defArgs s_waiting, defBody s_waiting, defScope s_waiting, [], []⟩⟩, ⟨fun K => (He.ma K (He.ga K "Hall") "events"), ⟨("events", none), "events", "Hall.events", defArgs s_events, defBody s_events, defScope s_events, [], []⟩⟩, ⟨fun K => (He.ga K "_law_random"), ⟨("_law_random", none), "_law_random", "_law_random", defArgs s__law_random, defBody s__law_random, defScope s__law_random, [], []⟩⟩, ⟨fun K => (He.ga K "_law_below"), ⟨("_law_below", none), "_law_below", "_law_below", defArgs s__law_below, defBody s__law_below, defScope s__law_below, [], []⟩⟩, ⟨fun K => (He.ga K "_law_pattern"), ⟨("_law_pattern", none), "_law_pattern", "_law_pattern", defArgs s__law_pattern, defBody s__law_pattern, defScope s__law_pattern, [], []⟩⟩, ⟨fun K => (He.ga K "_law_parts"), ⟨("_law_parts", none), "_law_parts", "_law_parts", defArgs s__law_parts, defBody s__law_parts, defScope s__law_parts, [], []⟩⟩, ⟨fun K => (He.ga K "_law_hall"), ⟨("_law_hall", none), "_law_hall", "_law_hall", defArgs s__law_hall, defBody s__law_hall, defScope s__law_hall, [], []⟩⟩, ⟨fun K => (He.ga K "_law_length"), ⟨("_law_length", none), "_law_length", "_law_length", defArgs s__law_length, defBody s__law_length, defScope s__law_length, [], []⟩⟩, ⟨fun K => (He.ga K "_law_counts"), ⟨("_law_counts", none), "_law_counts", "_law_counts", defArgs s__law_counts, defBody s__law_counts, defScope s__law_counts, [], []⟩⟩, ⟨fun K => (He.ga K "_law_equal"), ⟨("_law_equal", none), "_law_equal", "_law_equal", defArgs s__law_equal, defBody s__law_equal, defScope s__law_equal, [], []⟩⟩, ⟨fun K => (He.ga K "law"), ⟨("law", none), "law", "law", defArgs s_law, defBody s_law, defScope s_law, [], []⟩⟩]
def names : List PySem.Str := (["_wall", "HallError", "InvalidHall", "InvalidTick", "LAST_TICK", "is_integer_within", "check_tick", "LEAST_MODULUS", "GREATEST_MODULUS", "MOST_ITEMS", "GREATEST_ITEM", "GREATEST_LATENESS"] : List PySem.Str) ++ (["first_invalid_item", "check_pattern", "check_hall", "count_calls", "Hall", "_law_random", "_law_below", "_law_pattern", "_law_parts", "_law_hall", "_law_length", "_law_counts"] : List PySem.Str) ++ (["_law_equal"] : List PySem.Str)
abbrev R : PySem.W.OpenRow := PySem.W.OpenLaw.row PySem.Challenge.rw_ticketwrap_k01_takes_and_calls
def mkl : List (Mk_ × Str) := []
abbrev mks : List Mk_ := mkl.map fun p => p.1
abbrev hk : PySem.W.Hook := hook 6 fcts dps mks
def ob (s : PySem.W.SharedT) : AlX := obsG 6 fcts dps mks (HeadRun.getT s)
theorem ob_eq (s : PySem.W.SharedT) : ob s = hk.obs s.abs := obsG_eq (HeadRun.getT_eq s)
def lawI : Nat := 30
end Tk
namespace Tk
open PySem PySem.Spec PyProof.Rows L2
theorem run (w : World) : HeadRun.RunEqI R (PySem.W.view R.prog [0, 30]) hk ob 20000 names w := by
  unfold HeadRun.RunEqI
  kernel_rfl
theorem txt {K : PySem.W.Frag} {h : Heap} {mg : Str → Option Value} (X : K.In h) (G : h.Ns mainGlobals mg) (c : Says fcts dps K) : Txt K mg where
  g_abs := He.free_ok X G (c.fact 0 rfl)
  g_all := He.free_ok X G (c.fact 1 rfl)
  g_bool := He.free_ok X G (c.fact 2 rfl)
  g_divmod := He.free_ok X G (c.fact 3 rfl)
  g_enumerate := He.free_ok X G (c.fact 4 rfl)
  g_int := He.free_ok X G (c.fact 5 rfl)
  g_isinstance := He.free_ok X G (c.fact 6 rfl)
  g_len := He.free_ok X G (c.fact 7 rfl)
  g_list := He.free_ok X G (c.fact 8 rfl)
  g_max := He.free_ok X G (c.fact 9 rfl)
  g_min := He.free_ok X G (c.fact 10 rfl)
  g_range := He.free_ok X G (c.fact 11 rfl)
  g_str := He.free_ok X G (c.fact 12 rfl)
  g_sum := He.free_ok X G (c.fact 13 rfl)
  g_tuple := He.free_ok X G (c.fact 14 rfl)
  g_lcm := blt_ok X G (c.fact 15 rfl)
  c_LAST_TICK := He.int_ok X G (c.fact 16 rfl)
  c_LEAST_MODULUS := He.int_ok X G (c.fact 17 rfl)
  c_GREATEST_MODULUS := He.int_ok X G (c.fact 18 rfl)
  c_MOST_ITEMS := He.int_ok X G (c.fact 19 rfl)
  c_GREATEST_ITEM := He.int_ok X G (c.fact 20 rfl)
  c_GREATEST_LATENESS := He.int_ok X G (c.fact 21 rfl)
  g_is_integer_within := He.glo_ok X G (c.fact 22 rfl)
  g_check_tick := He.glo_ok X G (c.fact 23 rfl)
  g_first_invalid_item := He.glo_ok X G (c.fact 24 rfl)
  g_check_pattern := He.glo_ok X G (c.fact 25 rfl)
  g_check_hall := He.glo_ok X G (c.fact 26 rfl)
  g_count_calls := He.glo_ok X G (c.fact 27 rfl)
  g__law_random := He.glo_ok X G (c.fact 28 rfl)
  g__law_below := He.glo_ok X G (c.fact 29 rfl)
  g__law_pattern := He.glo_ok X G (c.fact 30 rfl)
  g__law_parts := He.glo_ok X G (c.fact 31 rfl)
  g__law_hall := He.glo_ok X G (c.fact 32 rfl)
  g__law_length := He.glo_ok X G (c.fact 33 rfl)
  g__law_counts := He.glo_ok X G (c.fact 34 rfl)
  g__law_equal := He.glo_ok X G (c.fact 35 rfl)
  g_Hall := He.glo_ok X G (c.fact 36 rfl)
  cl_Hall := He.cls_ok (c.fact 37 rfl)
  mk_Hall := He.mkr_ok (c.fact 38 rfl)
  n_modulus := He.noat_ok (c.fact 39 rfl)
  n_takes := He.noat_ok (c.fact 40 rfl)
  n_calls := He.noat_ok (c.fact 41 rfl)
  n_lateness := He.noat_ok (c.fact 42 rfl)
  n__called := He.noat_ok (c.fact 43 rfl)
  m_taken := He.meth_ok (c.fact 44 rfl)
  m_called := He.meth_ok (c.fact 45 rfl)
  m_waiting := He.meth_ok (c.fact 46 rfl)
  m_events := He.meth_ok (c.fact 47 rfl)
  p_period := prop_ok (c.fact 48 rfl)
  f_is_integer_within := (c.def_ 0 rfl).1
  f_check_tick := (c.def_ 1 rfl).1
  f_first_invalid_item := (c.def_ 2 rfl).1
  f_check_pattern := (c.def_ 3 rfl).1
  f_check_hall := (c.def_ 4 rfl).1
  f_count_calls := (c.def_ 5 rfl).1
  f_init := (c.def_ 6 rfl).1
  f_period := (c.def_ 7 rfl).1
  f_taken := (c.def_ 8 rfl).1
  f_called := (c.def_ 9 rfl).1
  f_waiting := (c.def_ 10 rfl).1
  f_events := (c.def_ 11 rfl).1
  f__law_random := (c.def_ 12 rfl).1
  f__law_below := (c.def_ 13 rfl).1
  f__law_pattern := (c.def_ 14 rfl).1
  f__law_parts := (c.def_ 15 rfl).1
  f__law_hall := (c.def_ 16 rfl).1
  f__law_length := (c.def_ 17 rfl).1
  f__law_counts := (c.def_ 18 rfl).1
  f__law_equal := (c.def_ 19 rfl).1
theorem law_fn {K : PySem.W.Frag} (c : Says fcts dps K) : ∃ fd, FnP K "law" "law" s_law (He.ga K "law") fd := (c.def_ 20 rfl).1
end Tk
/-! ### The source of numbers -/
namespace Tk
open PySem PySem.Spec PyProof.Rows L2
/-- what the list of the source holds -/
def DSt (cs : List V) : Prop := ∃ (s g : Int) (ns : List Int), cs = V.int s :: V.int g :: ns.map V.int ∧ 0 ≤ s ∧ s < 2147483647 ∧ 0 ≤ g ∧ (∀ n ∈ ns, (0 : Int) ≤ n) ∧ ns.length ≤ 63
def spRandom (K : PySem.W.Frag) : Sp := fun vs H Q _ => ∃ (a : Addr) (ns : List Int) (salt : Int), vs = [.ref a, .int salt] ∧ SqL K H a (ns.map V.int) ∧ ns.length ≤ 63 ∧ 0 ≤ salt ∧ salt < 1000 ∧
  ∀ (d : Addr) (cs : List V) (H' : Hp), H d = none → Same H H' → H' d = some (.lst cs) → DSt cs → Q (.ref d) H'
def spBelow : Sp := fun vs H Q _ => ∃ (d : Addr) (lim : Int) (cs : List V), vs = [.ref d, .int lim] ∧ 0 < lim ∧ lim < 1073741824 ∧ H d = some (.lst cs) ∧ DSt cs ∧
  ∀ (r : Int) (cs' : List V), 0 ≤ r → r < lim → DSt cs' → Q (.int r) (upd H d (.lst cs'))
theorem int_at {ns : List Int} {i : Nat} {y : V} (h : (ns.map V.int)[i]? = some y) : ∃ u, y = V.int u ∧ ns[i]? = some u := by
  rw [List.getElem?_map] at h
  cases e : ns[i]? with
  | none => rw [e] at h; cases h
  | some u => rw [e] at h; exact ⟨u, (Option.some.inj h).symm, rfl⟩
theorem ixn {n i : Nat} (h : i < n) : ixN n (i : Int) = some i := by
  unfold ixN
  rw [if_pos (by omega), if_pos (by omega)]
  simp
theorem atn {xs : List V} {i : Nat} {x : V} (h : xs[i]? = some x) : atI xs (i : Int) = some x := by
  unfold atI
  rw [ixn (List.getElem?_eq_some_iff.mp h).1]
  exact h
section
variable {P : Program} {w : World} {K : PySem.W.Frag} {mg : Str → Option Value} {base : Heap}
theorem ok__law_random (T : Txt K mg) : OkF P w K mg base 1 (He.ga K "_law_random") ["_law_script", "_law_salt"] (spRandom K) := by
  refine FnP.okF T.f__law_random sc__law_random (fun _ _ _ _ _ _ us hl => match us, hl with | [_, _], _ => rfl) (fun vs H Q E h => ?_) (fun cdv A outer s H vs Q E hr h => ?_)
  · obtain ⟨a, ns, salt, rfl, _⟩ := h
    rfl
  obtain ⟨a, ns, salt, rfl, hS, hlen, h0, h1, k⟩ := h
  refine ⟨_, (pss_cons (ps_set (i := 2) sc__law_random.nd rfl (Or.inl rfl) (pv 1))
    (pss_cons (ps_for own_cx rfl (pi_listK (K := K) (pv 0)) (pg_name (i := 3) sc__law_random.nd rfl (Or.inl rfl))
      (pss_one (ps_set (i := 2) sc__law_random.nd rfl (Or.inl rfl) (pe_op op_mod (pe_op op_add (pe_op op_mul (pv 2) pe_int) (pe_callB call_abs (by rfl) T.g_abs (by decide +kernel) (pa_cons (pv 3) pa_nil))) pe_int))))
    (pss_one (ps_ret (pe_op op_cat (pe_lst (pa_cons (pv 2) (pa_cons pe_int pa_nil))) (pe_lc (own := [("_law_cell", 3)]) (g := gName 3) (tt := _) (by rfl) sc__law_random.nd (pi_listK (K := K) (pv 0)) (blkOk_by (own := [("_law_cell", 3)]) (N := N__law_random) (sc := (defScope s__law_random)) (by decide +kernel)) (fun _ _ _ _ _ => pg_name (i := 3) sc__law_random.nd rfl (Or.inl rfl)) (fun _ _ _ _ _ => (pts_one (pt_cmpR op_ge (pv 3) (pe_op op_pow pe_int pe_int) (nomark _)))) (fun _ _ _ _ _ => (pv 3)))))))), ?_⟩
  refine ⟨_, rfl, ?_⟩
  refine ⟨_, rfl, a, rfl, ⟨_, hS⟩, for_list (K := K) (a := a) (xs := ns.map V.int) (fun i σ H' => ∃ (z : Int) (v : Option V), σ = [some (.ref a), some (.int salt), some (.int z), v] ∧ H' = H ∧ 0 ≤ z ∧ z < 2147483647)
    ⟨salt, none, rfl, rfl, h0, by omega⟩ (fun i σ H' _ ⟨_, _, _, e, _⟩ => e ▸ hS) ?_ ?_⟩
  · rintro i y σ H' hi ⟨z, v, rfl, rfl, z0, z1⟩
    obtain ⟨u, rfl, hu⟩ := int_at hi
    refine ⟨_, rfl, _, _, rfl, rfl, .inl ⟨by omega, by omega⟩, _, rfl, _, rfl, _, _, rfl, rfl, _, _, rfl, rfl, (by show (0 : Int) < 2147483647; decide), ?_⟩
    refine ⟨_, _, rfl, rfl, ?_, ?_⟩
    · exact Int.emod_nonneg _ (by decide)
    · exact Int.emod_lt_of_pos _ (by decide)
  · rintro σ H' ⟨z, v, rfl, rfl, z0, z1⟩
    refine ⟨_, rfl, (by show 2 ≤ sizeLine; decide), fun l hl => ?_⟩
    have s1 : Same H' (upd H' l (.lst [.int z, .int 0])) := fun b o e => by rw [upd_ne (ne_of_none e hl)]; exact e
    refine ⟨_, rfl, a, rfl, ⟨_, s1.seq hS⟩, fun D hD => ?_⟩
    have hDl : D ≠ l := fun e => by rw [e, upd_same] at hD; cases hD
    have hD0 : H' D = none := by rw [upd_ne hDl] at hD; exact hD
    refine lc_list (K := K) (a := a) (xs := ns.map V.int) (fun i H2 => ∃ ms : List Int, H2 = upd (upd H' l (.lst [.int z, .int 0])) D (.lst (ms.map V.int)) ∧ (∀ n ∈ ms, (0 : Int) ≤ n) ∧ ms.length ≤ i)
      ⟨[], rfl, (fun n hn => by cases hn), Nat.le_refl _⟩ (fun i H2 _ ⟨ms, e, _⟩ => ?_) ?_ ?_
    · subst e
      refine Same.seq (fun b o e => ?_) hS
      rw [upd_ne (ne_of_none e hD0)]
      exact s1 b o e
    · rintro i x H2 hx ⟨ms, rfl, m0, ml⟩
      obtain ⟨u, rfl, hu⟩ := int_at hx
      have hi63 : i < 63 := by
        have := (List.getElem?_eq_some_iff.mp hu).1
        omega
      refine ⟨rfl, _, rfl, _, _, rfl, rfl, ⟨by decide, by decide, by decide⟩, _, _, rfl, rfl, _, rfl, ?_⟩
      refine ite2 (fun c => ?_) (fun c => ⟨ms, rfl, m0, by omega⟩)
      refine ⟨_, rfl, _, upd_same, Nat.lt_of_le_of_lt (m := 63) (by rw [List.length_map]; omega) (by decide), ⟨ms ++ [u], ?_, ?_, ?_⟩⟩
      · rw [upd_upd, List.map_append]
        rfl
      · intro n hn
        rcases List.mem_append.mp hn with h | h
        · exact m0 n h
        · rw [List.mem_singleton.mp h]
          have c2 : (10 : Int) ^ (18 : Int).toNat ≤ u := of_decide_eq_true c
          have : (0 : Int) ≤ 10 ^ (18 : Int).toNat := by decide
          omega
      · rw [List.length_append]
        show ms.length + 1 ≤ i + 1
        omega
    · rintro H2 ⟨ms, rfl, m0, ml⟩
      rw [List.length_map] at ml
      refine ⟨l, D, _, _, rfl, rfl, (by rw [upd_ne hDl.symm]; exact upd_same), upd_same, ?_, fun p hp => ?_⟩
      · rw [List.length_map]
        exact Nat.le_trans (m := 65) (by show 2 + ms.length ≤ 65; omega) (by decide)
      · have hpD : p ≠ D := fun e => by rw [e, upd_same] at hp; cases hp
        have hp2 : p ≠ l := fun e => by rw [e, upd_ne hDl.symm, upd_same] at hp; cases hp
        refine k p _ _ (by rw [upd_ne hpD, upd_ne hp2] at hp; exact hp) (fun b o e => ?_) upd_same ⟨z, 0, ms, rfl, z0, z1, Int.le_refl _, m0, by omega⟩
        have hb : b ≠ p := fun q => by rw [q] at e; rw [upd_ne hpD, upd_ne hp2] at hp; rw [e] at hp; cases hp
        rw [upd_ne hb, upd_ne (ne_of_none e hD0)]
        exact s1 b o e
end
end Tk

namespace Tk
open PySem PySem.Spec PyProof.Rows L2
section
variable {P : Program} {w : World} {K : PySem.W.Frag} {mg : Str → Option Value} {base : Heap}
theorem upd_eq {H H2 : Hp} {d : Addr} (e : ∀ b, b ≠ d → H2 b = H b) (o : HO) : upd H2 d o = upd H d o := by
  funext b
  unfold upd
  by_cases q : b = d
  · rw [if_pos q, if_pos q]
  · rw [if_neg q, if_neg q, e b q]
theorem gt_dec {a b : Int} : decide (b < a) = true → b < a := of_decide_eq_true
theorem ok__law_below (T : Txt K mg) : OkF P w K mg base 1 (He.ga K "_law_below") ["_law_d", "_law_limit"] spBelow := by
  refine FnP.okF T.f__law_below sc__law_below (fun _ _ _ _ _ _ us hl => match us, hl with | [_, _], _ => rfl) (fun vs H Q E h => ?_) (fun cdv A outer s H vs Q E hr h => ?_)
  · obtain ⟨d, lim, cs, rfl, _⟩ := h
    rfl
  obtain ⟨d, lim, cs, rfl, l0, l1, hd, ⟨s1, g, ns, rfl, hs0, hs1, hg, hns, hlen⟩, k⟩ := h
  refine ⟨_, (Evl.pss_cut (ps_if (PW.pt (pw_and (pt_cmpR op_eq (pe_ix (ixLK (K := K)) (pv 0) pe_int (fun _ _ => rfl)) pe_int (nomark _)) (pw_and1 (pt_cmpR op_gt (pe_callB (lenK (K := K)) (by rfl) T.g_len (by decide +kernel) (pa_cons (pv 0) pa_nil)) pe_int (nomark _))))) (pss_one (ps_asg (pe_bm PySem.F.plainAttrs_list PySem.F.slot_list_pop PySem.F.type_list_pop mt_popAt (pv 0) (pa_cons pe_int pa_nil)) (pg_sub (pv 0) pe_int set_list))) pss_nil)
    (pss_cons (ps_if (pt_cmpR op_gt (pe_ix (ixLK (K := K)) (pv 0) pe_int (fun _ _ => rfl)) pe_int (nomark _)) (pss_cons (ps_set (i := 2) sc__law_below.nd rfl (Or.inl rfl) (pe_op op_mod (pe_ix (ixLK (K := K)) (pv 0) pe_int (fun _ _ => rfl)) (pv 1)))
    (pss_cons (ps_asg (pe_op op_fdiv (pe_ix (ixLK (K := K)) (pv 0) pe_int (fun _ _ => rfl)) (pv 1)) (pg_sub (pv 0) pe_int set_list))
    (pss_one (ps_ret (pv 2))))) pss_nil)
    (pss_cons (ps_asg (pe_op op_mod (pe_op op_add (pe_op op_mul (pe_ix (ixLK (K := K)) (pv 0) pe_int (fun _ _ => rfl)) pe_int) pe_int) pe_int) (pg_sub (pv 0) pe_int set_list))
    (pss_one (ps_ret (pe_op op_mod (pe_op op_fdiv (pe_ix (ixLK (K := K)) (pv 0) pe_int (fun _ _ => rfl)) pe_int) (pv 1))))))), ?_⟩
  -- if d[1] == 0 and len(d) > 2: d[1] = d.pop(2)
  refine ⟨fun σ H2 => ∃ (g2 : Int) (ms : List Int), σ = [some (.ref d), some (.int lim), none] ∧ H2 = upd H d (.lst (V.int s1 :: V.int g2 :: ms.map V.int)) ∧ 0 ≤ g2 ∧ (∀ n ∈ ms, (0 : Int) ≤ n) ∧ ms.length ≤ 63, ?_, ?_⟩
  · have h0 : H = upd H d (.lst (V.int s1 :: V.int g :: ns.map V.int)) := by
      funext b
      unfold upd
      by_cases q : b = d
      · rw [if_pos q, q, hd]
      · rw [if_neg q]
    have no : ∃ (g2 : Int) (ms : List Int), [some (V.ref d), some (V.int lim), none] = [some (.ref d), some (.int lim), none] ∧ H = upd H d (.lst (V.int s1 :: V.int g2 :: ms.map V.int)) ∧ 0 ≤ g2 ∧ (∀ n ∈ ms, (0 : Int) ≤ n) ∧ ms.length ≤ 63 := ⟨g, ns, rfl, h0, hg, hns, hlen⟩
    refine ⟨_, rfl, d, _, 1, _, rfl, rfl, SqL.of hd, atn (i := 1) rfl, rfl, _, rfl, ?_⟩
    refine ite2 (fun c => ?_) (fun c => no)
    refine ⟨_, rfl, d, _, rfl, .inl (SqL.of hd), _, _, rfl, rfl, _, rfl, ?_⟩
    refine ite2 (fun c2 => ?_) (fun c2 => no)
    cases ns with
    | nil =>
      have : (2 : Int) < (2 : Int) := gt_dec c2
      omega
    | cons n0 ms =>
      refine ⟨_, rfl, .inl ⟨rfl, _, SqL.of hd⟩, d, _, 2, 2, _, rfl, rfl, hd, by decide, by decide, ?_, rfl, ?_⟩
      · have hl : (V.int s1 :: V.int g :: (n0 :: ms).map V.int).length = ms.length + 3 := by simp
        rw [hl]
        unfold seqIndex?
        simp
        omega
      · refine ⟨_, rfl, d, _, 1, 1, rfl, rfl, upd_same, ixn (i := 1) (by simp), ?_⟩
        refine ⟨n0, ms, rfl, ?_, hns n0 List.mem_cons_self, fun n hn => hns n (List.mem_cons_of_mem _ hn), by have := hlen; simp at this; omega⟩
        rw [upd_upd]
        rfl
  · rintro σ H2 ⟨g2, ms, rfl, rfl, hg2, hms, hml⟩
    have hd2 : upd H d (.lst (V.int s1 :: V.int g2 :: ms.map V.int)) d = some (.lst (V.int s1 :: V.int g2 :: ms.map V.int)) := upd_same
    -- if d[1] > 0
    refine ⟨_, rfl, d, _, 1, _, rfl, rfl, SqL.of hd2, atn (i := 1) rfl, _, _, rfl, rfl, _, rfl, ?_⟩
    refine ite2 (fun c => ?_) (fun c => ?_)
    · refine ⟨_, rfl, d, _, 1, _, rfl, rfl, SqL.of hd2, atn (i := 1) rfl, _, rfl, _, _, rfl, rfl, l0, ?_⟩
      refine ⟨_, rfl, d, _, 1, _, rfl, rfl, SqL.of hd2, atn (i := 1) rfl, _, rfl, _, _, rfl, rfl, ⟨l0, l1⟩, ?_⟩
      refine ⟨_, rfl, d, _, 1, 1, rfl, rfl, upd_same, ixn (i := 1) (by simp), ?_⟩
      refine ⟨_, rfl, ?_⟩
      show Q (V.int (g2 % lim)) _
      rw [upd_upd]
      exact k _ _ (Int.emod_nonneg _ (by omega)) (Int.emod_lt_of_pos _ l0) ⟨s1, g2 / lim, ms, rfl, hs0, hs1, Int.ediv_nonneg hg2 (by omega), hms, hml⟩
    · refine ⟨_, rfl, d, _, 0, _, rfl, rfl, SqL.of hd2, atn (i := 0) rfl, _, _, rfl, rfl, .inl ⟨by omega, by omega⟩, _, _, rfl, rfl, _, _, rfl, rfl, (by show (0 : Int) < 2147483647; decide), ?_⟩
      refine ⟨_, rfl, d, _, 0, 0, rfl, rfl, upd_same, ixn (i := 0) (by simp), ?_⟩
      refine ⟨_, rfl, d, _, 0, _, rfl, rfl, SqL.of upd_same, atn (i := 0) rfl, _, _, rfl, rfl, ⟨by decide, by decide⟩, _, rfl, _, _, rfl, rfl, l0, ?_⟩
      rw [upd_upd]
      exact k _ _ (Int.emod_nonneg _ (by omega)) (Int.emod_lt_of_pos _ l0) ⟨_, g2, ms, rfl, Int.emod_nonneg _ (by decide), Int.emod_lt_of_pos _ (by decide), hg2, hms, hml⟩
end
end Tk

namespace Tk
open PySem PySem.Spec PyProof.Rows L2
/-- a number that is not negative, as a value -/
abbrev vn (n : Nat) : V := .int (n : Int)
/-- all but d stands as before; d holds a source -/
structure Src (d : Addr) (H H' : Hp) : Prop where
  but : But d H H'
  at_ : ∃ cs, H' d = some (.lst cs) ∧ DSt cs
theorem But.free {d : Addr} {H H' : Hp} (b : But d H H') (hd : ∃ cs, H d = some (.lst cs)) {p : Addr} (h : H' p = none) (hd' : ∃ cs, H' d = some (.lst cs)) : H p = none := by
  cases q : H p with
  | none => rfl
  | some o =>
    by_cases e : p = d
    · obtain ⟨cs, z⟩ := hd'
      rw [e, z] at h
      cases h
    · rw [b p o e q] at h
      cases h
theorem But.refl (d : Addr) (H : Hp) : But d H H := fun _ _ _ h => h
theorem But.trans {d : Addr} {H H1 H2 : Hp} (a : But d H H1) (b : But d H1 H2) : But d H H2 := fun p o n h => b p o n (a p o n h)
theorem But.same {d : Addr} {H H1 : Hp} (a : Same H H1) : But d H H1 := fun p o _ h => a p o h
theorem But.at_d {d : Addr} {H : Hp} {o : HO} : But d H (upd H d o) := fun p u n h => by rw [upd_ne n]; exact h
theorem But.new {d p : Addr} {H : Hp} {o : HO} (h : H p = none) : But d H (upd H p o) := fun b u _ e => by rw [upd_ne (ne_of_none e h)]; exact e
theorem Same.new {p : Addr} {H : Hp} {o : HO} (h : H p = none) : Same H (upd H p o) := fun b u e => by rw [upd_ne (ne_of_none e h)]; exact e
theorem Same.free1 {H H1 : Hp} (a : Same H H1) {p : Addr} (h : H1 p = none) : H p = none := Same.free a h
/-- a pattern -/
structure Pat (ps : List Nat) : Prop where
  pos : 0 < ps.length
  len : ps.length ≤ 12
  nine : ∀ x ∈ ps, x ≤ 9
def spPattern : Sp := fun vs H Q _ => ∃ (d : Addr) (most : Nat) (cs : List V), vs = [.ref d, vn most] ∧ 0 < most ∧ most ≤ 12 ∧ H d = some (.lst cs) ∧ DSt cs ∧
  ∀ (t : Addr) (ps : List Nat) (H' : Hp), H t = none → Src d H H' → H' t = some (.tup (ps.map vn)) → Pat ps → ps.length ≤ most → Q (.ref t) H'
section
variable {P : Program} {w : World} {K : PySem.W.Frag} {mg : Str → Option Value} {base : Heap}
theorem high_of {r : Int} (h0 : 0 ≤ r) (h1 : r < 3) : ∃ v : Nat, atI [V.int 2, V.int 3, V.int 10] r = some (vn v) ∧ 0 < v ∧ v ≤ 10 := by
  have : r = ((0 : Nat) : Int) ∨ r = ((1 : Nat) : Int) ∨ r = ((2 : Nat) : Int) := by omega
  rcases this with e | e | e
  · exact ⟨2, by rw [e]; exact atn rfl, by omega, by omega⟩
  · exact ⟨3, by rw [e]; exact atn rfl, by omega, by omega⟩
  · exact ⟨10, by rw [e]; exact atn rfl, by omega, by omega⟩
theorem ok__law_pattern (T : Txt K mg) : OkF P w K mg base 2 (He.ga K "_law_pattern") ["_law_d", "_law_most"] spPattern := by
  have G__law_below : OkF P w K mg base 1 (He.ga K "_law_below") ["_law_d", "_law_limit"] spBelow := ok__law_below T
  refine FnP.okF T.f__law_pattern sc__law_pattern (fun _ _ _ _ _ _ us hl => match us, hl with | [_, _], _ => rfl) (fun vs H Q E h => ?_) (fun cdv A outer s H vs Q E hr h => ?_)
  · obtain ⟨d, most, cs, rfl, _⟩ := h
    rfl
  obtain ⟨d, most, cs, rfl, m0, m1, hd, hcs, k⟩ := h
  refine ⟨_, (pss_cons (ps_set (i := 2) sc__law_pattern.nd rfl (Or.inr rfl) (pe_ix (ixLK (K := K)) (pe_lst (pa_cons pe_int (pa_cons pe_int (pa_cons pe_int pa_nil)))) (pe_call G__law_below.one (hr.mono (by decide)) (by rfl) T.g__law_below G__law_below.kp G__law_below.two .nil passL (pa_cons (pv 0) (pa_cons pe_int pa_nil))) (fun _ _ => rfl)))
    (pss_one (ps_ret (pe_callTy (tplK (K := K)) (by rfl) T.g_tuple (by decide +kernel) (pa_cons (pe_lc (own := [("_law_k", 3)]) (g := gName 3) (tt := tYes) (by rfl) sc__law_pattern.nd (pi_range1 (by rfl) T.g_range (pa_cons (pe_op op_add pe_int (pe_call G__law_below.one (hr.mono (by decide)) (by rfl) T.g__law_below G__law_below.kp G__law_below.two .nil passL (pa_cons (pv 0) (pa_cons (pv 1) pa_nil)))) pa_nil)) (blkOk_by (own := [("_law_k", 3)]) (N := N__law_pattern) (sc := (defScope s__law_pattern)) (by decide +kernel)) (fun _ _ _ _ _ => pg_name (i := 3) sc__law_pattern.nd rfl (Or.inl rfl)) (fun _ _ _ _ _ => pts_nil) (fun _ _ _ _ _ => (pe_call G__law_below.one (hr.mono (by decide)) (by rfl) T.g__law_below G__law_below.kp G__law_below.two .nil passL (pa_cons (pv 0) (pa_cons (pv 2) pa_nil))))) pa_nil))))), ?_⟩
  -- high = [2, 3, 10][below(d, 3)]
  refine ⟨(by show 3 ≤ sizeLine; decide), fun l hl => ?_⟩
  have ndl : d ≠ l := ne_of_none hd hl
  refine ⟨_, rfl, d, 3, cs, rfl, by decide, by decide, by rw [upd_ne ndl]; exact hd, hcs, fun r cs1 r0 r1 hcs1 => ?_⟩
  obtain ⟨v, hv, v0, v1⟩ := high_of r0 r1
  refine ⟨l, _, r, _, rfl, rfl, SqL.of (by rw [upd_ne ndl.symm]; exact upd_same), hv, ?_⟩
  -- range(1 + below(d, most))
  refine ⟨_, rfl, _, rfl, d, most, cs1, rfl, by omega, by omega, upd_same, hcs1, fun r2 cs2 q0 q1 hcs2 => ?_⟩
  refine ⟨1, r2, rfl, rfl, ?_⟩
  refine ⟨_, rfl, by omega, by omega, fun D hD => ?_⟩
  rw [upd_upd] at hD ⊢
  have nDd : D ≠ d := fun e => by rw [e, upd_same] at hD; cases hD
  have nDl : D ≠ l := fun e => by rw [e, upd_ne ndl.symm, upd_same] at hD; cases hD
  have hD0 : H D = none := by rw [upd_ne nDd, upd_ne nDl] at hD; exact hD
  refine lc_range (lo := 0) (n := (1 + r2).toNat) (fun i H2 => ∃ ms : List Nat, But d H H2 ∧ (∃ cs, H2 d = some (.lst cs) ∧ DSt cs) ∧ H2 D = some (.lst (ms.map vn)) ∧ ms.length = i ∧ ∀ x ∈ ms, x ≤ 9) ?_ ?_ ?_
  · refine ⟨[], fun b o nb e => ?_, ⟨cs2, by rw [upd_ne nDd.symm, upd_same], hcs2⟩, upd_same, rfl, fun x hx => by cases hx⟩
    rw [upd_ne (ne_of_none e hD0), upd_ne nb, upd_ne (ne_of_none e hl)]
    exact e
  · rintro i H2 hi ⟨ms, hB, ⟨cs3, h3, hcs3⟩, hD2, hml, hm9⟩
    refine ⟨rfl, ?_⟩
    refine ⟨_, rfl, _, rfl, d, v, cs3, rfl, by omega, by omega, h3, hcs3, fun r4 cs4 p0 p1 hcs4 => ?_⟩
    refine ⟨ms.map vn, by rw [upd_ne nDd]; exact hD2, Nat.lt_of_le_of_lt (m := 12) (by rw [List.length_map]; omega) (by decide), ms ++ [r4.toNat], ?_, ⟨cs4, by rw [upd_ne nDd.symm, upd_same], hcs4⟩, ?_, ?_, ?_⟩
    · intro b o nb e
      rw [upd_ne (ne_of_none e hD0), upd_ne nb]
      exact hB b o nb e
    · rw [upd_same, List.map_append]
      show some (HO.lst (ms.map vn ++ [V.int r4])) = some (HO.lst (ms.map vn ++ [V.int ((r4.toNat : Nat) : Int)]))
      rw [Int.toNat_of_nonneg p0]
    · rw [List.length_append]
      show ms.length + 1 = i + 1
      omega
    · intro x hx
      rcases List.mem_append.mp hx with h | h
      · exact hm9 x h
      · rw [List.mem_singleton.mp h]
        omega
  · rintro H2 ⟨ms, hB, ⟨cs3, h3, hcs3⟩, hD2, hml, hm9⟩
    refine ⟨D, _, rfl, .inl ⟨SqL.of hD2, fun t ht => ?_⟩⟩
    have ht0 : H t = none := But.free hB ⟨_, hd⟩ ht ⟨_, h3⟩
    refine k t ms _ ht0 ⟨hB.trans (But.new ht), cs3, by rw [upd_ne (ne_of_none h3 ht)]; exact h3, hcs3⟩ upd_same ⟨by omega, by omega, hm9⟩ (by omega)
end
end Tk

namespace Tk
open PySem PySem.Spec PyProof.Rows L2
structure Parts (m : Nat) (tk cl : List Nat) (lt : Nat) : Prop where
  m2 : 2 ≤ m
  m4 : m ≤ 10000
  tkP : Pat tk
  clP : Pat cl
  l99 : lt ≤ 99
/-- at t the tuple of the parts -/
structure PartsAt (H : Hp) (t : Addr) (m : Nat) (tp : Addr) (tk : List Nat) (cp : Addr) (cl : List Nat) (lt : Nat) : Prop where
  at_ : H t = some (.tup [vn m, .ref tp, .ref cp, vn lt])
  tkA : H tp = some (.tup (tk.map vn))
  clA : H cp = some (.tup (cl.map vn))
  ok : Parts m tk cl lt
theorem PartsAt.but {d t tp cp : Addr} {H H' : Hp} {m lt : Nat} {tk cl : List Nat} {cs : List V} (p : PartsAt H t m tp tk cp cl lt) (b : But d H H') (hd : H d = some (.lst cs)) : PartsAt H' t m tp tk cp cl lt :=
  ⟨b _ _ (ne_of p.at_ hd (fun q => by cases q)) p.at_, b _ _ (ne_of p.tkA hd (fun q => by cases q)) p.tkA, b _ _ (ne_of p.clA hd (fun q => by cases q)) p.clA, p.ok⟩
theorem PartsAt.same {t tp cp : Addr} {H H' : Hp} {m lt : Nat} {tk cl : List Nat} (p : PartsAt H t m tp tk cp cl lt) (b : Same H H') : PartsAt H' t m tp tk cp cl lt :=
  ⟨b _ _ p.at_, b _ _ p.tkA, b _ _ p.clA, p.ok⟩
def spParts : Sp := fun vs H Q _ => ∃ (d : Addr) (most : Nat) (cs : List V), vs = [.ref d, vn most] ∧ 0 < most ∧ most ≤ 12 ∧ H d = some (.lst cs) ∧ DSt cs ∧
  ∀ (t tp cp : Addr) (m lt : Nat) (tk cl : List Nat) (H' : Hp), H t = none → Src d H H' → PartsAt H' t m tp tk cp cl lt → tk.length ≤ most → cl.length ≤ most → Q (.ref t) H'
def spSmall : Sp := fun vs H Q _ => ∃ (d : Addr) (cs : List V), vs = [.ref d] ∧ H d = some (.lst cs) ∧ DSt cs ∧
  ∀ (t tp cp : Addr) (m lt : Nat) (tk cl : List Nat) (H' : Hp), H t = none → Src d H H' → PartsAt H' t m tp tk cp cl lt → m ≤ 10 → tk.length ≤ 3 → cl.length ≤ 3 → lt ≤ 5 → Q (.ref t) H'
section
variable {P : Program} {w : World} {K : PySem.W.Frag} {mg : Str → Option Value} {base : Heap}
theorem three_of {a b c r : Int} (h0 : 0 ≤ r) (h1 : r < 3) : ∃ v : Int, atI [V.int a, V.int b, V.int c] r = some (V.int v) ∧ (v = a ∨ v = b ∨ v = c) := by
  have : r = ((0 : Nat) : Int) ∨ r = ((1 : Nat) : Int) ∨ r = ((2 : Nat) : Int) := by omega
  rcases this with e | e | e
  · exact ⟨a, by rw [e]; exact atn rfl, .inl rfl⟩
  · exact ⟨b, by rw [e]; exact atn rfl, .inr (.inl rfl)⟩
  · exact ⟨c, by rw [e]; exact atn rfl, .inr (.inr rfl)⟩
theorem ok__law_parts (T : Txt K mg) : OkF P w K mg base 3 (He.ga K "_law_parts") ["_law_d", "_law_most"] spParts := by
  have G__law_below : OkF P w K mg base 1 (He.ga K "_law_below") ["_law_d", "_law_limit"] spBelow := ok__law_below T
  have G__law_pattern : OkF P w K mg base 2 (He.ga K "_law_pattern") ["_law_d", "_law_most"] spPattern := ok__law_pattern T
  refine FnP.okF T.f__law_parts sc__law_parts (fun _ _ _ _ _ _ us hl => match us, hl with | [_, _], _ => rfl) (fun vs H Q E h => ?_) (fun cdv A outer s H vs Q E hr h => ?_)
  · obtain ⟨d, most, cs, rfl, _⟩ := h
    rfl
  obtain ⟨d, most, cs, rfl, m0, m1, hd, hcs, k⟩ := h
  refine ⟨_, (pss_cons (ps_set (i := 2) sc__law_parts.nd rfl (Or.inl rfl) (pe_ix (ixLK (K := K)) (pe_lst (pa_cons (pe_op op_add pe_int (pe_call G__law_below.one (hr.mono (by decide)) (by rfl) T.g__law_below G__law_below.kp G__law_below.two .nil passL (pa_cons (pv 0) (pa_cons pe_int pa_nil)))) (pa_cons (pe_op op_add pe_int (pe_call G__law_below.one (hr.mono (by decide)) (by rfl) T.g__law_below G__law_below.kp G__law_below.two .nil passL (pa_cons (pv 0) (pa_cons pe_int pa_nil)))) (pa_cons (pe_op op_add pe_int (pe_call G__law_below.one (hr.mono (by decide)) (by rfl) T.g__law_below G__law_below.kp G__law_below.two .nil passL (pa_cons (pv 0) (pa_cons pe_int pa_nil)))) pa_nil)))) (pe_call G__law_below.one (hr.mono (by decide)) (by rfl) T.g__law_below G__law_below.kp G__law_below.two .nil passL (pa_cons (pv 0) (pa_cons pe_int pa_nil))) (fun _ _ => rfl)))
    (pss_cons (ps_set (i := 3) sc__law_parts.nd rfl (Or.inl rfl) (pe_ix (ixLK (K := K)) (pe_lst (pa_cons pe_int (pa_cons (pe_call G__law_below.one (hr.mono (by decide)) (by rfl) T.g__law_below G__law_below.kp G__law_below.two .nil passL (pa_cons (pv 0) (pa_cons pe_int pa_nil))) (pa_cons (pe_call G__law_below.one (hr.mono (by decide)) (by rfl) T.g__law_below G__law_below.kp G__law_below.two .nil passL (pa_cons (pv 0) (pa_cons pe_int pa_nil))) pa_nil)))) (pe_call G__law_below.one (hr.mono (by decide)) (by rfl) T.g__law_below G__law_below.kp G__law_below.two .nil passL (pa_cons (pv 0) (pa_cons pe_int pa_nil))) (fun _ _ => rfl)))
    (pss_one (ps_ret (pe_tup (pa_cons (pv 2) (pa_cons (pe_call G__law_pattern.one (hr.mono (by decide)) (by rfl) T.g__law_pattern G__law_pattern.kp G__law_pattern.two .nil passL (pa_cons (pv 0) (pa_cons (pv 1) pa_nil))) (pa_cons (pe_call G__law_pattern.one (hr.mono (by decide)) (by rfl) T.g__law_pattern G__law_pattern.kp G__law_pattern.two .nil passL (pa_cons (pv 0) (pa_cons (pv 1) pa_nil))) (pa_cons (pv 3) pa_nil))))))))), ?_⟩
  -- modulus
  refine ⟨_, rfl, d, 5, cs, rfl, by decide, by decide, hd, hcs, fun r1 c1 a1 b1 hc1 => ⟨2, r1, rfl, rfl, ?_⟩⟩
  refine ⟨_, rfl, d, 30, c1, rfl, by decide, by decide, upd_same, hc1, fun r2 c2 a2 b2 hc2 => ⟨2, r2, rfl, rfl, ?_⟩⟩
  refine ⟨_, rfl, d, 9999, c2, rfl, by decide, by decide, upd_same, hc2, fun r3 c3 a3 b3 hc3 => ⟨2, r3, rfl, rfl, ?_⟩⟩
  refine ⟨(by show 3 ≤ sizeLine; decide), fun l hl => ?_⟩
  rw [upd_upd, upd_upd] at hl ⊢
  have ndl : d ≠ l := fun e => by rw [← e, upd_same] at hl; cases hl
  refine ⟨_, rfl, d, 3, c3, rfl, by decide, by decide, by rw [upd_ne ndl]; exact upd_same, hc3, fun r4 c4 a4 b4 hc4 => ?_⟩
  obtain ⟨mv, hmv, hmo⟩ := three_of (a := 2 + r1) (b := 2 + r2) (c := 2 + r3) a4 b4
  refine ⟨l, _, r4, _, rfl, rfl, SqL.of (by rw [upd_ne ndl.symm]; exact upd_same), hmv, ?_⟩
  have hl0 : H l = none := by rw [upd_ne ndl.symm] at hl; exact hl
  -- lateness
  refine ⟨_, rfl, d, 6, c4, rfl, by decide, by decide, upd_same, hc4, fun r5 c5 a5 b5 hc5 => ?_⟩
  refine ⟨_, rfl, d, 100, c5, rfl, by decide, by decide, upd_same, hc5, fun r6 c6 a6 b6 hc6 => ?_⟩
  refine ⟨(by show 3 ≤ sizeLine; decide), fun l2 hl2 => ?_⟩
  rw [upd_upd, upd_upd] at hl2 ⊢
  have nd2 : d ≠ l2 := fun e => by rw [← e, upd_same] at hl2; cases hl2
  refine ⟨_, rfl, d, 3, c6, rfl, by decide, by decide, by rw [upd_ne nd2]; exact upd_same, hc6, fun r7 c7 a7 b7 hc7 => ?_⟩
  obtain ⟨lv, hlv, hlo⟩ := three_of (a := 0) (b := r5) (c := r6) a7 b7
  refine ⟨l2, _, r7, _, rfl, rfl, SqL.of (by rw [upd_ne nd2.symm]; exact upd_same), hlv, ?_⟩
  have hB : But d H (upd (upd (upd (upd (upd H d (.lst c3)) l (.lst [.int (2 + r1), .int (2 + r2), .int (2 + r3)])) d (.lst c6)) l2 (.lst [.int 0, .int r5, .int r6])) d (.lst c7)) :=
    ((((But.at_d).trans (But.new hl)).trans But.at_d).trans (But.new hl2)).trans But.at_d
  generalize hH2 : upd (upd (upd (upd (upd H d (.lst c3)) l (.lst [.int (2 + r1), .int (2 + r2), .int (2 + r3)])) d (.lst c6)) l2 (.lst [.int 0, .int r5, .int r6])) d (.lst c7) = H2 at hB ⊢
  have hd2 : H2 d = some (.lst c7) := by rw [← hH2]; exact upd_same
  -- return (modulus, pattern, pattern, lateness)
  refine ⟨_, rfl, _, rfl, _, rfl, d, most, c7, rfl, m0, m1, hd2, hc7, fun tp tk H3 n3 S3 h3 p3 l3 => ?_⟩
  obtain ⟨c8, hd3, hc8⟩ := S3.at_
  refine ⟨_, rfl, _, rfl, d, most, c8, rfl, m0, m1, hd3, hc8, fun cp cl H4 n4 S4 h4 p4 l4 => ?_⟩
  obtain ⟨c9, hd4, hc9⟩ := S4.at_
  refine ⟨_, rfl, ?_⟩
  refine ⟨(by show 4 ≤ sizeLine; decide), fun t ht => ?_⟩
  have hB4 : But d H H4 := (hB.trans S3.but).trans S4.but
  have h34 : H4 tp = some (.tup (tk.map vn)) := S4.but _ _ (ne_of h3 hd3 (fun q => by cases q)) h3
  obtain ⟨m, hm⟩ : ∃ m : Nat, mv = (m : Int) := ⟨mv.toNat, by omega⟩
  obtain ⟨lt, hlt⟩ : ∃ n : Nat, lv = (n : Int) := ⟨lv.toNat, by omega⟩
  subst hm hlt
  refine k t tp cp m lt tk cl _ (But.free hB4 ⟨_, hd⟩ ht ⟨_, hd4⟩) ⟨hB4.trans (But.new ht), c9, by rw [upd_ne (ne_of_none hd4 ht)]; exact hd4, hc9⟩
    ⟨upd_same, by rw [upd_ne (ne_of_none h34 ht)]; exact h34, by rw [upd_ne (ne_of_none h4 ht)]; exact h4, ⟨by omega, by omega, p3, p4, by omega⟩⟩ l3 l4
end
end Tk

/-! ### The mathematics of halls -/
namespace Mm
def atp (ps : List Nat) (t : Nat) : Nat := ps.getD (t % ps.length) 0
/-- tickets taken before a tick -/
def tak (tk : List Nat) : Nat → Nat
  | 0 => 0
  | t + 1 => tak tk t + atp tk t
/-- tickets called before a tick -/
def cal (tk cl : List Nat) : Nat → Nat
  | 0 => 0
  | t + 1 => min (tak tk (t + 1)) (cal tk cl t + atp cl t)
def per (tk cl : List Nat) : Nat := Nat.lcm tk.length cl.length
section
variable {tk cl : List Nat}
theorem cal_le : ∀ t, cal tk cl t ≤ tak tk t
  | 0 => Nat.le_refl _
  | t + 1 => Nat.min_le_left _ _
theorem atp_add (ps : List Nat) (t p : Nat) (h : ps.length ∣ p) : atp ps (t + p) = atp ps t := by
  unfold atp
  obtain ⟨c, rfl⟩ := h
  rw [Nat.add_mul_mod_self_left]
theorem tak_add (p : Nat) (h : tk.length ∣ p) : ∀ t, tak tk (t + p) = tak tk t + tak tk p
  | 0 => by simp [tak]
  | t + 1 => by
    rw [show t + 1 + p = (t + p) + 1 by omega]
    show tak tk (t + p) + atp tk (t + p) = tak tk t + atp tk t + tak tk p
    rw [tak_add p h t, atp_add tk t p h]
    omega
theorem tak_mono : ∀ {a b : Nat}, a ≤ b → tak tk a ≤ tak tk b := by
  intro a b h
  induction h with
  | refl => exact Nat.le_refl _
  | step _ ih => exact Nat.le_trans ih (Nat.le_add_right _ _)
/-- who waits before a tick -/
def wt (tk cl : List Nat) (t : Nat) : Nat := tak tk t - cal tk cl t
theorem wt_cal (t : Nat) : cal tk cl t + wt tk cl t = tak tk t := by
  have := cal_le (tk := tk) (cl := cl) t
  unfold wt
  omega
theorem wt_succ (t : Nat) : wt tk cl (t + 1) = wt tk cl t + atp tk t - atp cl t := by
  have h1 := wt_cal (tk := tk) (cl := cl) t
  have h2 : cal tk cl (t + 1) = min (tak tk t + atp tk t) (cal tk cl t + atp cl t) := rfl
  have h3 : tak tk (t + 1) = tak tk t + atp tk t := rfl
  unfold wt
  rw [h2, h3]
  have h4 : wt tk cl t = tak tk t - cal tk cl t := rfl
  omega
theorem cal_succ (t : Nat) : cal tk cl (t + 1) = cal tk cl t + min (wt tk cl t + atp tk t) (atp cl t) := by
  have h1 := wt_cal (tk := tk) (cl := cl) t
  have h2 : cal tk cl (t + 1) = min (tak tk t + atp tk t) (cal tk cl t + atp cl t) := rfl
  rw [h2]
  omega
theorem cal_mono {a b : Nat} (h : a ≤ b) : cal tk cl a ≤ cal tk cl b := by
  induction h with
  | refl => exact Nat.le_refl _
  | step _ ih =>
    rw [Nat.succ_eq_add_one, cal_succ]
    omega
variable {p : Nat} (hp : 0 < p) (ht : tk.length ∣ p) (hc : cl.length ∣ p)
include ht hc in
theorem wt_up (t : Nat) : wt tk cl t ≤ wt tk cl (t + p) := by
  induction t with
  | zero => simp [wt, tak, cal]
  | succ t ih =>
    rw [show t + 1 + p = (t + p) + 1 by omega, wt_succ, wt_succ, atp_add tk t p ht, atp_add cl t p hc]
    omega
include ht hc in
theorem wt_same {s : Nat} (h : wt tk cl s = wt tk cl (s + p)) : ∀ t, s ≤ t → wt tk cl t = wt tk cl (t + p) := by
  intro t hs
  induction hs with
  | refl => exact h
  | @step t _ ih =>
    rw [show t.succ + p = (t + p) + 1 by omega, Nat.succ_eq_add_one, wt_succ, wt_succ, atp_add tk t p ht, atp_add cl t p hc, ih]
/-- from the second period on each period calls the same -/
theorem now_same (hp : 0 < p) (ht : tk.length ∣ p) (hc : cl.length ∣ p) (t : Nat) (h : p ≤ t) : min (wt tk cl (t + p) + atp tk (t + p)) (atp cl (t + p)) = min (wt tk cl t + atp tk t) (atp cl t) := by
  rw [atp_add tk t p ht, atp_add cl t p hc]
  by_cases st : ∃ s, p ≤ s ∧ s ≤ t ∧ wt tk cl s + atp tk s ≤ atp cl s ∧ s < 2 * p
  · obtain ⟨s, h1, h2, h3, h4⟩ := st
    obtain ⟨r, rfl⟩ : ∃ r, s = r + p := ⟨s - p, by omega⟩
    have u := wt_up (tk := tk) (cl := cl) ht hc r
    rw [atp_add tk r p ht, atp_add cl r p hc] at h3
    have e : wt tk cl (r + 1) = wt tk cl (r + 1 + p) := by
      rw [show r + 1 + p = (r + p) + 1 by omega, wt_succ, wt_succ, atp_add tk r p ht, atp_add cl r p hc]
      omega
    have := wt_same ht hc e t (by omega)
    rw [← this]
  · have full : ∀ k s, p ≤ s → s < 2 * p → s + k * p ≤ t → atp cl (s + k * p) ≤ wt tk cl (s + k * p) + atp tk (s + k * p) := by
      intro k
      induction k with
      | zero =>
        intro s h1 h2 h3
        by_cases q : wt tk cl s + atp tk s ≤ atp cl s
        · exact absurd ⟨s, h1, by omega, q, h2⟩ st
        · simp only [Nat.zero_mul, Nat.add_zero]
          omega
      | succ k ih =>
        intro s h1 h2 h3
        rw [Nat.succ_mul] at h3 ⊢
        have := ih s h1 h2 (by omega)
        have u := wt_up (tk := tk) (cl := cl) ht hc (s + k * p)
        rw [← Nat.add_assoc, atp_add tk _ p ht, atp_add cl _ p hc]
        omega
    have e : t = p + (t - p) % p + (t - p) / p * p := by
      have := Nat.mod_add_div (t - p) p
      rw [Nat.mul_comm] at this
      omega
    have f := full ((t - p) / p) (p + (t - p) % p) (by omega) (by have := Nat.mod_lt (t - p) hp; omega) (by omega)
    rw [← e] at f
    have u := wt_up (tk := tk) (cl := cl) ht hc t
    omega
theorem cal_per (hp : 0 < p) (ht : tk.length ∣ p) (hc : cl.length ∣ p) {t : Nat} (h : p ≤ t) : cal tk cl (t + p) + cal tk cl p = cal tk cl t + cal tk cl (2 * p) := by
  induction h with
  | refl => rw [show p + p = 2 * p by omega, Nat.add_comm]
  | @step t h ih =>
    rw [show t.succ + p = (t + p) + 1 by omega, Nat.succ_eq_add_one, cal_succ, cal_succ, now_same hp ht hc t h]
    omega
theorem cal_far (hp : 0 < p) (ht : tk.length ∣ p) (hc : cl.length ∣ p) {t : Nat} (h : p ≤ t) : ∀ k, cal tk cl (t + k * p) = cal tk cl t + k * (cal tk cl (2 * p) - cal tk cl p)
  | 0 => by simp
  | k + 1 => by
    have ih := cal_far hp ht hc h k
    have m := cal_mono (tk := tk) (cl := cl) (show p ≤ 2 * p by omega)
    have q := cal_per (tk := tk) (cl := cl) hp ht hc (t := t + k * p) (by omega)
    rw [Nat.succ_mul, Nat.succ_mul, ← Nat.add_assoc]
    omega
/-- what the program reckons -/
theorem cal_is (hp : 0 < p) (ht : tk.length ∣ p) (hc : cl.length ∣ p) (t : Nat) : cal tk cl t = (t / p - 1) * (cal tk cl (2 * p) - cal tk cl p) + cal tk cl (t - (t / p - 1) * p) := by
  rcases Nat.eq_zero_or_pos (t / p - 1) with e | e
  · rw [e]
    simp
  · have h1 : t / p * p ≤ t := Nat.div_mul_le_self t p
    have h2 : (t / p - 1) * p + p = t / p * p := by
      rw [Nat.sub_mul, Nat.one_mul]
      have : p ≤ t / p * p := Nat.le_mul_of_pos_left p (by omega)
      omega
    have q := cal_far (tk := tk) (cl := cl) hp ht hc (t := t - (t / p - 1) * p) (by omega) (t / p - 1)
    rw [show t - (t / p - 1) * p + (t / p - 1) * p = t by omega] at q
    rw [q]
    exact Nat.add_comm _ _
theorem rest_lt (hp : 0 < p) (t : Nat) : t - (t / p - 1) * p < 2 * p := by
  have h := Nat.mod_add_div t p
  have m := Nat.mod_lt t hp
  rcases Nat.eq_zero_or_pos (t / p) with e | e
  · rw [e] at h ⊢
    omega
  · obtain ⟨k, hk⟩ : ∃ k, t / p = k + 1 := ⟨t / p - 1, by omega⟩
    rw [hk] at h ⊢
    rw [Nat.mul_comm, Nat.succ_mul] at h
    simp only [Nat.add_sub_cancel]
    omega
theorem take_sum (tk : List Nat) : ∀ i, i ≤ tk.length → tak tk i = (tk.take i).sum
  | 0, _ => by simp [tak]
  | i + 1, h => by
    show tak tk i + atp tk i = _
    rw [take_sum tk i (by omega)]
    unfold atp
    rw [Nat.mod_eq_of_lt (by omega), List.getD_eq_getElem?_getD, List.getElem?_eq_getElem (by omega)]
    have e : tk.take (i + 1) = tk.take i ++ [tk[i]] := by simp
    rw [e, List.sum_append]
    simp
theorem tak_mul (tk : List Nat) : ∀ q r, tak tk (r + q * tk.length) = q * tk.sum + tak tk r
  | 0, r => by simp
  | q + 1, r => by
    rw [Nat.succ_mul, ← Nat.add_assoc, tak_add tk.length (Nat.dvd_refl _), tak_mul tk q r, take_sum tk tk.length (Nat.le_refl _), List.take_length, Nat.succ_mul]
    omega
theorem tak_is (tk : List Nat) (h : 0 < tk.length) (t : Nat) : tak tk t = t / tk.length * tk.sum + (tk.take (t % tk.length)).sum := by
  rw [← take_sum tk (t % tk.length) (Nat.le_of_lt (Nat.mod_lt t h)), ← tak_mul tk (t / tk.length)]
  congr 1
  have := Nat.mod_add_div t tk.length
  rw [Nat.mul_comm] at this
  omega
theorem per_tk : tk.length ∣ per tk cl := Nat.dvd_lcm_left _ _
theorem per_cl : cl.length ∣ per tk cl := Nat.dvd_lcm_right _ _
theorem per_pos (h1 : 0 < tk.length) (h2 : 0 < cl.length) : 0 < per tk cl := Nat.lcm_pos h1 h2
theorem per_le : per tk cl ≤ tk.length * cl.length := by
  unfold per Nat.lcm
  exact Nat.div_le_self _ _
theorem atp_le {ps : List Nat} (h9 : ∀ x ∈ ps, x ≤ 9) (t : Nat) : atp ps t ≤ 9 := by
  unfold atp
  rw [List.getD_eq_getElem?_getD]
  cases e : ps[t % ps.length]? with
  | none => simp
  | some x =>
    simp only [Option.getD_some]
    exact h9 x (List.mem_of_getElem? e)
theorem tak_le {tk : List Nat} (h9 : ∀ x ∈ tk, x ≤ 9) : ∀ t, tak tk t ≤ 9 * t
  | 0 => Nat.le_refl _
  | t + 1 => by
    have h1 := tak_le h9 t
    have h2 := atp_le h9 t
    show tak tk t + atp tk t ≤ 9 * (t + 1)
    omega
end
end Mm

/-! ### The checks of arguments -/
namespace Tk
open PySem PySem.Spec PyProof.Rows L2
/-- values of the kinds that are passed -/
inductive Arg (H : Hp) : V → Prop where
  | non : Arg H .non
  | bl (b : Bool) : Arg H (.bl b)
  | int (i : Int) : Arg H (.int i)
  | str (x : Str) : Arg H (.str x)
  | lst {a : Addr} {xs : List V} (e : H a = some (.lst xs)) : Arg H (.ref a)
  | tup {a : Addr} {xs : List V} (e : H a = some (.tup xs)) : Arg H (.ref a)
def isInt : V → Bool
  | .int _ => true
  | _ => false
def inB (lo hi : Int) : V → Bool
  | .int i => decide (lo ≤ i) && decide (i ≤ hi)
  | _ => false
def spWithin : Sp := fun vs H Q _ => ∃ (v : V) (lo hi : Int), vs = [v, .int lo, .int hi] ∧ Arg H v ∧ Q (.bl (inB lo hi v)) H
section
variable {P : Program} {w : World} {K : PySem.W.Frag} {mg : Str → Option Value} {base : Heap}
theorem boot_ty_bool : bootBuiltins "bool" = some (.type "bool") := by decide +kernel
theorem boot_ty_int : bootBuiltins "int" = some (.type "int") := by decide +kernel
theorem boot_ty_str : bootBuiltins "str" = some (.type "str") := by decide +kernel
theorem boot_ty_tuple : bootBuiltins "tuple" = some (.type "tuple") := by decide +kernel
theorem boot_ty_list : bootBuiltins "list" = some (.type "list") := by decide +kernel
theorem kit_at {a b : String} {r : Bool} (h : kitB a b = some r) : PySem.W.kitOne K (.type a) (.type b) = some r := kit_ty h
/-- the type of such a value and what isinstance says of five classes -/
theorem Arg.ty {H : Hp} {v : V} (h : Arg H v) : ∃ n : String, TyX K H v (.type n) ∧ (∃ b, kitB n "bool" = some b ∧ (b = true ↔ ∃ x, v = .bl x)) ∧ (∃ b, kitB n "int" = some b ∧ (b = true ↔ ((∃ x, v = .bl x) ∨ ∃ i, v = .int i))) := by
  cases h with
  | non => exact ⟨_, .base .non, ⟨false, by decide +kernel, by simp⟩, ⟨false, by decide +kernel, by simp⟩⟩
  | bl b => exact ⟨_, .base (.bl b), ⟨true, by decide +kernel, by simp⟩, ⟨true, by decide +kernel, by simp⟩⟩
  | int i => exact ⟨_, .base (.int i), ⟨false, by decide +kernel, by simp⟩, ⟨true, by decide +kernel, by simp⟩⟩
  | str x => exact ⟨_, .base (.str x), ⟨false, by decide +kernel, by simp⟩, ⟨false, by decide +kernel, by simp⟩⟩
  | lst e => exact ⟨_, .base (.lst e), ⟨false, by decide +kernel, by simp⟩, ⟨false, by decide +kernel, by simp⟩⟩
  | tup e => exact ⟨_, .base (.tup e), ⟨false, by decide +kernel, by simp⟩, ⟨false, by decide +kernel, by simp⟩⟩
theorem ok_is_integer_within (T : Txt K mg) : OkF P w K mg base 1 (He.ga K "is_integer_within") ["value", "low", "high"] spWithin := by
  refine FnP.okF T.f_is_integer_within sc_is_integer_within (fun _ _ _ _ _ _ us hl => match us, hl with | [_, _, _], _ => rfl) (fun vs H Q E h => ?_) (fun cdv A outer s H vs Q E hr h => ?_)
  · obtain ⟨v, lo, hi, rfl, _⟩ := h
    rfl
  obtain ⟨v, lo, hi, rfl, hv, k⟩ := h
  refine ⟨_, (pss_cons (ps_if (PW.pt (pw_or (pt_val (pe_callB (isiK (K := K)) (by rfl) T.g_isinstance (by decide +kernel) (pa_cons (pv 0) (pa_cons (pe_bltn (v := .ty "bool") (by rfl) T.g_bool boot_ty_bool rfl) pa_nil)))) (pw_or1 (pt_not (pt_val (pe_callB (isiK (K := K)) (by rfl) T.g_isinstance (by decide +kernel) (pa_cons (pv 0) (pa_cons (pe_bltn (v := .ty "int") (by rfl) T.g_int boot_ty_int rfl) pa_nil)))))))) (pss_one (ps_ret pe_bl)) pss_nil)
    (pss_one (ps_ret (pe_chain op_le op_le (pv 1) (pv 0) (pv 2))))), ?_⟩
  obtain ⟨n, ty, ⟨b1, k1, e1⟩, ⟨b2, k2, e2⟩⟩ := Arg.ty (K := K) hv
  refine ⟨_, rfl, v, .ty "bool", _, _, b1, rfl, .ty "bool", ty, kit_at k1, b1, rfl, ?_⟩
  cases b1 with
  | true =>
    obtain ⟨x, rfl⟩ := e1.mp rfl
    exact k
  | false =>
    refine ⟨_, rfl, v, .ty "int", _, _, b2, rfl, .ty "int", ty, kit_at k2, b2, rfl, ?_⟩
    cases b2 with
    | false =>
      have no : inB lo hi v = false := by
        cases v with
        | int i => exact absurd (e2.mpr (.inr ⟨i, rfl⟩)) (by simp)
        | _ => rfl
      rw [no] at k
      exact k
    | true =>
      rcases e2.mp rfl with ⟨x, rfl⟩ | ⟨i, rfl⟩
      · exact absurd (e1.mpr ⟨x, rfl⟩) (by simp)
      · refine ⟨_, rfl, _, rfl, _, _, rfl, rfl, _, rfl, ?_⟩
        refine ite2 (fun c => ?_) (fun c => ?_)
        · refine ⟨_, rfl, _, _, rfl, rfl, ?_⟩
          have c1 : decide (lo ≤ i) = true := c
          show Q (V.bl (decide (i ≤ hi))) H
          have k' : Q (V.bl (decide (lo ≤ i) && decide (i ≤ hi))) H := k
          rw [c1, Bool.true_and] at k'
          exact k'
        · have c1 : decide (lo ≤ i) = false := by
            cases q : decide (lo ≤ i) with
            | true => exact absurd q c
            | false => rfl
          have k' : Q (V.bl (decide (lo ≤ i) && decide (i ≤ hi))) H := k
          rw [c1, Bool.false_and] at k'
          exact k'
end
end Tk

/-! ### for i, x in enumerate(a tuple) -/
namespace Tk
open PySem PySem.Spec PyProof.Rows L2
set_option maxHeartbeats 1000000 in
theorem meets_enum1 {v : Value} {o : Obj} {Hs : Heap → Prop} (B : Begins v o Hs) : Meets (Builtin.«enumerate.__new__» ⟨[.type "enumerate", v], []⟩) (fun _ R s => Hs s.heap ∧
    R (.ok (.ret (.ref (s.heap.push o).objs.size))) { s with heap := (s.heap.push o).push { cls := .type "enumerate", data := .fields #[.none, .bool false, .ref s.heap.objs.size, rawInt 0, .none, .none] } }) :=
  .of_wp fun prog w A R s h => by
    obtain ⟨hp, g, d, tk, os⟩ := s
    obtain ⟨b0, b1⟩ := h
    have us := sub_enumerate
    have step : ∀ {A' : Around} {E : Value → Shared → Prop} {Q : Value → Shared → Prop}, Q (.ref hp.objs.size) ⟨hp.push o, g, d, tk, os⟩ → wpAny (model prog w) A' (pyIter v) Q E ⟨hp, g, d, tk, os⟩ :=
      fun z => B.iter prog w _ _ ⟨hp, g, d, tk, os⟩ _ b0 z
    wp_walk using step
    refine wpAny_stack_any fun st => wpAny_pure ?_
    split
    · rename_i c _ _ _ _ _
      cases (c == Value.type "enumerate") <;> (wp_walk using step; exact ⟨_, rfl, b1⟩)
    · wp_walk using step
      exact ⟨_, rfl, b1⟩
theorem enum_of_tuple {prog : Program} {w : World} {A : Around} {E : Value → Shared → Prop} {s : Shared} {t : Addr} {items : Array Value} {Q : Value → Shared → Prop} (ht : s.heap.IsTuple t items)
    (h : ∀ h', IsEnum h' (s.heap.objs.size + 1) s.heap.objs.size 0 .none → h'.IsTupleIter s.heap.objs.size t 0 → (∀ b o, s.heap.get? b = some o → h'.get? b = some o) → Q (.ref (s.heap.objs.size + 1)) { s with heap := h' }) :
    wpAny (model prog w) A (call (.type "enumerate") [.ref t]) Q E s := by
  refine callType_new F.called_enumerate (by decide) (F.typeCall_enumerate_1 _) (F.newCall_enumerate_1 _) (fun obj => F.args_object_init_2 obj _) F.entry_enumerate_new (meets_enum1 (begins_tuple t items)) ⟨ht, ?_⟩
  have z : (s.heap.push { cls := .type "tuple_iterator", data := .fields #[.ref t, .int 0 0] }).objs.size = s.heap.objs.size + 1 := Heap.size_push ..
  have e2 := Heap.get?_push_size (s.heap.push { cls := .type "tuple_iterator", data := .fields #[.ref t, .int 0 0] }) (o := { cls := .type "enumerate", data := .fields #[.none, .bool false, .ref s.heap.objs.size, rawInt 0, .none, .none] }) rfl
  show _ ∧ _
  rw [z] at e2 ⊢
  exact ⟨⟨_, e2, rfl⟩, h _ e2 ⟨_, Heap.get?_push_of_some _ (Heap.get?_push_size _ rfl), rfl, rfl⟩ fun b o x => Heap.get?_push_of_some _ (Heap.get?_push_of_some _ x)⟩
/-- the tuple at a, each item in a new pair -/
def Itu (K : PySem.W.Frag) (a : Addr) : It :=
  ⟨fun i H => ∃ (xs : List V) (x : V), SqT K H a xs ∧ xs[i]? = some x, fun i H v H' => ∃ T x, v = .ref T ∧ H T = none ∧ H' = upd H T (.tup [vnI i, x]) ∧ ∀ xs, SqT K H a xs → xs[i]? = some x, fun i H => ∃ xs : List V, SqT K H a xs ∧ xs.length ≤ i⟩
/-- an iterator at a tuple's end -/
theorem draws_end {prog : Program} {w : World} {A : Around} (hh : A.handled = none) (it t : Addr) (i : Nat) (items : Array Value) (hx : items[i]? = none) :
    Draws prog w A it [it, t] i (fun _ _ => False) (fun j h => j = i ∧ h.IsTupleIter it t i ∧ h.IsTuple t items) where
  live := fun _ _ st => let ⟨_, ⟨o, ho, _⟩, _⟩ := st; ⟨o, ho⟩
  frame := fun _ _ _ st hk => by
    obtain ⟨e, ⟨o, ho, r⟩, o2, ho2, r2⟩ := st
    exact ⟨e, ⟨o, hk it (by simp) o ho, r⟩, o2, hk t (by simp) o2 ho2, r2⟩
  item := fun j s Q E hj st _ => absurd st.1 (by omega)
  done := fun s Q E st hE => wpAny_nextOf_tuple_end hh st.2.1 st.2.2 hx hE
theorem turn_enumT {P : Program} {w : World} {K : PySem.W.Frag} {elts : List Expr} {kk : Nat} {tpos : Pos} (a e it : Addr) (h1 : e ≠ it) (h2 : a ≠ it) (h3 : a ≠ e) :
    Turn P w K (.Tuple elts kk tpos) (Itu K a) [e, it] e (fun i h => (∃ old, IsEnum h e it ((i : Nat) : Int) old) ∧ h.IsTupleIter it a i) where
  mem := List.mem_cons_self
  obj := fun i h st b hb => by
    obtain ⟨⟨old, he⟩, o, ho, hc, hd⟩ := st
    rcases List.mem_cons.mp hb with z | z
    · rw [z]
      exact ⟨_, he, fun v q => nomatch q⟩
    · exact ⟨o, by rw [List.mem_singleton.mp z]; exact ho, fun v q => by rw [hd] at q; cases q⟩
  keep := fun i h h' st k => by
    obtain ⟨⟨old, he⟩, o, ho, r⟩ := st
    exact ⟨⟨old, k e (by simp) _ he⟩, o, k it (by simp) o ho, r⟩
  item := by
    intro X hP hw hK hc i pins s σ H E I hf st hg
    subst hP hw hK
    obtain ⟨⟨old, he⟩, hit⟩ := st
    obtain ⟨xs, x, hq, hx⟩ := hg
    obtain ⟨its, rv, p, hz⟩ := I.tuple hq
    obtain ⟨u, hu, ru⟩ := rv.get hx
    have le : e < s.heap.objs.size := Heap.lt_size he
    have li : it < s.heap.objs.size := by
      obtain ⟨_, q, _⟩ := hit
      exact Heap.lt_size q
    have hi : i < its.toArray.size := by
      have := (List.getElem?_eq_some_iff.mp hu).1
      simpa using this
    refine wpAny_pyNext_enum_itemD (Draws.tuple (A := X.A.in1) (I.ok.hd hc) it a h2 its.toArray) he ⟨hit, istup_old p⟩ hi h1 (by simp [h1, h3.symm]) fun y h' tk hy ho hs hT hsz hk => ?_
    have ey : y = u := by
      have q : its[i]? = some y := by simpa using hy
      rw [hu] at q
      exact (Option.some.inj q).symm
    subst ey
    refine ⟨_, rfl, wpAny_letOwnedTupleGo_enum (s := { s with heap := h', toks := tk + 1 }) ho fun h2' he2 sb => ?_⟩
    have T2 : h2'.get? s.heap.objs.size = some { cls := .type "tuple", data := .seq #[.int i tk, y] } := (sb.2 _ (Nat.ne_of_gt le)).trans hT
    have I1 := I.turnedNew (t' := tk + 1) (ch := [e, it]) (h' := h2') (T := s.heap.objs.size) (ob := .tup [vnI i, x]) (fun b ob hb q => (sb.2 b (fun z => hb (by simp [z]))).trans (hk b ob (fun z => hb (by simp [z])) (fun z => hb (by simp [z])) q)) hf (Nat.le_refl _)
      ⟨by show 2 ≤ sizeLine; decide, [.int i tk, y], .cons ⟨_, rfl⟩ (.cons ru .nil), ⟨_, T2, rfl, _, rfl⟩⟩
    refine ⟨.ref s.heap.objs.size, _, I1, rfl, ⟨_, x, rfl, I.hok.fresh (Nat.le_refl _), rfl, fun ys hy2 => by rw [I.tuple_inj hy2 hq]; exact hx⟩, ⟨⟨y, ?_⟩, ?_⟩, fun b hb => ?_⟩
    · rw [show ((i + 1 : Nat) : Int) = (i : Int) + 1 by omega]
      exact he2
    · obtain ⟨⟨o, ho2, r⟩, _⟩ := hs
      exact ⟨o, (sb.2 it h1.symm).trans ho2, r⟩
    · have lb : b < s.heap.objs.size := by
        rcases List.mem_cons.mp hb with z | z
        · rw [z]; exact le
        · rw [List.mem_singleton.mp z]; exact li
      rw [upd_ne (Nat.ne_of_lt lb)]
      exact (hf b hb).1
  done := by
    intro X hP hw hK hc i pins s σ H E I hf st hg
    subst hP hw hK
    obtain ⟨⟨old, he⟩, hit⟩ := st
    obtain ⟨xs, hq, hx⟩ := hg
    obtain ⟨its, rv, p, hz⟩ := I.tuple hq
    have hl := rv.length
    refine wpAny_pyNext_enum_endD (draws_end (A := X.A.in1) (I.ok.hd hc) it a i its.toArray (by simp; omega)) he ⟨rfl, hit, istup_old p⟩ fun h' q => ⟨rfl, ?_⟩
    exact I.turnedL (t' := s.toks) (ch := [it]) (fun b o hb r => q b o (fun z => hb (by simp [z])) r) fun b hb => hf b (by rw [List.mem_singleton.mp hb]; simp)
  self := fun A i s Q E st h => by
    obtain ⟨⟨_, he⟩, _⟩ := st
    exact wpAny_pyIter_enum he h
def iEnumT (K : PySem.W.Frag) (ta : TA) : TI := fun σ H R => ta σ H fun vs H1 => ∃ a xs, vs = [.ref a] ∧ SqT K H1 a xs ∧ R (Itu K a) H1
theorem pi_enumT {X : Cx} {e : Expr} {ta : TA} {p pos tpos : Pos} {elts : List Expr} {kk : Nat} (hg : Gl X "enumerate") (hm : X.mg "enumerate" = none) (ha : PA X [e] ta) (hs : starEach [e] X.env = [(false, eval e X.env)] := by rfl) :
    PI X (.Tuple elts kk tpos) (.Call (.Name "enumerate" p) [e] [] pos) (iEnumT X.K ta) := by
  refine ⟨fun pins s σ H R I h => Call_ (ld_blt I hg hm boot_enumerate (PyProof.Rows.callWith_type1 (thn (ha.run pos pins s σ H _ I h) fun us s1 ⟨vs, H1, I1, r1, q1⟩ => ?_) hs rfl))⟩
  obtain ⟨a, xs, rfl, hq, q⟩ := q1
  cases r1 with
  | cons r rr =>
    cases rr
    cases r
    obtain ⟨its, rv, p', hz⟩ := I1.tuple hq
    have la : a < s1.heap.objs.size := p'.lt
    refine enum_of_tuple (istup_old p') fun h' he hit hk => wpAny_pyIter_enum he ?_
    refine ⟨s1.heap.objs.size + 1, [s1.heap.objs.size + 1, s1.heap.objs.size], _, _, H1, rfl, I1.kept (t' := s1.toks) hk, turn_enumT a (s1.heap.objs.size + 1) s1.heap.objs.size (Nat.succ_ne_self _) (Nat.ne_of_lt la) (Nat.ne_of_lt (Nat.lt_succ_of_lt la)), ⟨⟨.none, he⟩, hit⟩, fun b hb => ?_, q⟩
    have hle : s1.heap.objs.size ≤ b := by
      rcases List.mem_cons.mp hb with z | z
      · rw [z]; exact Nat.le_succ _
      · rw [List.mem_singleton.mp z]; exact Nat.le_refl _
    exact I1.fpOk hle (I1.hok.fresh hle)
/-- its loop -/
theorem for_enumT {K : PySem.W.Frag} {a : Addr} {xs : List V} {g : TG} {tb : TS} {D : Ends} {σ : L2.St} {H : Hp} (Pv : Nat → L2.St → Hp → Prop) (h0 : Pv 0 σ H) (hl : ∀ i σ H, i ≤ xs.length → Pv i σ H → SqT K H a xs)
    (hs : ∀ i x σ H, xs[i]? = some x → Pv i σ H → ∀ T, H T = none → g (.ref T) σ (upd H T (.tup [vnI i, x])) fun σ2 H2 => tb { D with nx := Pv (i + 1), ct := Pv (i + 1), bk := D.nx } σ2 H2) (hd : ∀ σ H, Pv xs.length σ H → D.nx σ H) :
    ∃ W : Nat → Nat → L2.St → Hp → Prop, (∃ m, W 0 m σ H) ∧ ∀ i m σ H, W i m σ H →
      ((Itu K a).stop i H ∧ D.nx σ H) ∨ ((Itu K a).go i H ∧ ∃ N : L2.St → Hp → Prop, (∀ σ' H', N σ' H' → ∃ m', m' < m ∧ W (i + 1) m' σ' H') ∧ ∀ x H', (Itu K a).yld i H x H' → g x σ H' fun σ2 H2 => tb { D with nx := N, ct := N, bk := D.nx } σ2 H2) := by
  refine ⟨fun i m σ H => m = xs.length - i ∧ i ≤ xs.length ∧ Pv i σ H, ⟨_, rfl, Nat.zero_le _, h0⟩, fun i m σ H w => ?_⟩
  obtain ⟨rfl, hi, p⟩ := w
  have sq := hl i σ H hi p
  rcases Nat.lt_or_ge i xs.length with lt | ge
  · have at_ : xs[i]? = some xs[i] := by simp [lt]
    refine .inr ⟨⟨xs, xs[i], sq, at_⟩, Pv (i + 1), fun σ' H' p' => ⟨_, (by omega : xs.length - (i + 1) < xs.length - i), rfl, lt, p'⟩, fun x H' y => ?_⟩
    obtain ⟨T, x', rfl, hT, rfl, hx⟩ := y
    exact hs i x' σ H (hx xs sq) p T hT
  · obtain rfl : i = xs.length := by omega
    exact .inl ⟨⟨xs, sq, Nat.le_refl _⟩, hd σ H p⟩
end Tk

/-! ### The checks, of what is valid -/
namespace Tk
open PySem PySem.Spec PyProof.Rows L2
def spTick : Sp := fun vs H Q _ => ∃ t : Int, vs = [.int t] ∧ 0 ≤ t ∧ t ≤ 1000000000000000000 ∧ Q .non H
def spFii : Sp := fun vs H Q _ => ∃ (p : Addr) (ps : List Nat), vs = [.ref p] ∧ H p = some (.tup (ps.map vn)) ∧ Pat ps ∧ ∀ H', Same H H' → Q .non H'
def spChk : Sp := fun vs H Q _ => ∃ (v : V) (p : Addr) (ps : List Nat), vs = [v, .ref p] ∧ H p = some (.tup (ps.map vn)) ∧ Pat ps ∧ ∀ H', Same H H' → Q .non H'
def spChall : Sp := fun vs H Q _ => ∃ (tp cp : Addr) (m lt : Nat) (tk cl : List Nat), vs = [vn m, .ref tp, .ref cp, vn lt] ∧ H tp = some (.tup (tk.map vn)) ∧ H cp = some (.tup (cl.map vn)) ∧ Parts m tk cl lt ∧ ∀ H', Same H H' → Q .non H'
theorem inB_in {lo hi i : Int} (h1 : lo ≤ i) (h2 : i ≤ hi) : inB lo hi (.int i) = true := by
  show (decide (lo ≤ i) && decide (i ≤ hi)) = true
  rw [decide_eq_true h1, decide_eq_true h2]
  rfl
theorem Same.upd2 {H : Hp} {a : Addr} {o : HO} (h : H a = none) {H0 : Hp} (s : Same H0 H) : Same H0 (upd H a o) := s.trans (Same.new h)
section
variable {P : Program} {w : World} {K : PySem.W.Frag} {mg : Str → Option Value} {base : Heap}
theorem ok_check_tick (T : Txt K mg) : OkF P w K mg base 2 (He.ga K "check_tick") ["tick"] spTick := by
  have G_is_integer_within : OkF P w K mg base 1 (He.ga K "is_integer_within") ["value", "low", "high"] spWithin := ok_is_integer_within T
  refine FnP.okF T.f_check_tick sc_check_tick (fun _ _ _ _ _ _ us hl => match us, hl with | [_], _ => rfl) (fun vs H Q E h => ?_) (fun cdv A outer s H vs Q E hr h => ?_)
  · obtain ⟨t, rfl, _⟩ := h
    rfl
  obtain ⟨t, rfl, t0, t1, k⟩ := h
  refine ⟨_, (pss_one (ps_if (pt_not (pt_val (pe_call G_is_integer_within.one (hr.mono (by decide)) (by rfl) T.g_is_integer_within G_is_integer_within.kp G_is_integer_within.two .nil passL (pa_cons (pv 0) (pa_cons pe_int (pa_cons (pe_gint (by rfl) T.c_LAST_TICK) pa_nil)))))) (pss_one ps_never) pss_nil)), ?_⟩
  refine ⟨_, rfl, .int t, 0, 1000000000000000000, rfl, .int t, true, by rw [inB_in t0 t1], ?_⟩
  exact k
theorem ok_first_invalid_item (T : Txt K mg) : OkF P w K mg base 2 (He.ga K "first_invalid_item") ["pattern"] spFii := by
  have G_is_integer_within : OkF P w K mg base 1 (He.ga K "is_integer_within") ["value", "low", "high"] spWithin := ok_is_integer_within T
  refine FnP.okF T.f_first_invalid_item sc_first_invalid_item (fun _ _ _ _ _ _ us hl => match us, hl with | [_], _ => rfl) (fun vs H Q E h => ?_) (fun cdv A outer s H vs Q E hr h => ?_)
  · obtain ⟨p, ps, rfl, _⟩ := h
    rfl
  obtain ⟨p, ps, rfl, hp, hP, k⟩ := h
  refine ⟨_, (pss_cons (ps_if (PW.pt (pw_or (pt_not (pt_val (pe_callB (isiK (K := K)) (by rfl) T.g_isinstance (by decide +kernel) (pa_cons (pv 0) (pa_cons (pe_bltn (v := .ty "tuple") (by rfl) T.g_tuple boot_ty_tuple rfl) pa_nil))))) (pw_or1 (pt_cmpR op_eq (pe_callB (lenK (K := K)) (by rfl) T.g_len (by decide +kernel) (pa_cons (pv 0) pa_nil)) pe_int (nomark _))))) (pss_one (ps_ret pe_int)) pss_nil)
    (pss_cons (ps_for own_cx rfl (pi_enumT (by rfl) T.g_enumerate (pa_cons (pv 0) pa_nil)) (pg_tup rfl (pgs_cons (pg_name (i := 1) sc_first_invalid_item.nd rfl (Or.inl rfl)) (pgs_cons (pg_name (i := 2) sc_first_invalid_item.nd rfl (Or.inl rfl)) pgs_nil)))
      (pss_one (ps_if (PW.pt (pw_or (pt_cmpR op_eq (pv 1) (pe_gint (by rfl) T.c_MOST_ITEMS) (nomark _)) (pw_or1 (pt_not (pt_val (pe_call G_is_integer_within.one (hr.mono (by decide)) (by rfl) T.g_is_integer_within G_is_integer_within.kp G_is_integer_within.two .nil passL (pa_cons (pv 2) (pa_cons pe_int (pa_cons (pe_gint (by rfl) T.c_GREATEST_ITEM) pa_nil))))))))) (pss_one (ps_ret (pv 1))) pss_nil)))
    (pss_one (ps_ret pe_non)))), ?_⟩
  -- not a tuple, or empty
  refine ⟨_, rfl, .ref p, .ty "tuple", .type "tuple", _, true, rfl, .ty "tuple", .base (.tup hp), kit_at (by decide +kernel), true, rfl, ?_⟩
  refine ⟨_, rfl, p, _, rfl, .inr (SqT.of hp), rfl, _, rfl, ?_⟩
  refine ite2 (fun c => ?_) (fun _ => ?_)
  · exfalso
    have e : V.int ((ps.map vn).length : Int) = V.int 0 := of_decide_eq_true c
    have e2 : ((ps.map vn).length : Int) = 0 := by injection e
    rw [List.length_map] at e2
    have := hP.pos
    omega
  refine ⟨_, rfl, p, _, rfl, SqT.of hp, for_enumT (K := K) (a := p) (xs := ps.map vn) (fun i σ H2 => ∃ a b, σ = [some (.ref p), a, b] ∧ Same H H2) ⟨_, _, rfl, Same.refl H⟩
    (fun i σ H2 _ ⟨_, _, _, e⟩ => SqT.of (e _ _ hp)) ?_ ?_⟩
  · rintro i x σ H2 hx ⟨a, b, rfl, hS⟩ Tp hT
    have hi : i < ps.length := by
      have := (List.getElem?_eq_some_iff.mp hx).1
      rwa [List.length_map] at this
    obtain ⟨y, rfl, hy⟩ : ∃ y, x = vn y ∧ ps[i]? = some y := by
      rw [List.getElem?_map] at hx
      cases e : ps[i]? with
      | none => rw [e] at hx; cases hx
      | some u => rw [e] at hx; exact ⟨u, (Option.some.inj hx).symm, rfl⟩
    have y9 := hP.nine y (List.mem_of_getElem? hy)
    have hS2 : Same H (upd H2 Tp (.tup [vnI i, vn y])) := Same.upd2 hT hS
    refine ⟨Tp, _, rfl, SqT.of upd_same, rfl, _, _, rfl, _, _, rfl, rfl, ?_⟩
    refine ⟨_, rfl, rfl, _, rfl, ?_⟩
    refine ite2 (fun c => ?_) (fun _ => ?_)
    · exfalso
      have e : V.int (i : Int) = V.int 12 := of_decide_eq_true c
      have e2 : (i : Int) = 12 := by injection e
      have := hP.len
      omega
    refine ⟨_, rfl, vn y, 0, 9, rfl, .int _, true, by rw [inB_in (by omega) (by omega)], ?_⟩
    exact ⟨_, _, rfl, hS2⟩
  · rintro σ H2 ⟨a, b, rfl, hS⟩
    exact k H2 hS
theorem ok_check_pattern (T : Txt K mg) : OkF P w K mg base 3 (He.ga K "check_pattern") ["part", "pattern"] spChk := by
  have G_first_invalid_item : OkF P w K mg base 2 (He.ga K "first_invalid_item") ["pattern"] spFii := ok_first_invalid_item T
  refine FnP.okF T.f_check_pattern sc_check_pattern (fun _ _ _ _ _ _ us hl => match us, hl with | [_, _], _ => rfl) (fun vs H Q E h => ?_) (fun cdv A outer s H vs Q E hr h => ?_)
  · obtain ⟨v, p, ps, rfl, _⟩ := h
    rfl
  obtain ⟨v, p, ps, rfl, hp, hP, k⟩ := h
  refine ⟨_, (pss_cons (ps_set (i := 2) sc_check_pattern.nd rfl (Or.inl rfl) (pe_call G_first_invalid_item.one (hr.mono (by decide)) (by rfl) T.g_first_invalid_item G_first_invalid_item.kp G_first_invalid_item.two .nil passL (pa_cons (pv 1) pa_nil)))
    (pss_one (ps_if (pt_cmpR (show OpR _ (compareOp .IsNot) Rd.rNotN from op_notN) (pv 2) pe_non (nomark _)) (pss_one ps_never) pss_nil))), ?_⟩
  refine ⟨_, rfl, p, ps, rfl, hp, hP, fun H' hS => ?_⟩
  refine ⟨_, rfl, rfl, _, rfl, ?_⟩
  exact k H' hS
theorem ok_check_hall (T : Txt K mg) : OkF P w K mg base 4 (He.ga K "check_hall") ["modulus", "takes", "calls", "lateness"] spChall := by
  have G_is_integer_within : OkF P w K mg base 1 (He.ga K "is_integer_within") ["value", "low", "high"] spWithin := ok_is_integer_within T
  have G_check_pattern : OkF P w K mg base 3 (He.ga K "check_pattern") ["part", "pattern"] spChk := ok_check_pattern T
  refine FnP.okF T.f_check_hall sc_check_hall (fun _ _ _ _ _ _ us hl => match us, hl with | [_, _, _, _], _ => rfl) (fun vs H Q E h => ?_) (fun cdv A outer s H vs Q E hr h => ?_)
  · obtain ⟨tp, cp, m, lt, tk, cl, rfl, _⟩ := h
    rfl
  obtain ⟨tp, cp, m, lt, tk, cl, rfl, htp, hcp, hP, k⟩ := h
  refine ⟨_, (pss_cons (ps_if (pt_not (pt_val (pe_call G_is_integer_within.one (hr.mono (by decide)) (by rfl) T.g_is_integer_within G_is_integer_within.kp G_is_integer_within.two .nil passL (pa_cons (pv 0) (pa_cons (pe_gint (by rfl) T.c_LEAST_MODULUS) (pa_cons (pe_gint (by rfl) T.c_GREATEST_MODULUS) pa_nil)))))) (pss_one ps_never) pss_nil)
    (pss_cons (ps_expr (pe_call G_check_pattern.one (hr.mono (by decide)) (by rfl) T.g_check_pattern G_check_pattern.kp G_check_pattern.two .nil passL (pa_cons pe_str (pa_cons (pv 1) pa_nil))))
    (pss_cons (ps_expr (pe_call G_check_pattern.one (hr.mono (by decide)) (by rfl) T.g_check_pattern G_check_pattern.kp G_check_pattern.two .nil passL (pa_cons pe_str (pa_cons (pv 2) pa_nil))))
    (pss_one (ps_if (pt_not (pt_val (pe_call G_is_integer_within.one (hr.mono (by decide)) (by rfl) T.g_is_integer_within G_is_integer_within.kp G_is_integer_within.two .nil passL (pa_cons (pv 3) (pa_cons pe_int (pa_cons (pe_gint (by rfl) T.c_GREATEST_LATENESS) pa_nil)))))) (pss_one ps_never) pss_nil))))), ?_⟩
  have m2 := hP.m2
  have m4 := hP.m4
  have l9 := hP.l99
  refine ⟨_, rfl, vn m, 2, 10000, rfl, .int _, true, by rw [inB_in (by omega) (by omega)], ?_⟩
  refine ⟨_, rfl, _, tp, tk, rfl, htp, hP.tkP, fun H1 S1 => ?_⟩
  refine ⟨_, rfl, _, cp, cl, rfl, S1 _ _ hcp, hP.clP, fun H2 S2 => ?_⟩
  refine ⟨_, rfl, vn lt, 0, 99, rfl, .int _, true, by rw [inB_in (by omega) (by omega)], ?_⟩
  exact k H2 (S1.trans S2)
end
end Tk

/-! ### The hall -/
namespace Tk
open PySem PySem.Spec PyProof.Rows L2 Mm
def calV (tk cl : List Nat) (n : Nat) : List V := (List.range (n + 1)).map fun t => vn (cal tk cl t)
theorem calV_len {tk cl : List Nat} {n : Nat} : (calV tk cl n).length = n + 1 := by unfold calV; simp
theorem calV_at {tk cl : List Nat} {n t : Nat} (h : t ≤ n) : (calV tk cl n)[t]? = some (vn (cal tk cl t)) := by
  unfold calV
  rw [List.getElem?_map, List.getElem?_range (by omega)]
  rfl
theorem calV_succ {tk cl : List Nat} {n : Nat} : calV tk cl (n + 1) = calV tk cl n ++ [vn (cal tk cl (n + 1))] := by
  unfold calV
  rw [List.range_succ, List.map_append]
  rfl
theorem pat_at {ps : List Nat} (h : 0 < ps.length) {z : Int} {i : Nat} (e : z = (i : Int)) : atI (ps.map vn) (z % ((ps.map vn).length : Int)) = some (vn (atp ps i)) := by
  subst e
  rw [List.length_map, show (i : Int) % (ps.length : Int) = ((i % ps.length : Nat) : Int) from (Int.natCast_emod _ _).symm]
  refine atn ?_
  have lt := Nat.mod_lt i h
  rw [List.getElem?_map]
  unfold atp
  rw [List.getD_eq_getElem?_getD, List.getElem?_eq_getElem lt]
  rfl
def hfs (m : Nat) (tp cp : Addr) (lt : Nat) (lp : Addr) : List (Str × V) := putF "_called" (.ref lp) (putF "lateness" (vn lt) (putF "calls" (.ref cp) (putF "takes" (.ref tp) (putF "modulus" (vn m) []))))
theorem hfs_no {m : Nat} {tp cp : Addr} {lt : Nat} {lp : Addr} {x : Str} (h1 : ¬ x = "_called") (h2 : ¬ x = "lateness") (h3 : ¬ x = "calls") (h4 : ¬ x = "takes") (h5 : ¬ x = "modulus") : (hfs m tp cp lt lp).lookup x = none := by
  unfold hfs
  rw [lookup_putF, if_neg h1, lookup_putF, if_neg h2, lookup_putF, if_neg h3, lookup_putF, if_neg h4, lookup_putF, if_neg h5]
  rfl
theorem hfs_takes {m : Nat} {tp cp : Addr} {lt : Nat} {lp : Addr} : (hfs m tp cp lt lp).lookup ("takes" : Str) = some (.ref tp) := by
  unfold hfs
  rw [lookup_putF, if_neg (by decide +kernel), lookup_putF, if_neg (by decide +kernel), lookup_putF, if_neg (by decide +kernel), lookup_putF, if_pos rfl]
theorem hfs_calls {m : Nat} {tp cp : Addr} {lt : Nat} {lp : Addr} : (hfs m tp cp lt lp).lookup ("calls" : Str) = some (.ref cp) := by
  unfold hfs
  rw [lookup_putF, if_neg (by decide +kernel), lookup_putF, if_neg (by decide +kernel), lookup_putF, if_pos rfl]
theorem hfs_lateness {m : Nat} {tp cp : Addr} {lt : Nat} {lp : Addr} : (hfs m tp cp lt lp).lookup ("lateness" : Str) = some (vn lt) := by
  unfold hfs
  rw [lookup_putF, if_neg (by decide +kernel), lookup_putF, if_pos rfl]
theorem hfs_called {m : Nat} {tp cp : Addr} {lt : Nat} {lp : Addr} : (hfs m tp cp lt lp).lookup ("_called" : Str) = some (.ref lp) := by
  unfold hfs
  rw [lookup_putF, if_pos rfl]
theorem hfs_modulus {m : Nat} {tp cp : Addr} {lt : Nat} {lp : Addr} : (hfs m tp cp lt lp).lookup ("modulus" : Str) = some (vn m) := by
  unfold hfs
  rw [lookup_putF, if_neg (by decide +kernel), lookup_putF, if_neg (by decide +kernel), lookup_putF, if_neg (by decide +kernel), lookup_putF, if_neg (by decide +kernel), lookup_putF, if_pos rfl]
/-- a hall at h, its numbers of calls at lp -/
structure HallAt (C : Addr) (H : Hp) (h : Addr) (m : Nat) (tk cl : List Nat) (lt : Nat) (lp : Addr) : Prop where
  ex : ∃ dx tp cp, H h = some (.ins C dx (hfs m tp cp lt lp)) ∧ H tp = some (.tup (tk.map vn)) ∧ H cp = some (.tup (cl.map vn))
  lst : H lp = some (.lst (calV tk cl (2 * per tk cl)))
  ok : Parts m tk cl lt
theorem HallAt.but {C d h lp : Addr} {H H' : Hp} {m lt : Nat} {tk cl : List Nat} {cs : List V} (p : HallAt C H h m tk cl lt lp) (b : But d H H') (hd : H d = some (.lst cs)) (n : lp ≠ d) : HallAt C H' h m tk cl lt lp := by
  obtain ⟨dx, tp, cp, h1, h2, h3⟩ := p.ex
  exact ⟨⟨dx, tp, cp, b _ _ (ne_of h1 hd (fun q => by cases q)) h1, b _ _ (ne_of h2 hd (fun q => by cases q)) h2, b _ _ (ne_of h3 hd (fun q => by cases q)) h3⟩, b _ _ n p.lst, p.ok⟩
theorem HallAt.same {C h lp : Addr} {H H' : Hp} {m lt : Nat} {tk cl : List Nat} (p : HallAt C H h m tk cl lt lp) (b : Same H H') : HallAt C H' h m tk cl lt lp := by
  obtain ⟨dx, tp, cp, h1, h2, h3⟩ := p.ex
  exact ⟨⟨dx, tp, cp, b _ _ h1, b _ _ h2, b _ _ h3⟩, b _ _ p.lst, p.ok⟩
def spCount : Sp := fun vs H Q _ => ∃ (tp cp : Addr) (tk cl : List Nat) (n : Nat), vs = [.ref tp, .ref cp, vn n] ∧ H tp = some (.tup (tk.map vn)) ∧ H cp = some (.tup (cl.map vn)) ∧ Pat tk ∧ Pat cl ∧ n ≤ 1000 ∧
  ∀ l H', H l = none → Same H H' → H' l = some (.lst (calV tk cl n)) → Q (.ref l) H'
def spPeriod (C : Addr) : Sp := fun vs H Q _ => ∃ (h dx tp cp : Addr) (fs : List (Str × V)) (tk cl : List Nat), vs = [.ref h] ∧ H h = some (.ins C dx fs) ∧ fs.lookup ("takes" : Str) = some (.ref tp) ∧ fs.lookup ("calls" : Str) = some (.ref cp) ∧
  H tp = some (.tup (tk.map vn)) ∧ H cp = some (.tup (cl.map vn)) ∧ Pat tk ∧ Pat cl ∧ Q (vn (per tk cl)) H
def spInit (C : Addr) : Sp := fun vs H Q _ => ∃ (x dx tp cp : Addr) (m lt : Nat) (tk cl : List Nat), vs = [.ref x, vn m, .ref tp, .ref cp, vn lt] ∧ H x = some (.ins C dx []) ∧ H tp = some (.tup (tk.map vn)) ∧ H cp = some (.tup (cl.map vn)) ∧ Parts m tk cl lt ∧
  ∀ H' lp, But x H H' → H lp = none → HallAt C H' x m tk cl lt lp → Q .non H'
theorem per_144 {tk cl : List Nat} (h1 : Pat tk) (h2 : Pat cl) : per tk cl ≤ 144 := by
  have := per_le (tk := tk) (cl := cl)
  have a := Nat.mul_le_mul h1.len h2.len
  omega
theorem vn_int {z : Int} {n : Nat} (h : z = (n : Int)) : V.int z = vn n := by rw [h]
section
variable {P : Program} {w : World} {K : PySem.W.Frag} {mg : Str → Option Value} {base : Heap}
theorem ok_count_calls (T : Txt K mg) : OkF P w K mg base 1 (He.ga K "count_calls") ["takes", "calls", "ticks"] spCount := by
  refine FnP.okF T.f_count_calls sc_count_calls (fun _ _ _ _ _ _ us hl => match us, hl with | [_, _, _], _ => rfl) (fun vs H Q E h => ?_) (fun cdv A outer s H vs Q E hr h => ?_)
  · obtain ⟨tp, cp, tk, cl, n, rfl, _⟩ := h
    rfl
  obtain ⟨tp, cp, tk, cl, n, rfl, htp, hcp, hT, hC, hn, k⟩ := h
  refine ⟨_, (pss_cons (ps_set (i := 3) sc_count_calls.nd rfl (Or.inl rfl) (pe_lst (pa_cons pe_int pa_nil)))
    (pss_cons (ps_set (i := 4) sc_count_calls.nd rfl (Or.inl rfl) pe_int)
    (pss_cons (ps_for own_cx rfl (pi_range1 (by rfl) T.g_range (pa_cons (pv 2) pa_nil)) (pg_name (i := 5) sc_count_calls.nd rfl (Or.inl rfl))
      (pss_cons (ps_aug (i := 4) sc_count_calls.nd rfl (Or.inl rfl) (pe_ix (ixTK (K := K)) (pv 0) (pe_op op_mod (pv 5) (pe_callB (lenK (K := K)) (by rfl) T.g_len (by decide +kernel) (pa_cons (pv 0) pa_nil))) (fun _ _ => rfl)) ip_add)
    (pss_cons (ps_set (i := 6) sc_count_calls.nd rfl (Or.inl rfl) (pe_callB (show CallR _ (.builtin "min") Rd.rMin2 from call_min2 (by rfl)) (by rfl) T.g_min (by decide +kernel) (pa_cons (pv 4) (pa_cons (pe_ix (ixTK (K := K)) (pv 1) (pe_op op_mod (pv 5) (pe_callB (lenK (K := K)) (by rfl) T.g_len (by decide +kernel) (pa_cons (pv 1) pa_nil))) (fun _ _ => rfl)) pa_nil))))
    (pss_cons (ps_aug (i := 4) sc_count_calls.nd rfl (Or.inl rfl) (pv 6) ip_sub)
    (pss_one (ps_expr (pe_bm PySem.F.plainAttrs_list PySem.F.slot_list_append PySem.F.type_list_append mt_append (pv 3) (pa_cons (pe_op op_add (pe_ix (ixLK (K := K)) (pv 3) (pv 5) (fun _ _ => rfl)) (pv 6)) pa_nil))))))))
    (pss_one (ps_ret (pv 3)))))), ?_⟩
  refine ⟨(by show 1 ≤ sizeLine; decide), fun l hl => ?_⟩
  have nl : ∀ {q : Addr} {o : HO}, H q = some o → q ≠ l := fun e => ne_of_none e hl
  refine ⟨_, rfl, (n : Int), rfl, by omega, by omega, for_range (lo := 0) (n := ((n : Int)).toNat) (fun i σ H2 => ∃ a b, σ = [some (.ref tp), some (.ref cp), some (vn n), some (.ref l), some (vn (wt tk cl i)), a, b] ∧ H2 = upd H l (.lst (calV tk cl i)))
    ⟨_, _, rfl, rfl⟩ ?_ ?_⟩
  · rintro i σ H2 hi ⟨a, b, rfl, rfl⟩
    have hi2 : i < n := by simpa using hi
    have t1 : upd H l (.lst (calV tk cl i)) tp = some (.tup (tk.map vn)) := by rw [upd_ne (nl htp)]; exact htp
    have t2 : upd H l (.lst (calV tk cl i)) cp = some (.tup (cl.map vn)) := by rw [upd_ne (nl hcp)]; exact hcp
    have L1 := hT.pos
    have L2 := hC.pos
    -- waiting += takes[tick % len(takes)]
    refine ⟨_, rfl, _, rfl, _, rfl, _, rfl, tp, _, rfl, .inr (SqT.of t1), _, _, rfl, rfl, (by show (0 : Int) < ((tk.map vn).length : Int); rw [List.length_map]; omega), tp, _, _, _, rfl, rfl, SqT.of t1, pat_at L1 (Int.zero_add _), _, _, rfl, rfl, ?_⟩
    -- now = min(waiting, calls[tick % len(calls)])
    refine ⟨_, rfl, _, rfl, _, rfl, _, rfl, cp, _, rfl, .inr (SqT.of t2), _, _, rfl, rfl, (by show (0 : Int) < ((cl.map vn).length : Int); rw [List.length_map]; omega), cp, _, _, _, rfl, rfl, SqT.of t2, pat_at L2 (Int.zero_add _), _, _, rfl, ?_⟩
    have em : V.int (if (atp cl i : Int) < ((wt tk cl i : Int) + (atp tk i : Int)) then (atp cl i : Int) else ((wt tk cl i : Int) + (atp tk i : Int))) = vn (min (wt tk cl i + atp tk i) (atp cl i)) := by
      refine vn_int ?_
      split <;> omega
    rw [em]
    -- waiting -= now
    refine ⟨_, rfl, _, rfl, _, _, rfl, rfl, ?_⟩
    -- called.append(called[tick] + now)
    refine ⟨_, rfl, .inl ⟨rfl, _, SqL.of upd_same⟩, _, rfl, _, rfl, l, _, _, _, rfl, rfl, SqL.of upd_same, (show atI (calV tk cl i) ((0 : Int) + (i : Int)) = some (vn (cal tk cl i)) by rw [Int.zero_add]; exact atn (calV_at (Nat.le_refl i))), _, rfl, _, _, rfl, rfl, ?_⟩
    refine ⟨l, _, _, rfl, rfl, upd_same, small1000 (by rw [calV_len]; omega), some (.int (0 + (i : Int))), some (vn (min (wt tk cl i + atp tk i) (atp cl i))), ?_, ?_⟩
    · have e1 : V.int ((wt tk cl i : Int) + (atp tk i : Int) - ((min (wt tk cl i + atp tk i) (atp cl i) : Nat) : Int)) = vn (wt tk cl (i + 1)) := vn_int (by rw [wt_succ]; omega)
      rw [← e1]
      rfl
    · rw [upd_upd, calV_succ]
      have e2 : V.int ((cal tk cl i : Int) + ((min (wt tk cl i + atp tk i) (atp cl i) : Nat) : Int)) = vn (cal tk cl (i + 1)) := vn_int (by rw [cal_succ]; omega)
      rw [← e2]
  · rintro σ H2 ⟨a, b, rfl, rfl⟩
    refine ⟨_, rfl, k l _ hl (Same.new hl) ?_⟩
    rw [upd_same]
    simp
theorem ok_period (T : Txt K mg) : OkF P w K mg base 1 (getAt K (He.ga K "Hall") "period") ["self"] (spPeriod (He.ga K "Hall")) := by
  refine FnP.okF T.f_period sc_period (fun _ _ _ _ _ _ us hl => match us, hl with | [_], _ => rfl) (fun vs H Q E h => ?_) (fun cdv A outer s H vs Q E hr h => ?_)
  · obtain ⟨h, _, _, _, _, _, _, rfl, _⟩ := h
    rfl
  obtain ⟨h, dx, tp, cp, fs, tk, cl, rfl, hh, f1, f2, htp, hcp, hT, hC, k⟩ := h
  refine ⟨_, (pss_one (ps_ret (pfun cr_lcm (by rfl) T.g_lcm (pa_cons (pe_callB (lenK (K := K)) (by rfl) T.g_len (by decide +kernel) (pa_cons (pe_fld (pv 0) rfl) pa_nil)) (pa_cons (pe_callB (lenK (K := K)) (by rfl) T.g_len (by decide +kernel) (pa_cons (pe_fld (pv 0) rfl) pa_nil)) pa_nil))))), ?_⟩
  have a1 := hT.len
  have a2 := hC.len
  refine ⟨_, rfl, h, _, dx, fs, _, rfl, hh, T.cl_Hall, T.n_takes, f1, tp, _, rfl, .inr (SqT.of htp), ?_⟩
  refine ⟨_, rfl, h, _, dx, fs, _, rfl, hh, T.cl_Hall, T.n_calls, f2, cp, _, rfl, .inr (SqT.of hcp), ?_⟩
  refine ⟨_, _, rfl, by rw [List.length_map]; omega, by rw [List.length_map]; omega, ?_⟩
  rw [List.length_map, List.length_map]
  exact k
theorem ok_init (T : Txt K mg) : OkF P w K mg base 5 (He.ma K (He.ga K "Hall") "__init__") ["self", "modulus", "takes", "calls", "lateness"] (spInit (He.ga K "Hall")) := by
  have G_check_hall : OkF P w K mg base 4 (He.ga K "check_hall") ["modulus", "takes", "calls", "lateness"] spChall := ok_check_hall T
  have G_count_calls : OkF P w K mg base 1 (He.ga K "count_calls") ["takes", "calls", "ticks"] spCount := ok_count_calls T
  have G_period : OkF P w K mg base 1 (getAt K (He.ga K "Hall") "period") ["self"] (spPeriod (He.ga K "Hall")) := ok_period T
  refine FnP.okF T.f_init sc_init (fun _ _ _ _ _ _ us hl => match us, hl with | [_, _, _, _, _], _ => rfl) (fun vs H Q E h => ?_) (fun cdv A outer s H vs Q E hr h => ?_)
  · obtain ⟨x, _, _, _, _, _, _, _, rfl, _⟩ := h
    rfl
  obtain ⟨x, dx, tp, cp, m, lt, tk, cl, rfl, hx, htp, hcp, hP, k⟩ := h
  refine ⟨_, (pss_cons (ps_expr (pe_call G_check_hall.one (hr.mono (by decide)) (by rfl) T.g_check_hall G_check_hall.kp G_check_hall.two .nil passL (pa_cons (pv 1) (pa_cons (pv 2) (pa_cons (pv 3) (pa_cons (pv 4) pa_nil))))))
    (pss_cons (ps_fld (pv 0) (pv 1) rfl)
    (pss_cons (ps_fld (pv 0) (pv 2) rfl)
    (pss_cons (ps_fld (pv 0) (pv 3) rfl)
    (pss_cons (ps_fld (pv 0) (pv 4) rfl)
    (pss_one (ps_fld (pv 0) (pe_call G_count_calls.one (hr.mono (by decide)) (by rfl) T.g_count_calls G_count_calls.kp G_count_calls.two .nil passL (pa_cons (pv 2) (pa_cons (pv 3) (pa_cons (pe_op op_mul pe_int (pe_prop (pv 0) T.cl_Hall T.p_period G_period.one (hr.mono (by decide)) G_period.two .nil passL (by rfl))) pa_nil)))) rfl))))))), ?_⟩
  refine ⟨_, rfl, _, rfl, _, rfl, _, rfl, tp, cp, m, lt, tk, cl, rfl, htp, hcp, hP, fun H1 S1 => ?_⟩
  have x1 := S1 _ _ hx
  have n1 : tp ≠ x := ne_of htp hx (fun q => by cases q)
  have n2 : cp ≠ x := ne_of hcp hx (fun q => by cases q)
  have len1 : ∀ (f : Str) (v : V) (fs : List (Str × V)) (n : Nat), fs.length ≤ n → (putF f v fs).length ≤ n + 1 := fun f v fs n h => Nat.le_trans (length_putF f v fs) (Nat.succ_le_succ h)
  refine ⟨_, rfl, _, rfl, x, _, dx, _, rfl, x1, T.cl_Hall, T.n_modulus, (by decide), ?_⟩
  refine ⟨_, rfl, _, rfl, x, _, dx, _, rfl, upd_same, T.cl_Hall, T.n_takes, Nat.lt_of_le_of_lt (len1 _ _ _ 0 (Nat.le_refl 0)) (by decide), ?_⟩
  refine ⟨_, rfl, _, rfl, x, _, dx, _, rfl, upd_same, T.cl_Hall, T.n_calls, Nat.lt_of_le_of_lt (len1 _ _ _ 1 (len1 _ _ _ 0 (Nat.le_refl 0))) (by decide), ?_⟩
  refine ⟨_, rfl, _, rfl, x, _, dx, _, rfl, upd_same, T.cl_Hall, T.n_lateness, Nat.lt_of_le_of_lt (len1 _ _ _ 2 (len1 _ _ _ 1 (len1 _ _ _ 0 (Nat.le_refl 0)))) (by decide), ?_⟩
  rw [upd_upd, upd_upd, upd_upd]
  have t1 : ∀ o, upd H1 x o tp = some (.tup (tk.map vn)) := fun o => by rw [upd_ne n1]; exact S1 _ _ htp
  have t2 : ∀ o, upd H1 x o cp = some (.tup (cl.map vn)) := fun o => by rw [upd_ne n2]; exact S1 _ _ hcp
  have p144 := per_144 hP.tkP hP.clP
  -- self._called = count_calls(takes, calls, 2 * self.period)
  refine ⟨_, rfl, _, rfl, _, rfl, x, dx, _, rfl, upd_same, x, dx, tp, cp, _, tk, cl, rfl, upd_same, ?_, ?_, t1 _, t2 _, hP.tkP, hP.clP, ?_⟩
  · rw [lookup_putF, if_neg (by decide +kernel), lookup_putF, if_neg (by decide +kernel), lookup_putF, if_pos rfl]
  · rw [lookup_putF, if_neg (by decide +kernel), lookup_putF, if_pos rfl]
  refine ⟨2, _, rfl, rfl, .inl ⟨by decide, by decide⟩, tp, cp, tk, cl, 2 * per tk cl, by simp, t1 _, t2 _, hP.tkP, hP.clP, by omega, fun lp H2 n3 S2 h2 => ?_⟩
  have nx : x ≠ lp := fun e => by rw [e, upd_same] at n3; cases n3
  have n4 : H lp = none := by
    rw [upd_ne (Ne.symm nx)] at n3
    exact S1.free n3
  refine ⟨_, rfl, x, _, dx, _, rfl, S2 _ _ upd_same, T.cl_Hall, T.n__called, Nat.lt_of_le_of_lt (len1 _ _ _ 3 (len1 _ _ _ 2 (len1 _ _ _ 1 (len1 _ _ _ 0 (Nat.le_refl 0))))) (by decide), ?_⟩
  refine k _ lp (fun b o nb e => ?_) n4 ⟨⟨dx, tp, cp, upd_same, ?_, ?_⟩, ?_, hP⟩
  · rw [upd_ne nb]
    exact S2 _ _ (by rw [upd_ne nb]; exact S1 _ _ e)
  · rw [upd_ne n1]
    exact S2 _ _ (t1 _)
  · rw [upd_ne n2]
    exact S2 _ _ (t2 _)
  · rw [upd_ne (Ne.symm nx)]
    exact h2
end
end Tk

/-! ### The hall's methods -/
namespace Tk
open PySem PySem.Spec PyProof.Rows L2 Mm
def spTaken (C : Addr) : Sp := fun vs H Q _ => ∃ (h lp : Addr) (z : Int) (m lt : Nat) (tk cl : List Nat), vs = [.ref h, .int z] ∧ HallAt C H h m tk cl lt lp ∧ ∀ H', Same H H' → Q (vn (tak tk z.toNat)) H'
def spCalled (C : Addr) : Sp := fun vs H Q _ => ∃ (h lp : Addr) (z : Int) (m lt : Nat) (tk cl : List Nat), vs = [.ref h, .int z] ∧ HallAt C H h m tk cl lt lp ∧ Q (vn (cal tk cl z.toNat)) H
def spWaiting (C : Addr) : Sp := fun vs H Q _ => ∃ (h lp : Addr) (n : Nat) (m lt : Nat) (tk cl : List Nat), vs = [.ref h, vn n] ∧ n ≤ 1000000000000000000 ∧ HallAt C H h m tk cl lt lp ∧ ∀ H', Same H H' → Q (vn (wt tk cl (n + 1))) H'
def grow (tk cl : List Nat) : Nat := wt tk cl (2 * per tk cl + 1) - wt tk cl (per tk cl + 1)
def spGrowth (C : Addr) : Sp := fun vs H Q _ => ∃ (h lp : Addr) (m lt : Nat) (tk cl : List Nat), vs = [.ref h] ∧ HallAt C H h m tk cl lt lp ∧ ∀ H', Same H H' → Q (vn (grow tk cl)) H'
theorem map_vn (tk : List Nat) : (tk.map (fun n : Nat => (n : Int))).map V.int = tk.map vn := by rw [List.map_map]; rfl
theorem sum_cast (tk : List Nat) : (tk.map (fun n : Nat => (n : Int))).sum = ((tk.sum : Nat) : Int) := by
  induction tk with
  | nil => rfl
  | cons a r ih => rw [List.map_cons, List.sum_cons, List.sum_cons, ih]; omega
theorem max0 (z : Int) : (if (0 : Int) > z then (0 : Int) else z) = ((z.toNat : Nat) : Int) := by split <;> omega
section
variable {P : Program} {w : World} {K : PySem.W.Frag} {mg : Str → Option Value} {base : Heap}
theorem ok_called (T : Txt K mg) : OkF P w K mg base 3 (He.ma K (He.ga K "Hall") "called") ["self", "tick"] (spCalled (He.ga K "Hall")) := by
  have G_period : OkF P w K mg base 1 (getAt K (He.ga K "Hall") "period") ["self"] (spPeriod (He.ga K "Hall")) := ok_period T
  refine FnP.okF T.f_called sc_called (fun _ _ _ _ _ _ us hl => match us, hl with | [_, _], _ => rfl) (fun vs H Q E h => ?_) (fun cdv A outer s H vs Q E hr h => ?_)
  · obtain ⟨h, _, _, _, _, _, _, rfl, _⟩ := h
    rfl
  obtain ⟨h, lp, z, m, lt, tk, cl, rfl, hA, k⟩ := h
  obtain ⟨dx, tp, cp, hh, htp, hcp⟩ := hA.ex
  have p0 := per_pos hA.ok.tkP.pos hA.ok.clP.pos
  have p144 := per_144 hA.ok.tkP hA.ok.clP
  have ht := per_tk (tk := tk) (cl := cl)
  have hc := per_cl (tk := tk) (cl := cl)
  generalize hp : per tk cl = p at *
  have hL : SqL K H lp (calV tk cl (2 * p)) := SqL.of (by rw [← hp]; exact hA.lst)
  refine ⟨_, (pss_cons (ps_set (i := 2) sc_called.nd rfl (Or.inl rfl) (pe_prop (pv 0) T.cl_Hall T.p_period G_period.one (hr.mono (by decide)) G_period.two .nil passL (by rfl)))
    (pss_cons (ps_set (i := 3) sc_called.nd rfl (Or.inl rfl) (pe_callB (show CallR _ (.builtin "max") Rd.rMax2 from call_max2 (by rfl)) (by rfl) T.g_max (by decide +kernel) (pa_cons (pe_op op_sub (pe_op op_fdiv (pv 1) (pv 2)) pe_int) (pa_cons pe_int pa_nil))))
    (pss_cons (ps_set (i := 4) sc_called.nd rfl (Or.inl rfl) (pe_op op_sub (pe_ix (ixLK (K := K)) (pe_fld (pv 0) rfl) (pe_op op_mul pe_int (pv 2)) (fun _ _ => rfl)) (pe_ix (ixLK (K := K)) (pe_fld (pv 0) rfl) (pv 2) (fun _ _ => rfl))))
    (pss_one (ps_ret (pe_op op_add (pe_op op_mul (pv 3) (pv 4)) (pe_ix (ixLK (K := K)) (pe_fld (pv 0) rfl) (pe_op op_sub (pe_callB (show CallR _ (.builtin "max") Rd.rMax2 from call_max2 (by rfl)) (by rfl) T.g_max (by decide +kernel) (pa_cons (pv 1) (pa_cons pe_int pa_nil))) (pe_op op_mul (pv 3) (pv 2))) (fun _ _ => rfl)))))))), ?_⟩
  refine ⟨_, rfl, h, dx, _, rfl, hh, h, dx, tp, cp, _, tk, cl, rfl, hh, hfs_takes, hfs_calls, htp, hcp, hA.ok.tkP, hA.ok.clP, ?_⟩
  rw [hp]
  -- skipped
  refine ⟨_, rfl, _, rfl, _, _, rfl, rfl, ⟨by omega, by omega⟩, _, _, rfl, rfl, _, _, rfl, ?_⟩
  have es : (if (0 : Int) > z / (p : Int) - 1 then (0 : Int) else z / (p : Int) - 1) = ((z.toNat / p - 1 : Nat) : Int) := by
    rcases Int.lt_or_le z 0 with n | n
    · have h1 : z / (p : Int) < 0 := Int.ediv_lt_of_lt_mul (by omega) (by omega)
      have h2 : z.toNat = 0 := by omega
      rw [h2, Nat.zero_div]
      split <;> omega
    · obtain ⟨q, rfl⟩ : ∃ q : Nat, z = (q : Int) := ⟨z.toNat, by omega⟩
      have h1 : (q : Int) / (p : Int) = ((q / p : Nat) : Int) := (Int.natCast_ediv _ _).symm
      rw [h1, Int.toNat_natCast]
      split <;> omega
  rw [es]
  generalize hs : z.toNat / p - 1 = sk
  -- in_period
  have mono := cal_mono (tk := tk) (cl := cl) (show p ≤ 2 * p by omega)
  have a1 : atI (calV tk cl (2 * p)) ((2 : Int) * (p : Int)) = some (vn (cal tk cl (2 * p))) := by
    rw [show (2 : Int) * (p : Int) = ((2 * p : Nat) : Int) by omega]
    exact atn (calV_at (Nat.le_refl _))
  have a2 : atI (calV tk cl (2 * p)) (p : Int) = some (vn (cal tk cl p)) := atn (calV_at (by omega))
  refine ⟨_, rfl, h, _, dx, _, _, rfl, hh, T.cl_Hall, T.n__called, hfs_called, _, rfl, _, _, rfl, rfl, .inl ⟨by decide, by decide⟩, lp, _, _, _, rfl, rfl, hL, a1, ?_⟩
  refine ⟨_, rfl, h, _, dx, _, _, rfl, hh, T.cl_Hall, T.n__called, hfs_called, _, rfl, lp, _, _, _, rfl, rfl, hL, a2, _, _, rfl, rfl, ?_⟩
  -- the end
  have small : cal tk cl (2 * p) - cal tk cl p ≤ 100000 := by
    have := cal_le (tk := tk) (cl := cl) (2 * p)
    have := tak_le hA.ok.tkP.nine (2 * p)
    omega
  refine ⟨_, rfl, _, rfl, _, _, rfl, rfl, .inr ⟨by omega, by omega⟩, ?_⟩
  refine ⟨_, rfl, h, _, dx, _, _, rfl, hh, T.cl_Hall, T.n__called, hfs_called, _, rfl, _, _, rfl, ?_⟩
  rw [max0]
  refine ⟨_, rfl, _, rfl, _, _, rfl, rfl, .inr ⟨by omega, by omega⟩, _, _, rfl, rfl, ?_⟩
  have sk_le : sk * p ≤ z.toNat := by
    rw [← hs]
    have := Nat.div_mul_le_self z.toNat p
    have := Nat.mul_le_mul_right p (Nat.sub_le (z.toNat / p) 1)
    omega
  have a3 : atI (calV tk cl (2 * p)) ((z.toNat : Int) - (sk : Int) * (p : Int)) = some (vn (cal tk cl (z.toNat - sk * p))) := by
    rw [show (z.toNat : Int) - (sk : Int) * (p : Int) = ((z.toNat - sk * p : Nat) : Int) by rw [Int.ofNat_sub sk_le, Int.natCast_mul]]
    refine atn (calV_at ?_)
    have := rest_lt p0 z.toNat
    rw [hs] at this
    omega
  refine ⟨lp, _, _, _, rfl, rfl, hL, a3, _, _, rfl, rfl, ?_⟩
  have e := cal_is p0 ht hc z.toNat
  rw [hs] at e
  have ev : V.int ((sk : Int) * ((cal tk cl (2 * p) : Int) - (cal tk cl p : Int)) + (cal tk cl (z.toNat - sk * p) : Int)) = vn (cal tk cl z.toNat) := by
    refine vn_int ?_
    rw [e, Int.natCast_add, Int.natCast_mul, Int.ofNat_sub mono]
  show Q (V.int ((sk : Int) * ((cal tk cl (2 * p) : Int) - (cal tk cl p : Int)) + (cal tk cl (z.toNat - sk * p) : Int))) H
  rw [ev]
  exact k
theorem ok_taken (T : Txt K mg) : OkF P w K mg base 1 (He.ma K (He.ga K "Hall") "taken") ["self", "tick"] (spTaken (He.ga K "Hall")) := by
  refine FnP.okF T.f_taken sc_taken (fun _ _ _ _ _ _ us hl => match us, hl with | [_, _], _ => rfl) (fun vs H Q E h => ?_) (fun cdv A outer s H vs Q E hr h => ?_)
  · obtain ⟨h, _, _, _, _, _, _, rfl, _⟩ := h
    rfl
  obtain ⟨h, lp, z, m, lt, tk, cl, rfl, hA, k⟩ := h
  obtain ⟨dx, tp, cp, hh, htp, hcp⟩ := hA.ex
  have n0 := hA.ok.tkP.pos
  have n12 := hA.ok.tkP.len
  refine ⟨_, (pss_cons (ps_asg (pe_callB call_divmod (by rfl) T.g_divmod (by decide +kernel) (pa_cons (pe_callB (show CallR _ (.builtin "max") Rd.rMax2 from call_max2 (by rfl)) (by rfl) T.g_max (by decide +kernel) (pa_cons (pv 1) (pa_cons pe_int pa_nil))) (pa_cons (pe_callB (lenK (K := K)) (by rfl) T.g_len (by decide +kernel) (pa_cons (pe_fld (pv 0) rfl) pa_nil)) pa_nil))) (pg_tup rfl (pgs_cons (pg_name (i := 2) sc_taken.nd rfl (Or.inl rfl)) (pgs_cons (pg_name (i := 3) sc_taken.nd rfl (Or.inl rfl)) pgs_nil))))
    (pss_one (ps_ret (pe_op op_add (pe_op op_mul (pv 2) (pe_callB (sumTK (K := K)) (by rfl) T.g_sum (by decide +kernel) (pa_cons (pe_fld (pv 0) rfl) pa_nil))) (pe_callB (sumTK (K := K)) (by rfl) T.g_sum (by decide +kernel) (pa_cons (pe_slice (slAK (K := K)) (pe_fld (pv 0) rfl) po_none (po_some (pv 3))) pa_nil)))))), ?_⟩
  -- rounds, rest = divmod(max(tick, 0), len(self.takes))
  refine ⟨_, rfl, _, _, rfl, ?_⟩
  rw [max0]
  refine ⟨_, rfl, h, _, dx, _, _, rfl, hh, T.cl_Hall, T.n_takes, hfs_takes, tp, _, rfl, .inr (SqT.of htp), _, _, rfl, ⟨by rw [List.length_map]; omega, by rw [List.length_map]; omega⟩, fun d hd => ?_⟩
  rw [List.length_map, show (z.toNat : Int) / (tk.length : Int) = ((z.toNat / tk.length : Nat) : Int) from (Int.natCast_ediv _ _).symm, show (z.toNat : Int) % (tk.length : Int) = ((z.toNat % tk.length : Nat) : Int) from (Int.natCast_emod _ _).symm]
  have rl := Nat.mod_lt z.toNat n0
  have S1 : Same H (upd H d (.tup [vn (z.toNat / tk.length), vn (z.toNat % tk.length)])) := Same.new hd
  generalize hH1 : upd H d (.tup [vn (z.toNat / tk.length), vn (z.toNat % tk.length)]) = H1 at S1
  refine ⟨d, _, rfl, SqT.of (by rw [← hH1]; exact upd_same), rfl, _, _, rfl, _, _, rfl, rfl, ?_⟩
  -- rounds * sum(self.takes) + sum(self.takes[:rest])
  have sm : ∀ x ∈ tk, x ≤ 9 := hA.ok.tkP.nine
  have s108 : tk.sum ≤ 108 := by
    have h1 := take_sum tk tk.length (Nat.le_refl _)
    have h2 := tak_le sm tk.length
    rw [List.take_length] at h1
    omega
  refine ⟨_, rfl, _, rfl, h, _, dx, _, _, rfl, S1 _ _ hh, T.cl_Hall, T.n_takes, hfs_takes, tp, tk.map (fun n : Nat => (n : Int)), rfl, by rw [map_vn]; exact SqT.of (S1 _ _ htp), _, _, rfl, rfl, .inr (by rw [sum_cast]; omega), ?_⟩
  have T1 : SqT K H1 tp (tk.map vn) := SqT.of (S1 _ _ htp)
  refine ⟨_, rfl, h, _, dx, _, _, rfl, S1 _ _ hh, T.cl_Hall, T.n_takes, hfs_takes, _, rfl, _, rfl, tp, _, rfl, T1, fun c => ?_, fun _ t ht => ?_⟩
  · exfalso
    have c2 := c.2
    rw [HT.sIx_nat, List.length_map] at c2
    omega
  have S2 : Same H (upd H1 t (.tup (cutV (tk.map vn) none (some ((z.toNat % tk.length : Nat) : Int))))) := S1.trans (Same.new ht)
  have ec : cutV (tk.map vn) none (some ((z.toNat % tk.length : Nat) : Int)) = (tk.take (z.toNat % tk.length)).map vn := by
    unfold cutV
    rw [HT.sIx_none, HT.sIx_nat, List.drop_zero, List.length_map, Nat.sub_zero, Nat.min_eq_left (Nat.le_of_lt rl), List.map_take]
  refine ⟨t, (tk.take (z.toNat % tk.length)).map (fun n : Nat => (n : Int)), rfl, by rw [map_vn, ec]; exact SqT.of upd_same, _, _, rfl, rfl, ?_⟩
  have ev : V.int (((z.toNat / tk.length : Nat) : Int) * (tk.map (fun n : Nat => (n : Int))).sum + ((tk.take (z.toNat % tk.length)).map (fun n : Nat => (n : Int))).sum) = vn (tak tk z.toNat) := by
    refine vn_int ?_
    rw [sum_cast, sum_cast, tak_is tk n0 z.toNat, Int.natCast_add, Int.natCast_mul]
  have q := k _ S2
  rw [← ev] at q
  exact q
theorem ok_waiting (T : Txt K mg) : OkF P w K mg base 4 (He.ma K (He.ga K "Hall") "waiting") ["self", "tick"] (spWaiting (He.ga K "Hall")) := by
  have G_check_tick : OkF P w K mg base 2 (He.ga K "check_tick") ["tick"] spTick := ok_check_tick T
  have G_taken : OkF P w K mg base 1 (He.ma K (He.ga K "Hall") "taken") ["self", "tick"] (spTaken (He.ga K "Hall")) := ok_taken T
  have G_called : OkF P w K mg base 3 (He.ma K (He.ga K "Hall") "called") ["self", "tick"] (spCalled (He.ga K "Hall")) := ok_called T
  refine FnP.okF T.f_waiting sc_waiting (fun _ _ _ _ _ _ us hl => match us, hl with | [_, _], _ => rfl) (fun vs H Q E h => ?_) (fun cdv A outer s H vs Q E hr h => ?_)
  · obtain ⟨h, _, _, _, _, _, _, rfl, _⟩ := h
    rfl
  obtain ⟨h, lp, n, m, lt, tk, cl, rfl, hn, hA, k⟩ := h
  obtain ⟨dx, tp, cp, hh, htp, hcp⟩ := hA.ex
  refine ⟨_, (pss_cons (ps_expr (pe_call G_check_tick.one (hr.mono (by decide)) (by rfl) T.g_check_tick G_check_tick.kp G_check_tick.two .nil passL (pa_cons (pv 1) pa_nil)))
    (pss_one (ps_ret (pe_op op_sub (pe_meth (pv 0) T.cl_Hall T.m_taken G_taken.one (hr.mono (by decide)) G_taken.two .nil passL (pa_cons (pe_op op_add (pv 1) pe_int) pa_nil)) (pe_meth (pv 0) T.cl_Hall T.m_called G_called.one (hr.mono (by decide)) G_called.two .nil passL (pa_cons (pe_op op_add (pv 1) pe_int) pa_nil)))))), ?_⟩
  refine ⟨_, rfl, (n : Int), rfl, by omega, by omega, ?_⟩
  refine ⟨_, rfl, h, dx, _, rfl, hh, hfs_no (by decide +kernel) (by decide +kernel) (by decide +kernel) (by decide +kernel) (by decide +kernel), _, rfl, _, _, rfl, rfl, h, lp, (n : Int) + 1, m, lt, tk, cl, rfl, hA, fun H1 S1 => ?_⟩
  refine ⟨_, rfl, h, dx, _, rfl, S1 _ _ hh, hfs_no (by decide +kernel) (by decide +kernel) (by decide +kernel) (by decide +kernel) (by decide +kernel), _, rfl, _, _, rfl, rfl, h, lp, (n : Int) + 1, m, lt, tk, cl, rfl, hA.same S1, ?_⟩
  refine ⟨_, _, rfl, rfl, ?_⟩
  have e : ((n : Int) + 1).toNat = n + 1 := by omega
  rw [e]
  have c := cal_le (tk := tk) (cl := cl) (n + 1)
  have ev : V.int ((tak tk (n + 1) : Int) - (cal tk cl (n + 1) : Int)) = vn (wt tk cl (n + 1)) := vn_int (by unfold wt; omega)
  have q := k H1 S1
  rw [← ev] at q
  exact q
end
end Tk

/-! ### The law's own defs: hall, length, counts -/
namespace Tk
open PySem PySem.Spec PyProof.Rows L2 Mm
def fV (f : Nat → Nat) (n : Nat) : List V := (List.range (n + 1)).map fun t => vn (f t)
theorem fV_len {f : Nat → Nat} {n : Nat} : (fV f n).length = n + 1 := by unfold fV; simp
theorem fV_at {f : Nat → Nat} {n t : Nat} (h : t ≤ n) : (fV f n)[t]? = some (vn (f t)) := by
  unfold fV
  rw [List.getElem?_map, List.getElem?_range (by omega)]
  rfl
theorem fV_succ {f : Nat → Nat} {n : Nat} : fV f (n + 1) = fV f n ++ [vn (f (n + 1))] := by
  unfold fV
  rw [List.range_succ, List.map_append]
  rfl
theorem at_last {xs : List V} {n : Nat} {x : V} (hl : xs.length = n + 1) (h : xs[n]? = some x) : atI xs (-(1 : Int)) = some x := by
  unfold atI ixN
  rw [hl, if_neg (by omega), if_pos (by omega)]
  show xs[(-(1 : Int) + ((n + 1 : Nat) : Int)).toNat]? = some x
  rw [show (-(1 : Int) + ((n + 1 : Nat) : Int)).toNat = n by omega]
  exact h
def spLHall (C : Addr) : Sp := fun vs H Q _ => ∃ (t tp cp : Addr) (m lt : Nat) (tk cl : List Nat), vs = [.ref t] ∧ PartsAt H t m tp tk cp cl lt ∧
  ∀ h lp H', H h = none → H lp = none → Same H H' → HallAt C H' h m tk cl lt lp → Q (.ref h) H'
def spLength : Sp := fun vs H Q _ => ∃ (t tp cp : Addr) (m lt : Nat) (tk cl : List Nat), vs = [.ref t] ∧ PartsAt H t m tp tk cp cl lt ∧ Q (vn (per tk cl)) H
def spCounts : Sp := fun vs H Q _ => ∃ (t tp cp : Addr) (m lt : Nat) (tk cl : List Nat) (n : Nat), vs = [.ref t, vn n] ∧ PartsAt H t m tp tk cp cl lt ∧ n ≤ 1000 ∧
  ∀ r a b H', H r = none → H a = none → H b = none → a ≠ b → Same H H' → H' r = some (.tup [.ref a, .ref b]) → H' a = some (.lst (fV (tak tk) n)) → H' b = some (.lst (fV (cal tk cl) n)) → Q (.ref r) H'
theorem at3 {a b c d : V} {j : Nat} {x : V} (h : [a, b, c, d][j]? = some x) : atI [a, b, c, d] (j : Int) = some x := atn h
/-- the least multiple of n that c divides -/
theorem least_lcm {n c k : Nat} (hk : 0 < k) (h : c ∣ k * n) (no : ∀ j, 0 < j → j < k → ¬ c ∣ j * n) (hn : 0 < n) (hc : 0 < c) : k * n = Nat.lcm n c := by
  have d1 : Nat.lcm n c ∣ k * n := Nat.lcm_dvd (Nat.dvd_mul_left n k) h
  obtain ⟨j, hj⟩ := Nat.dvd_lcm_left n c
  have hp : 0 < Nat.lcm n c := Nat.lcm_pos hn hc
  have j0 : 0 < j := by
    rcases Nat.eq_zero_or_pos j with e | e
    · rw [e] at hj
      omega
    · exact e
  have e2 : Nat.lcm n c = j * n := by rw [hj, Nat.mul_comm]
  rcases Nat.lt_or_ge j k with lt | ge
  · exact absurd (by rw [← e2]; exact Nat.dvd_lcm_right n c) (no j j0 lt)
  · have h1 := Nat.le_of_dvd (Nat.mul_pos hk hn) d1
    have h2 := Nat.mul_le_mul_right n ge
    omega
theorem below_lcm {n c k : Nat} (no : ∀ j, 0 < j → j < k → ¬ c ∣ j * n) (hn : 0 < n) (hc : 0 < c) : k * n ≤ Nat.lcm n c := by
  obtain ⟨j, hj⟩ := Nat.dvd_lcm_left n c
  have hp : 0 < Nat.lcm n c := Nat.lcm_pos hn hc
  have e2 : Nat.lcm n c = j * n := by rw [hj, Nat.mul_comm]
  have j0 : 0 < j := by
    rcases Nat.eq_zero_or_pos j with e | e
    · rw [e] at hj
      omega
    · exact e
  rcases Nat.lt_or_ge j k with lt | ge
  · exact absurd (by rw [← e2]; exact Nat.dvd_lcm_right n c) (no j j0 lt)
  · rw [e2]
    exact Nat.mul_le_mul_right n ge
section
variable {P : Program} {w : World} {K : PySem.W.Frag} {mg : Str → Option Value} {base : Heap}
theorem ok__law_hall (T : Txt K mg) : OkF P w K mg base 7 (He.ga K "_law_hall") ["_law_parts_here"] (spLHall (He.ga K "Hall")) := by
  have G_init : OkF P w K mg base 5 (He.ma K (He.ga K "Hall") "__init__") ["self", "modulus", "takes", "calls", "lateness"] (spInit (He.ga K "Hall")) := ok_init T
  refine FnP.okF T.f__law_hall sc__law_hall (fun _ _ _ _ _ _ us hl => match us, hl with | [_], _ => rfl) (fun vs H Q E h => ?_) (fun cdv A outer s H vs Q E hr h => ?_)
  · obtain ⟨t, _, _, _, _, _, _, rfl, _⟩ := h
    rfl
  obtain ⟨t, tp, cp, m, lt, tk, cl, rfl, hP, k⟩ := h
  refine ⟨_, (pss_one (ps_ret (pe_make T.mk_Hall G_init.one (hr.mono (by decide)) (by rfl) T.g_Hall G_init.two .nil passL (pa_cons (pe_ix (ixTK (K := K)) (pv 0) pe_int (fun _ _ => rfl)) (pa_cons (pe_ix (ixTK (K := K)) (pv 0) pe_int (fun _ _ => rfl)) (pa_cons (pe_ix (ixTK (K := K)) (pv 0) pe_int (fun _ _ => rfl)) (pa_cons (pe_ix (ixTK (K := K)) (pv 0) pe_int (fun _ _ => rfl)) pa_nil))))))), ?_⟩
  have S := SqT.of (K := K) hP.at_
  refine ⟨_, rfl, t, _, 0, _, rfl, rfl, S, at3 (j := 0) rfl, _, rfl, t, _, 1, _, rfl, rfl, S, at3 (j := 1) rfl, _, rfl, t, _, 2, _, rfl, rfl, S, at3 (j := 2) rfl, _, rfl, t, _, 3, _, rfl, rfl, S, at3 (j := 3) rfl, fun x dx nx ndx nex => ?_⟩
  have S1 : Same H (upd (upd H dx (.own x)) x (.ins (He.ga K "Hall") dx [])) := fun b o e => by
    rw [upd_ne (ne_of_none e nx), upd_ne (ne_of_none e ndx)]
    exact e
  refine ⟨x, dx, tp, cp, m, lt, tk, cl, rfl, upd_same, S1 _ _ hP.tkA, S1 _ _ hP.clA, hP.ok, fun H' lp B n hA => ⟨rfl, ?_⟩⟩
  refine k x lp H' nx (S1.free n) (fun b o e => ?_) hA
  exact B b o (ne_of_none e nx) (S1 b o e)
theorem ok__law_length (T : Txt K mg) : OkF P w K mg base 1 (He.ga K "_law_length") ["_law_parts_here"] spLength := by
  refine FnP.okF T.f__law_length sc__law_length (fun _ _ _ _ _ _ us hl => match us, hl with | [_], _ => rfl) (fun vs H Q E h => ?_) (fun cdv A outer s H vs Q E hr h => ?_)
  · obtain ⟨t, _, _, _, _, _, _, rfl, _⟩ := h
    rfl
  obtain ⟨t, tp, cp, m, lt, tk, cl, rfl, hP, k⟩ := h
  have n0 := hP.ok.tkP.pos
  have c0 := hP.ok.clP.pos
  have p144 := per_144 hP.ok.tkP hP.ok.clP
  refine ⟨_, (pss_cons (ps_set (i := 1) sc__law_length.nd rfl (Or.inl rfl) (pe_callB (lenK (K := K)) (by rfl) T.g_len (by decide +kernel) (pa_cons (pe_ix (ixTK (K := K)) (pv 0) pe_int (fun _ _ => rfl)) pa_nil)))
    (pss_cons (ps_while own_cx (pt_cmpR op_gt (pe_op op_mod (pv 1) (pe_callB (lenK (K := K)) (by rfl) T.g_len (by decide +kernel) (pa_cons (pe_ix (ixTK (K := K)) (pv 0) pe_int (fun _ _ => rfl)) pa_nil))) pe_int (nomark _))
      (pss_one (ps_set (i := 1) sc__law_length.nd rfl (Or.inl rfl) (pe_op op_add (pv 1) (pe_callB (lenK (K := K)) (by rfl) T.g_len (by decide +kernel) (pa_cons (pe_ix (ixTK (K := K)) (pv 0) pe_int (fun _ _ => rfl)) pa_nil))))))
    (pss_one (ps_ret (pv 1))))), ?_⟩
  have S := SqT.of (K := K) hP.at_
  have St := SqT.of (K := K) hP.tkA
  have Sc := SqT.of (K := K) hP.clA
  refine ⟨_, rfl, t, _, 1, _, rfl, rfl, S, at3 (j := 1) rfl, tp, _, rfl, .inr St, ?_⟩
  refine ⟨fun mm σ H2 => ∃ q : Nat, 0 < q ∧ (∀ j, 0 < j → j < q → ¬ cl.length ∣ j * tk.length) ∧ σ = [some (.ref t), some (vn (q * tk.length))] ∧ H2 = H ∧ mm = 300 - q * tk.length, ⟨_, 1, by omega, fun j h1 h2 => by omega, ?_, rfl, rfl⟩, ?_⟩
  · rw [Nat.one_mul, List.length_map]
    rfl
  · rintro mm σ H2 ⟨q, q0, no, rfl, rfl, rfl⟩
    have le := below_lcm (c := cl.length) no n0 c0
    have le2 : q * tk.length ≤ 144 := Nat.le_trans le p144
    refine ⟨_, rfl, _, rfl, t, _, 2, _, rfl, rfl, S, at3 (j := 2) rfl, cp, _, rfl, .inr Sc, _, _, rfl, rfl, (by show (0 : Int) < ((cl.map vn).length : Int); rw [List.length_map]; omega), _, _, rfl, rfl, _, rfl, ?_⟩
    have em : ((q * tk.length : Nat) : Int) % ((cl.map vn).length : Int) = ((q * tk.length % cl.length : Nat) : Int) := by rw [List.length_map]; exact (Int.natCast_emod _ _).symm
    rw [em]
    refine ite2 (fun c => ?_) (fun c => ?_)
    · have c2 : (0 : Int) < ((q * tk.length % cl.length : Nat) : Int) := of_decide_eq_true c
      refine ⟨_, fun σ' H' z => z, ?_⟩
      refine ⟨_, rfl, _, rfl, t, _, 1, _, rfl, rfl, S, at3 (j := 1) rfl, tp, _, rfl, .inr St, _, _, rfl, rfl, ?_⟩
      refine ⟨300 - (q + 1) * tk.length, by rw [Nat.succ_mul]; omega, q + 1, by omega, fun j j0 jq => ?_, ?_, rfl, rfl⟩
      · rcases Nat.lt_or_ge j q with lt | ge
        · exact no j j0 lt
        · obtain rfl : j = q := by omega
          intro d
          have := Nat.mod_eq_zero_of_dvd d
          omega
      · rw [List.length_map, Nat.succ_mul]
        have e : V.int (((q * tk.length : Nat) : Int) + ((tk.length : Nat) : Int)) = vn (q * tk.length + tk.length) := vn_int (Int.natCast_add _ _).symm
        rw [← e]
        rfl
    · have c2 : ¬ (0 : Int) < ((q * tk.length % cl.length : Nat) : Int) := fun h => c (decide_eq_true h)
      have d : cl.length ∣ q * tk.length := Nat.dvd_of_mod_eq_zero (by omega)
      have e := least_lcm q0 d no n0 c0
      refine ⟨_, rfl, ?_⟩
      show Q (vn (q * tk.length)) _
      rw [e]
      exact k
theorem ok__law_counts (T : Txt K mg) : OkF P w K mg base 1 (He.ga K "_law_counts") ["_law_parts_here", "_law_ticks"] spCounts := by
  refine FnP.okF T.f__law_counts sc__law_counts (fun _ _ _ _ _ _ us hl => match us, hl with | [_, _], _ => rfl) (fun vs H Q E h => ?_) (fun cdv A outer s H vs Q E hr h => ?_)
  · obtain ⟨t, _, _, _, _, _, _, _, rfl, _⟩ := h
    rfl
  obtain ⟨t, tp, cp, m, lt, tk, cl, n, rfl, hP, hn, k⟩ := h
  have n0 := hP.ok.tkP.pos
  have c0 := hP.ok.clP.pos
  refine ⟨_, (pss_cons (ps_par (i := 2) (j := 3) (by rfl) sc__law_counts.nd rfl rfl (by decide) rfl rfl (pa_cons (pe_lst (pa_cons pe_int pa_nil)) (pa_cons (pe_lst (pa_cons pe_int pa_nil)) pa_nil)) (by rfl))
    (pss_cons (ps_for own_cx rfl (pi_range1 (by rfl) T.g_range (pa_cons (pv 1) pa_nil)) (pg_name (i := 4) sc__law_counts.nd rfl (Or.inl rfl))
      (pss_cons (ps_expr (pe_bm PySem.F.plainAttrs_list PySem.F.slot_list_append PySem.F.type_list_append mt_append (pv 2) (pa_cons (pe_op op_add (pe_ix (ixLK (K := K)) (pv 2) (pe_un un_neg pe_int) (fun _ _ => rfl)) (pe_ix (ixTK (K := K)) (pe_ix (ixTK (K := K)) (pv 0) pe_int (fun _ _ => rfl)) (pe_op op_mod (pv 4) (pe_callB (lenK (K := K)) (by rfl) T.g_len (by decide +kernel) (pa_cons (pe_ix (ixTK (K := K)) (pv 0) pe_int (fun _ _ => rfl)) pa_nil))) (fun _ _ => rfl))) pa_nil)))
    (pss_one (ps_expr (pe_bm PySem.F.plainAttrs_list PySem.F.slot_list_append PySem.F.type_list_append mt_append (pv 3) (pa_cons (pe_callB (show CallR _ (.builtin "min") Rd.rMin2 from call_min2 (by rfl)) (by rfl) T.g_min (by decide +kernel) (pa_cons (pe_ix (ixLK (K := K)) (pv 2) (pe_un un_neg pe_int) (fun _ _ => rfl)) (pa_cons (pe_op op_add (pe_ix (ixLK (K := K)) (pv 3) (pe_un un_neg pe_int) (fun _ _ => rfl)) (pe_ix (ixTK (K := K)) (pe_ix (ixTK (K := K)) (pv 0) pe_int (fun _ _ => rfl)) (pe_op op_mod (pv 4) (pe_callB (lenK (K := K)) (by rfl) T.g_len (by decide +kernel) (pa_cons (pe_ix (ixTK (K := K)) (pv 0) pe_int (fun _ _ => rfl)) pa_nil))) (fun _ _ => rfl))) pa_nil))) pa_nil))))))
    (pss_one (ps_ret (pe_tup (pa_cons (pv 2) (pa_cons (pv 3) pa_nil))))))), ?_⟩
  refine ⟨(by show 1 ≤ sizeLine; decide), fun a ha => ⟨(by show 1 ≤ sizeLine; decide), fun b hb => ⟨_, _, rfl, ?_⟩⟩⟩
  have nab : a ≠ b := fun e => by rw [← e, upd_same] at hb; cases hb
  have hb0 : H b = none := by rw [upd_ne nab.symm] at hb; exact hb
  have Sab : ∀ x y, Same H (upd (upd H a x) b y) := fun x y q o e => by
    rw [upd_ne (ne_of_none e hb0), upd_ne (ne_of_none e ha)]
    exact e
  refine ⟨_, rfl, (n : Int), rfl, by omega, by omega, for_range (lo := 0) (n := ((n : Int)).toNat) (fun i σ H2 => ∃ v, σ = [some (.ref t), some (vn n), some (.ref a), some (.ref b), v] ∧ H2 = upd (upd H a (.lst (fV (tak tk) i))) b (.lst (fV (cal tk cl) i)))
    ⟨_, rfl, rfl⟩ ?_ ?_⟩
  · rintro i σ H2 hi ⟨v, rfl, rfl⟩
    have hi2 : i < n := by simpa using hi
    have P2 : ∀ x y, PartsAt (upd (upd H a x) b y) t m tp tk cp cl lt := fun x y => hP.same (Sab x y)
    generalize hX : HO.lst (fV (tak tk) i) = X
    have hA : ∀ y, upd (upd H a X) b y a = some X := fun y => by rw [upd_ne nab]; exact upd_same
    have La : ∀ y, SqL K (upd (upd H a X) b y) a (fV (tak tk) i) := fun y => SqL.of (by rw [hA, hX])
    have St := fun x y => SqT.of (K := K) (P2 x y).at_
    have last1 : atI (fV (tak tk) i) (-(1 : Int)) = some (vn (tak tk i)) := at_last fV_len (fV_at (Nat.le_refl i))
    -- taken.append(taken[-1] + takes[tick % n])
    refine ⟨_, rfl, .inl ⟨rfl, _, La _⟩, _, rfl, 1, rfl, a, _, _, _, rfl, rfl, La _, last1, _, rfl, t, _, 1, _, rfl, rfl, St _ _, at3 (j := 1) rfl, _, rfl, _, rfl, t, _, 1, _, rfl, rfl, St _ _, at3 (j := 1) rfl, tp, _, rfl, .inr (SqT.of (P2 _ _).tkA), _, _, rfl, rfl,
      (by show (0 : Int) < ((tk.map vn).length : Int); rw [List.length_map]; omega), tp, _, _, _, rfl, rfl, SqT.of (P2 _ _).tkA, pat_at n0 (Int.zero_add _), _, _, rfl, rfl, ?_⟩
    refine ⟨a, _, _, rfl, rfl, by rw [hA, hX], small1000 (by rw [fV_len]; omega), ?_⟩
    have e1 : fV (tak tk) i ++ [V.int ((tak tk i : Int) + (atp tk i : Int))] = fV (tak tk) (i + 1) := by
      rw [fV_succ]
      rfl
    rw [e1]
    have sw : upd (upd (upd H a X) b (.lst (fV (cal tk cl) i))) a (.lst (fV (tak tk) (i + 1))) = upd (upd H a (.lst (fV (tak tk) (i + 1)))) b (.lst (fV (cal tk cl) i)) := by
      funext q
      unfold upd
      by_cases h1 : q = a
      · rw [if_pos h1, if_neg (by rw [h1]; exact nab), if_pos h1]
      · rw [if_neg h1, if_neg h1]
        by_cases h2 : q = b
        · rw [if_pos h2, if_pos h2]
        · rw [if_neg h2, if_neg h2, if_neg h1]
    rw [sw]
    have La2 : SqL K (upd (upd H a (.lst (fV (tak tk) (i + 1)))) b (.lst (fV (cal tk cl) i))) a (fV (tak tk) (i + 1)) := SqL.of (by rw [upd_ne nab]; exact upd_same)
    have Lb2 : SqL K (upd (upd H a (.lst (fV (tak tk) (i + 1)))) b (.lst (fV (cal tk cl) i))) b (fV (cal tk cl) i) := SqL.of upd_same
    have last2 : atI (fV (tak tk) (i + 1)) (-(1 : Int)) = some (vn (tak tk (i + 1))) := at_last fV_len (fV_at (Nat.le_refl (i + 1)))
    have last3 : atI (fV (cal tk cl) i) (-(1 : Int)) = some (vn (cal tk cl i)) := at_last fV_len (fV_at (Nat.le_refl i))
    -- called.append(min(taken[-1], called[-1] + calls[tick % n]))
    refine ⟨_, rfl, .inl ⟨rfl, _, Lb2⟩, _, rfl, 1, rfl, a, _, _, _, rfl, rfl, La2, last2, _, rfl, 1, rfl, b, _, _, _, rfl, rfl, Lb2, last3, _, rfl, t, _, 2, _, rfl, rfl, St _ _, at3 (j := 2) rfl, _, rfl, _, rfl, t, _, 2, _, rfl, rfl, St _ _, at3 (j := 2) rfl, cp, _, rfl, .inr (SqT.of (P2 _ _).clA), _, _, rfl, rfl,
      (by show (0 : Int) < ((cl.map vn).length : Int); rw [List.length_map]; omega), cp, _, _, _, rfl, rfl, SqT.of (P2 _ _).clA, pat_at c0 (Int.zero_add _), _, _, rfl, rfl, _, _, rfl, ?_⟩
    refine ⟨b, _, _, rfl, rfl, upd_same, small1000 (by rw [fV_len]; omega), _, rfl, ?_⟩
    rw [upd_upd, fV_succ (f := cal tk cl)]
    have e2 : V.int (if ((cal tk cl i : Int) + (atp cl i : Int)) < (tak tk (i + 1) : Int) then ((cal tk cl i : Int) + (atp cl i : Int)) else (tak tk (i + 1) : Int)) = vn (cal tk cl (i + 1)) := by
      refine vn_int ?_
      have : cal tk cl (i + 1) = min (tak tk (i + 1)) (cal tk cl i + atp cl i) := rfl
      rw [this]
      split <;> omega
    rw [← e2]
  · rintro σ H2 ⟨v, rfl, rfl⟩
    have en : ((n : Int)).toNat = n := by simp
    rw [en]
    refine ⟨_, rfl, _, rfl, (by show 2 ≤ sizeLine; decide), fun r hr' => ?_⟩
    have nra : r ≠ a := fun e => by rw [e, upd_ne nab, upd_same] at hr'; cases hr'
    have nrb : r ≠ b := fun e => by rw [e, upd_same] at hr'; cases hr'
    have hr0 : H r = none := by rw [upd_ne nrb, upd_ne nra] at hr'; exact hr'
    refine k r a b _ hr0 ha hb0 nab ((Sab _ _).trans (Same.new hr')) upd_same (by rw [upd_ne nra.symm, upd_ne nab]; exact upd_same) (by rw [upd_ne nrb.symm]; exact upd_same)
end
end Tk

/-! ### Equal data -/
namespace Tk
open PySem PySem.Spec PyProof.Rows L2
def flat : V → Bool
  | .non => true
  | .bl _ => true
  | .int _ => true
  | .str _ => true
  | _ => false
/-- one level of data -/
def Nx (K : PySem.W.Frag) (R : Hp → V → V → Prop) (H : Hp) (v u : V) : Prop :=
  (v = u ∧ flat v = true) ∨ (∃ a b xs ys, v = .ref a ∧ u = .ref b ∧ SqL K H a xs ∧ SqL K H b ys ∧ xs.length = ys.length ∧ xs.length ≤ 100000 ∧ ∀ (i : Nat) x y, xs[i]? = some x → ys[i]? = some y → R H x y) ∨
  (∃ a b xs ys, v = .ref a ∧ u = .ref b ∧ SqT K H a xs ∧ SqT K H b ys ∧ xs.length = ys.length ∧ xs.length ≤ 100000 ∧ ∀ (i : Nat) x y, xs[i]? = some x → ys[i]? = some y → R H x y)
/-- the same data, at most n deep -/
def Sm (K : PySem.W.Frag) : Nat → Hp → V → V → Prop
  | 0 => fun _ _ _ => False
  | n + 1 => Nx K (Sm K n)
def spEqOf (R : Hp → V → V → Prop) : Sp := fun vs H Q _ => ∃ v u, vs = [v, u] ∧ R H v u ∧ ∀ H', Same H H' → Q (.bl true) H'
theorem sqt_same {K : PySem.W.Frag} {H H' : Hp} {a : Addr} {xs : List V} (e : Same H H') (h : SqT K H a xs) : SqT K H' a xs := by
  rcases h with (h | ⟨o, h⟩) | h
  · exact .inl (.inl (e _ _ h))
  · exact .inl (.inr ⟨o, e _ _ h⟩)
  · exact .inr h
theorem Sm.same {K : PySem.W.Frag} {H H' : Hp} (e : Same H H') : ∀ {n : Nat} {v u : V}, Sm K n H v u → Sm K n H' v u
  | 0, _, _, h => h
  | n + 1, _, _, h => by
    rcases h with h | ⟨a, b, xs, ys, h1, h2, h3, h4, h5, h6, h7⟩ | ⟨a, b, xs, ys, h1, h2, h3, h4, h5, h6, h7⟩
    · exact .inl h
    · exact .inr (.inl ⟨a, b, xs, ys, h1, h2, e.seq h3, e.seq h4, h5, h6, fun i x y p q => Sm.same e (h7 i x y p q)⟩)
    · exact .inr (.inr ⟨a, b, xs, ys, h1, h2, sqt_same e h3, sqt_same e h4, h5, h6, fun i x y p q => Sm.same e (h7 i x y p q)⟩)
theorem tyx_l {K : PySem.W.Frag} {H : Hp} {a : Addr} {xs : List V} (h : SqL K H a xs) : TyX K H (.ref a) (.type "list") := by
  rcases h with (h | ⟨o, h⟩) | ⟨o, its, n, h1, h2, _⟩
  · exact .base (.lst h)
  · exact .base (.frz h)
  · exact .kList h1 h2
theorem tyx_t {K : PySem.W.Frag} {H : Hp} {a : Addr} {xs : List V} (h : SqT K H a xs) : TyX K H (.ref a) (.type "tuple") := by
  rcases h with (h | ⟨o, h⟩) | ⟨o, its, n, h1, h2, _⟩
  · exact .base (.tup h)
  · exact .fTuple h
  · exact .kTuple h1 h2
theorem rix {K : PySem.W.Frag} {H : Hp} {a : Addr} {xs : List V} {i : Int} {v : V} {Q : VK} (s : SqL K H a xs ∨ SqT K H a xs) (g : atI xs i = some v) (q : Q v H) : rIx K (.ref a) (.int i) H Q := by
  rcases s with s | s
  · exact .inl ⟨a, xs, i, v, rfl, rfl, s, g, q⟩
  · exact .inr (.inl ⟨a, xs, i, v, rfl, rfl, s, g, q⟩)
section
variable {P : Program} {w : World} {K : PySem.W.Frag} {mg : Str → Option Value} {base : Heap}
theorem eq_never (T : Txt K mg) : OkF P w K mg base 1 (He.ga K "_law_equal") ["_law_actual", "_law_expected"] (spEqOf fun _ _ _ => False) :=
  FnP.okF T.f__law_equal sc__law_equal (fun _ _ _ _ _ _ us hl => match us, hl with | [_, _], _ => rfl) (fun vs H Q E h => by obtain ⟨v, u, rfl, _⟩ := h; rfl) (fun cdv A outer s H vs Q E hr h => by obtain ⟨v, u, _, f, _⟩ := h; exact f.elim)
theorem eq_step {k : Nat} {R : Hp → V → V → Prop} (hR : ∀ H H' v u, Same H H' → R H v u → R H' v u) (T : Txt K mg) (G__law_equal : OkF P w K mg base k (He.ga K "_law_equal") ["_law_actual", "_law_expected"] (spEqOf R)) :
    OkF P w K mg base (k + 1) (He.ga K "_law_equal") ["_law_actual", "_law_expected"] (spEqOf (Nx K R)) := by
  refine FnP.okF T.f__law_equal sc__law_equal (fun _ _ _ _ _ _ us hl => match us, hl with | [_, _], _ => rfl) (fun vs H Q E h => ?_) (fun cdv A outer s H vs Q E hr h => ?_)
  · obtain ⟨v, u, rfl, _⟩ := h
    rfl
  obtain ⟨v, u, rfl, hS, q⟩ := h
  refine ⟨_, (pss_cons (ps_if (pt_cmpR (show OpR _ (compareOp .Is) Rd.rIsN from op_isN) (pv 1) pe_non (nomark _)) (pss_one (ps_ret (pe_cmpR (show OpR _ (compareOp .Is) Rd.rIsN from op_isN) (pv 0) pe_non (nomark _)))) pss_nil)
    (pss_cons (ps_if (pt_val (pe_callB (isiK (K := K)) (by rfl) T.g_isinstance (by decide +kernel) (pa_cons (pv 1) (pa_cons (pe_bltn (v := .ty "bool") (by rfl) T.g_bool boot_ty_bool rfl) pa_nil)))) (pss_one (ps_ret (pe_and (pe_callB (isiK (K := K)) (by rfl) T.g_isinstance (by decide +kernel) (pa_cons (pv 0) (pa_cons (pe_bltn (v := .ty "bool") (by rfl) T.g_bool boot_ty_bool rfl) pa_nil))) (pe_one (pe_cmpR op_eq (pv 0) (pv 1) (nomark _)))))) pss_nil)
    (pss_cons (ps_if (pt_val (pe_callB (isiK (K := K)) (by rfl) T.g_isinstance (by decide +kernel) (pa_cons (pv 1) (pa_cons (pe_bltn (v := .ty "int") (by rfl) T.g_int boot_ty_int rfl) pa_nil)))) (pss_one (ps_ret (pe_and (pe_callB (isiK (K := K)) (by rfl) T.g_isinstance (by decide +kernel) (pa_cons (pv 0) (pa_cons (pe_bltn (v := .ty "int") (by rfl) T.g_int boot_ty_int rfl) pa_nil))) (pe_and (pe_not (pe_callB (isiK (K := K)) (by rfl) T.g_isinstance (by decide +kernel) (pa_cons (pv 0) (pa_cons (pe_bltn (v := .ty "bool") (by rfl) T.g_bool boot_ty_bool rfl) pa_nil)))) (pe_one (pe_cmpR op_eq (pv 0) (pv 1) (nomark _))))))) pss_nil)
    (pss_cons (ps_if (pt_val (pe_callB (isiK (K := K)) (by rfl) T.g_isinstance (by decide +kernel) (pa_cons (pv 1) (pa_cons (pe_bltn (v := .ty "str") (by rfl) T.g_str boot_ty_str rfl) pa_nil)))) (pss_one (ps_ret (pe_and (pe_callB (isiK (K := K)) (by rfl) T.g_isinstance (by decide +kernel) (pa_cons (pv 0) (pa_cons (pe_bltn (v := .ty "str") (by rfl) T.g_str boot_ty_str rfl) pa_nil))) (pe_one (pe_cmpR op_eq (pv 0) (pv 1) (nomark _)))))) pss_nil)
    (pss_cons (ps_if (pt_cmpR op_ne (pe_callB (isiK (K := K)) (by rfl) T.g_isinstance (by decide +kernel) (pa_cons (pv 1) (pa_cons (pe_bltn (v := .ty "tuple") (by rfl) T.g_tuple boot_ty_tuple rfl) pa_nil))) (pe_callB (isiK (K := K)) (by rfl) T.g_isinstance (by decide +kernel) (pa_cons (pv 0) (pa_cons (pe_bltn (v := .ty "tuple") (by rfl) T.g_tuple boot_ty_tuple rfl) pa_nil))) (nomark _)) (pss_one (ps_ret pe_bl)) pss_nil)
    (pss_cons (ps_if (pt_cmpR op_ne (pe_callB (isiK (K := K)) (by rfl) T.g_isinstance (by decide +kernel) (pa_cons (pv 1) (pa_cons (pe_bltn (v := .ty "list") (by rfl) T.g_list boot_ty_list rfl) pa_nil))) (pe_callB (isiK (K := K)) (by rfl) T.g_isinstance (by decide +kernel) (pa_cons (pv 0) (pa_cons (pe_bltn (v := .ty "list") (by rfl) T.g_list boot_ty_list rfl) pa_nil))) (nomark _)) (pss_one (ps_ret pe_bl)) pss_nil)
    (pss_cons (ps_if (pt_cmpR op_ne (pe_callB (lenK (K := K)) (by rfl) T.g_len (by decide +kernel) (pa_cons (pv 0) pa_nil)) (pe_callB (lenK (K := K)) (by rfl) T.g_len (by decide +kernel) (pa_cons (pv 1) pa_nil)) (nomark _)) (pss_one (ps_ret pe_bl)) pss_nil)
    (pss_one (ps_ret (pe_callB (allLK (K := K)) (by rfl) T.g_all (by decide +kernel) (pa_cons (pe_lc (own := [("_law_k", 2)]) (g := gName 2) (tt := tYes) (by rfl) sc__law_equal.nd (pi_range1 (by rfl) T.g_range (pa_cons (pe_callB (lenK (K := K)) (by rfl) T.g_len (by decide +kernel) (pa_cons (pv 1) pa_nil)) pa_nil)) (blkOk_by (own := [("_law_k", 2)]) (N := N__law_equal) (sc := (defScope s__law_equal)) (by decide +kernel)) (fun _ _ _ _ _ => pg_name (i := 2) sc__law_equal.nd rfl (Or.inl rfl)) (fun _ _ _ _ _ => pts_nil) (fun _ _ _ _ _ => (pe_call G__law_equal.one hr (by rfl) T.g__law_equal G__law_equal.kp G__law_equal.two .nil passL (pa_cons (pe_ix (ixSK (K := K)) (pv 0) (pv 2) (fun _ _ => rfl)) (pa_cons (pe_ix (ixSK (K := K)) (pv 1) (pv 2) (fun _ _ => rfl)) pa_nil))))) pa_nil))))))))))), ?_⟩
  have q0 := q H (Same.refl H)
  -- isinstance(x, n)
  rcases hS with ⟨rfl, hf⟩ | hS
  · cases v with
    | non => exact ⟨_, rfl, rfl, _, rfl, _, rfl, rfl, q0⟩
    | bl x =>
      refine ⟨_, rfl, rfl, _, rfl, ?_⟩
      refine ⟨_, rfl, .bl x, .ty "bool", _, _, true, rfl, .ty "bool", .base (.bl x), kit_at (by decide +kernel), true, rfl, ?_⟩
      refine ⟨_, rfl, .bl x, .ty "bool", _, _, true, rfl, .ty "bool", .base (.bl x), kit_at (by decide +kernel), true, rfl, ?_⟩
      refine ⟨_, rfl, _, rfl, rfl, ?_⟩
      show Q (V.bl (decide (V.bl x = V.bl x))) H
      rw [decide_eq_true rfl]
      exact q0
    | int x =>
      refine ⟨_, rfl, rfl, _, rfl, ?_⟩
      refine ⟨_, rfl, .int x, .ty "bool", _, _, false, rfl, .ty "bool", .base (.int x), kit_at (by decide +kernel), false, rfl, ?_⟩
      refine ⟨_, rfl, .int x, .ty "int", _, _, true, rfl, .ty "int", .base (.int x), kit_at (by decide +kernel), true, rfl, ?_⟩
      refine ⟨_, rfl, .int x, .ty "int", _, _, true, rfl, .ty "int", .base (.int x), kit_at (by decide +kernel), true, rfl, ?_⟩
      refine ⟨_, rfl, .int x, .ty "bool", _, _, false, rfl, .ty "bool", .base (.int x), kit_at (by decide +kernel), false, rfl, true, rfl, ?_⟩
      refine ⟨_, rfl, _, rfl, rfl, ?_⟩
      show Q (V.bl (decide (V.int x = V.int x))) H
      rw [decide_eq_true rfl]
      exact q0
    | str x =>
      refine ⟨_, rfl, rfl, _, rfl, ?_⟩
      refine ⟨_, rfl, .str x, .ty "bool", _, _, false, rfl, .ty "bool", .base (.str x), kit_at (by decide +kernel), false, rfl, ?_⟩
      refine ⟨_, rfl, .str x, .ty "int", _, _, false, rfl, .ty "int", .base (.str x), kit_at (by decide +kernel), false, rfl, ?_⟩
      refine ⟨_, rfl, .str x, .ty "str", _, _, true, rfl, .ty "str", .base (.str x), kit_at (by decide +kernel), true, rfl, ?_⟩
      refine ⟨_, rfl, .str x, .ty "str", _, _, true, rfl, .ty "str", .base (.str x), kit_at (by decide +kernel), true, rfl, ?_⟩
      refine ⟨_, rfl, _, rfl, rfl, ?_⟩
      show Q (V.bl (decide (V.str x = V.str x))) H
      rw [decide_eq_true rfl]
      exact q0
    | _ => cases hf
  · -- two lists, two tuples: what both want
    obtain ⟨kind, a, b, xs, ys, tya, tyb, rfl, rfl, st, hl, hz, hi, ka, kb, kc, tt1, tl1⟩ : ∃ (kind : String) (a b : Addr) (xs ys : List V), TyX K H (.ref a) (.type kind) ∧ TyX K H (.ref b) (.type kind) ∧ v = .ref a ∧ u = .ref b ∧
        (∀ H', Same H H' → (SqL K H' a xs ∨ SqT K H' a xs) ∧ (SqL K H' b ys ∨ SqT K H' b ys)) ∧ xs.length = ys.length ∧ xs.length ≤ 100000 ∧ (∀ (i : Nat) x y, xs[i]? = some x → ys[i]? = some y → R H x y) ∧
        kitB kind "bool" = some false ∧ kitB kind "int" = some false ∧ kitB kind "str" = some false ∧ (∃ b, kitB kind "tuple" = some b) ∧ (∃ b, kitB kind "list" = some b) := by
      rcases hS with ⟨a, b, xs, ys, h1, h2, h3, h4, h5, h6, h7⟩ | ⟨a, b, xs, ys, h1, h2, h3, h4, h5, h6, h7⟩
      · exact ⟨"list", a, b, xs, ys, tyx_l h3, tyx_l h4, h1, h2, fun H' e => ⟨.inl (e.seq h3), .inl (e.seq h4)⟩, h5, h6, h7, by decide +kernel, by decide +kernel, by decide +kernel, ⟨false, by decide +kernel⟩, ⟨true, by decide +kernel⟩⟩
      · exact ⟨"tuple", a, b, xs, ys, tyx_t h3, tyx_t h4, h1, h2, fun H' e => ⟨.inr (sqt_same e h3), .inr (sqt_same e h4)⟩, h5, h6, h7, by decide +kernel, by decide +kernel, by decide +kernel, ⟨true, by decide +kernel⟩, ⟨false, by decide +kernel⟩⟩
    obtain ⟨tt, htt⟩ := tt1
    obtain ⟨tl, htl⟩ := tl1
    refine ⟨_, rfl, rfl, _, rfl, ?_⟩
    refine ⟨_, rfl, .ref b, .ty "bool", _, _, false, rfl, .ty "bool", tyb, kit_at ka, false, rfl, ?_⟩
    refine ⟨_, rfl, .ref b, .ty "int", _, _, false, rfl, .ty "int", tyb, kit_at kb, false, rfl, ?_⟩
    refine ⟨_, rfl, .ref b, .ty "str", _, _, false, rfl, .ty "str", tyb, kit_at kc, false, rfl, ?_⟩
    refine ⟨_, rfl, .ref b, .ty "tuple", _, _, tt, rfl, .ty "tuple", tyb, kit_at htt, _, rfl, .ref a, .ty "tuple", _, _, tt, rfl, .ty "tuple", tya, kit_at htt, (by cases tt <;> rfl), _, rfl, ?_⟩
    refine iteNS rfl ?_
    refine ⟨_, rfl, .ref b, .ty "list", _, _, tl, rfl, .ty "list", tyb, kit_at htl, _, rfl, .ref a, .ty "list", _, _, tl, rfl, .ty "list", tya, kit_at htl, (by cases tl <;> rfl), _, rfl, ?_⟩
    refine iteNS rfl ?_
    have s0 := st H (Same.refl H)
    refine ⟨_, rfl, a, xs, rfl, s0.1, _, rfl, b, ys, rfl, s0.2, rfl, _, rfl, ?_⟩
    refine iteNS (by rw [hl]) ?_
    -- all([..])
    refine ⟨_, rfl, b, ys, rfl, s0.2, _, rfl, by omega, by omega, fun D hD => ?_⟩
    refine lc_range (lo := 0) (n := ((ys.length : Int)).toNat) (fun i H2 => Same H H2 ∧ H2 D = some (.lst ((List.replicate i true).map V.bl))) ⟨Same.new hD, upd_same⟩ ?_ ?_
    · rintro i H2 hi2 ⟨S2, hD2⟩
      have iy : i < ys.length := by simpa using hi2
      have ix : i < xs.length := by omega
      have s2 := st H2 S2
      have gx : atI xs ((0 : Int) + (i : Int)) = some xs[i] := by rw [Int.zero_add]; exact atn (List.getElem?_eq_getElem ix)
      have gy : atI ys ((0 : Int) + (i : Int)) = some ys[i] := by rw [Int.zero_add]; exact atn (List.getElem?_eq_getElem iy)
      refine ⟨rfl, ?_⟩
      refine ⟨_, rfl, _, rfl, rix s2.1 gx ?_⟩
      refine ⟨_, rfl, _, rfl, rix s2.2 gy ?_⟩
      refine ⟨_, _, rfl, hR _ _ _ _ S2 (hi i _ _ (List.getElem?_eq_getElem ix) (List.getElem?_eq_getElem iy)), fun H3 S3 => ?_⟩
      refine ⟨(List.replicate i true).map V.bl, S3 _ _ hD2, Nat.lt_of_le_of_lt (m := 100000) (by simp; omega) (by decide), ?_, ?_⟩
      · intro b' o e
        rw [upd_ne (ne_of_none e hD)]
        exact S3 _ _ (S2 _ _ e)
      · rw [upd_same, List.replicate_succ', List.map_append]
        rfl
    · rintro H2 ⟨S2, hD2⟩
      refine ⟨D, _, rfl, SqL.of hD2, ?_⟩
      have e : (List.replicate ((ys.length : Int)).toNat true).all id = true := by simp
      rw [e]
      exact q H2 S2
theorem ok__law_equal (T : Txt K mg) : ∀ n : Nat, OkF P w K mg base (n + 1) (He.ga K "_law_equal") ["_law_actual", "_law_expected"] (spEqOf (Sm K n))
  | 0 => eq_never T
  | n + 1 => eq_step (fun H H' v u e h => Sm.same e h) T (ok__law_equal T n)
end
theorem Sm.flats {K : PySem.W.Frag} {n : Nat} {H : Hp} {a b : Addr} {xs : List V} (h1 : SqL K H a xs) (h2 : SqL K H b xs) (hl : xs.length ≤ 100000) (hf : ∀ x ∈ xs, flat x = true) : Sm K (n + 2) H (.ref a) (.ref b) :=
  .inr (.inl ⟨a, b, xs, xs, rfl, rfl, h1, h2, rfl, hl, fun i x y hx hy => .inl ⟨Option.some.inj (hx.symm.trans hy), hf x (List.mem_of_getElem? hx)⟩⟩)
theorem Sm.int {K : PySem.W.Frag} {n : Nat} {H : Hp} {i j : Int} (h : i = j) : Sm K (n + 1) H (.int i) (.int j) := .inl ⟨by rw [h], rfl⟩
end Tk

namespace Tk
open PySem PySem.Spec PyProof.Rows L2 Mm
/-- what a turn of a law holds: the hall, the counts up to n, away from d -/
structure EnvN (C : Addr) (H : Hp) (d hh a1 b1 : Addr) (m : Nat) (tk cl : List Nat) (lt : Nat) (lp : Addr) (n : Nat) : Prop where
  hall : HallAt C H hh m tk cl lt lp
  one : H a1 = some (.lst (fV (tak tk) n))
  two : H b1 = some (.lst (fV (cal tk cl) n))
  nl : lp ≠ d
  n1 : a1 ≠ d
  n2 : b1 ≠ d
theorem EnvN.but {C : Addr} {H H' : Hp} {d hh a1 b1 lp : Addr} {m lt n : Nat} {tk cl : List Nat} {cs : List V} (e : EnvN C H d hh a1 b1 m tk cl lt lp n) (b : But d H H') (hd : H d = some (.lst cs)) : EnvN C H' d hh a1 b1 m tk cl lt lp n :=
  ⟨e.hall.but b hd e.nl, b _ _ e.n1 e.one, b _ _ e.n2 e.two, e.nl, e.n1, e.n2⟩
theorem EnvN.same {C : Addr} {H H' : Hp} {d hh a1 b1 lp : Addr} {m lt n : Nat} {tk cl : List Nat} (e : EnvN C H d hh a1 b1 m tk cl lt lp n) (b : Same H H') : EnvN C H' d hh a1 b1 m tk cl lt lp n :=
  ⟨e.hall.same b, b _ _ e.one, b _ _ e.two, e.nl, e.n1, e.n2⟩
theorem hfs_meth {m : Nat} {tp cp : Addr} {lt : Nat} {lp : Addr} {x : Str} (h : (["_called", "lateness", "calls", "takes", "modulus"] : List Str).contains x = false) : (hfs m tp cp lt lp).lookup x = none := by
  simp only [List.contains_cons, Bool.or_eq_false_iff, beq_eq_false_iff_ne] at h
  obtain ⟨h1, h2, h3, h4, h5, _⟩ := h
  exact hfs_no h1 h2 h3 h4 h5
theorem Sm.flatsT {K : PySem.W.Frag} {n : Nat} {H : Hp} {a b : Addr} {xs : List V} (h1 : SqT K H a xs) (h2 : SqT K H b xs) (hl : xs.length ≤ 100000) (hf : ∀ x ∈ xs, flat x = true) : Sm K (n + 2) H (.ref a) (.ref b) :=
  .inr (.inr ⟨a, b, xs, xs, rfl, rfl, h1, h2, rfl, hl, fun i x y hx hy => .inl ⟨Option.some.inj (hx.symm.trans hy), hf x (List.mem_of_getElem? hx)⟩⟩)
theorem Sm.flat1 {K : PySem.W.Frag} {n : Nat} {H : Hp} {v : V} (h : flat v = true) : Sm K (n + 1) H v v := .inl ⟨rfl, h⟩
theorem flat_vn {ps : List Nat} : ∀ x ∈ ps.map vn, flat x = true := fun x hx => by
  obtain ⟨n, _, rfl⟩ := List.mem_map.mp hx
  rfl
end Tk

/-! ### for in a generator's body -/
namespace Tk
open PySem PySem.Spec PyProof.Rows L2 GenW
section
variable {prog : Program} {w : World} {A : Around} {R : GenEnd} {Y : Protocol} {n : Nat} {s₀ : Shared} {fs : List Frame} {s : Shared} {env : Env}
abbrev outBy (prog : Program) (w : World) (A : Around) (R : GenEnd) (Y : Protocol) (n : Nat) (s₀ : Shared) (c : Code) (fs : List Frame) (env : Env) (x : Value) (s' : Shared) : Prop :=
  Seg (model prog w) A R Y n s₀ c ((do noteFrame x env; theTreesLotGoes x : Sem Unit).wrap (fun _ => .raise x) .raise id id) fs s'
theorem seg_forTurn {tg : Expr} {itv : Value} {body : List Stmt}
    (h : wpAny (model prog w) (A.over (.forLoop tg itv body [] env) fs) (pyNext itv) (fun r s1 => match r with
        | none => Seg (model prog w) A R Y n s₀ (.block [] env) ((model prog w).den (.block [] env)) fs s1
        | some v => wpAny (model prog w) (A.over (.forLoop tg itv body [] env) fs) (letOwnedTupleGo tg itv v) (fun _ s2 => wpAny (model prog w) (A.over (.forLoop tg itv body [] env) fs) (assign tg env v) (fun _ s3 =>
            Seg (model prog w) A R Y n s₀ (.forLoop tg itv body [] env) ((execs body env).wrap (fun f => match f with
              | .next | .cont => .pure (.again (.forLoop tg itv body [] env))
              | .brk => .pure (.done .next)
              | .ret v => .pure (.done (.ret v))) (fun e => (do noteFrame e env; theTreesLotGoes e : Sem Unit).wrap (fun _ => .raise e) .raise id id) id id) fs s3)
            (outBy prog w A R Y n s₀ (.forLoop tg itv body [] env) fs env) s2) (outBy prog w A R Y n s₀ (.forLoop tg itv body [] env) fs env) s1)
      (outBy prog w A R Y n s₀ (.forLoop tg itv body [] env) fs env) s) :
    Seg (model prog w) A R Y n s₀ (.forLoop tg itv body [] env) ((model prog w).den (.forLoop tg itv body [] env)) fs s := by
  show Seg _ A R Y n s₀ _ ((forTurn tg itv body [] env).onRaise (fun x => do noteFrame x env; theTreesLotGoes x)) fs s
  unfold forTurn
  rw [Sem.onRaise_eq_wrap]
  have bad : ∀ x s', outBy prog w A R Y n s₀ (.forLoop tg itv body [] env) fs env x s' → Seg (model prog w) A R Y n s₀ (.forLoop tg itv body [] env) ((do noteFrame x env; theTreesLotGoes x : Sem Unit).bind fun _ => .raise x) fs s' := fun x s' hx => by
    rw [Sem.bind_eq_wrap]
    exact hx
  refine seg_bind_wrap (wpAny_standAt ?_)
  refine seg_bind_wrap (wpAny_onRaise (wpAny_mono h (fun r s1 h1 => ?_) fun x s' hx => wpAny_standAt (bad x s' hx)))
  cases r with
  | none => exact seg_again rfl h1
  | some v =>
    refine seg_bind_wrap (wpAny_mono h1 (fun _ s2 h2 => ?_) bad)
    refine seg_bind_wrap (wpAny_mono h2 (fun _ s3 h3 => ?_) bad)
    rw [Sem.bind_eq_wrap', Sem.wrap_wrap]
    rw [Sem.wrap_congr (execs body env) _ _ (K' := fun f => match f with
          | .next | .cont => .pure (.again (.forLoop tg itv body [] env))
          | .brk => .pure (.done .next)
          | .ret v => .pure (.done (.ret v))) (H' := (fun e => (do noteFrame e env; theTreesLotGoes e : Sem Unit).wrap (fun _ => .raise e) .raise id id))
      (fun f => by cases f <;> rfl)
      (fun e => by first | exact Sem.bind_eq_wrap _ _ | (show (do noteFrame e env; theTreesLotGoes e : Sem Unit).bind (fun _ => .raise e) = _; rw [Sem.bind_eq_wrap]))]
    exact h3
theorem seg_blockEnd {K : List Frame} (h : Seg (model prog w) A R Y n s₀ (.block [] env) (.pure (.done .next)) fs s) : Seg (model prog w) A R Y n s₀ (.block [] env) ((model prog w).den (.block [] env)) fs s := h
end
end Tk

namespace Tk
open PySem PySem.Spec PyProof.Rows L2 GenW
def tGFor (wi : TI) (g : TG) (tb : TGn) : TGn := fun D ys σ H => wi σ H fun J H1 => ∃ W : Nat → Nat → List V → L2.St → Hp → Prop, (∃ m, W 0 m ys σ H1) ∧ ∀ i m ys σ H, W i m ys σ H →
  (J.stop i H ∧ D.nx ys σ H) ∨ (J.go i H ∧ ∃ N : List V → L2.St → Hp → Prop, (∀ ys' σ' H', N ys' σ' H' → ∃ m', m' < m ∧ W (i + 1) m' ys' σ' H') ∧ ∀ x H', J.yld i H x H' → g x σ H' fun σ2 H2 => tb { D with nx := N, ct := N, bk := D.nx } ys σ2 H2)
section
variable {X : Cx}
theorem gs_for {tg iter : Expr} {body : List Stmt} {pos : Pos} {wi : TI} {g : TG} {tb : TGn} (hp : PassesOwn (model X.prog X.w) X.A X.env X.xe) (hc : X.calm = true) (hi : PI X tg iter wi) (hg : PG X tg g) (hb : GSs X body tb)
    (hs : ∀ x, foldedSetIterable iter X.env x = pure x := by intro _; rfl) : GS X (.For tg iter body [] pos) (tGFor wi g tb) := by
  refine ⟨fun A S ip R n ys s₀ c fs K J gd lv s σ H D gc hn k hI ht => ?_⟩
  obtain ⟨acc0, cc0, r0, I0⟩ := hI
  have bad : ∀ x s', X.xe x s' → Seg (model X.prog X.w) A R (GY X S) n s₀ c (J x) fs s' := fun x s' hx => k.exc n s₀ x s' hx
  rw [exec_For]
  refine seg_bind_wrap (wpAny_standAt ?_)
  refine seg_bind_wrap ?_
  rw [gc.over]
  refine wpAny_mono (hi.run _ s σ H _ I0 ht) (fun v s1 h1 => ?_) bad
  refine seg_bind_wrap ?_
  rw [hs v]
  refine wpAny_pure ?_
  refine seg_bind_wrap (wpAny_standAt ?_)
  refine seg_bind_wrap ?_
  rw [gc.over]
  refine wpAny_holding (wpAny_mono h1 (fun itv s2 h2 => ?_) bad)
  obtain ⟨it, fp, tn, Jt, H2, e, I2, T, st2, f2, W, ⟨m0, w0⟩, turn⟩ := h2
  subst e
  refine seg_call fun p => ?_
  have gl := fun (kk : Result → Sem PySem.Fin) => gc_loop (k := kk) (c' := .forLoop tg (.ref it) body [] X.env) (l := lv []) (kp := []) (p := p) gc rfl rfl
  have fpS : ∀ b ∈ fp, b ≠ S := fun b hb z => by
    have q := (f2 b hb).2.2.2.2.2 (S, lstObj acc0 cc0) (List.mem_append_right _ List.mem_cons_self)
    exact q z.symm
  -- what stays true of the iterator's objects
  have stat : ∀ {H' : Hp} {acc : Array Value} {c2 : Nat}, (∀ b ∈ fp, H' b = none) → ∀ b ∈ fp, FpOk X ((S, lstObj acc c2) :: ip) H' b := fun {H' acc c2} hn b hb => by
    obtain ⟨_, f1, f3, f4, f5, f6⟩ := f2 b hb
    refine ⟨hn b hb, f1, f3, f4, f5, fun q hq => ?_⟩
    rcases List.mem_append.mp hq with z | z
    · exact f6 q (List.mem_append_left _ z)
    · rcases List.mem_cons.mp z with z | z
      · rw [z]
        exact fun z => fpS b hb z.symm
      · exact f6 q (List.mem_append_right _ (List.mem_cons_of_mem _ z))
  have loop : ∀ (m n : Nat) (i : Nat) (ys : List V) (s₀ s : Shared) (σ : L2.St) (H : Hp), n + ys.length = sizeLine → W i m ys σ H → GI X S ip ys σ H s → tn i s.heap → (∀ b ∈ fp, H b = none) →
      Seg (model X.prog X.w) A R (GY X S) n s₀ (.forLoop tg (.ref it) body [] X.env) ((model X.prog X.w).den (.forLoop tg (.ref it) body [] X.env))
        (.ret (fun r => ((match r with | .ok f => (.pure f : Sem Flow) | .error e => .raise e).onRaise (cameBack X.env)).wrap K J gd lv) none (gd false) (lv []) c p [] :: fs) s := by
    intro m
    induction m using Nat.strongRecOn with
    | ind m ih =>
      intro n i ys s₀ s σ H hn w hI hst hfr
      have ee : ∀ (n : Nat) (s₀ : Shared) (x : Value) (s' : Shared), X.xe x s' → outBy X.prog X.w A R (GY X S) n s₀ (.forLoop tg (.ref it) body [] X.env)
          (.ret (fun r => ((match r with | .ok f => (.pure f : Sem Flow) | .error e => .raise e).onRaise (cameBack X.env)).wrap K J gd lv) none (gd false) (lv []) c p [] :: fs) X.env x s' := fun n s₀ x s' hx => by
        refine seg_wrap ?_
        rw [(gl _).over]
        refine wpAny_bind (wpAny_mono (hp x s' hx) (fun _ s'' hcb => wpAny_theTreesLotGoes ?_) fun y s'' hcb => ?_)
        · exact seg_leaf (.error x) (seg_cameBack gc k hcb)
        · exact seg_leaf (.error y) (seg_cameBack gc k hcb)
      refine seg_forTurn ?_
      rw [(gl _).over]
      obtain ⟨acc, cc, r, I⟩ := hI
      rcases turn i m ys σ H w with ⟨stop, qn⟩ | ⟨go, N, hN, step⟩
      · refine wpAny_mono (T.done X rfl rfl rfl hc i _ s σ H X.xe I (stat hfr) hst stop) (fun r1 s4 z => ?_) (ee n s₀)
        obtain ⟨hr, I4⟩ := z
        subst hr
        exact seg_blockEnd (K := []) (seg_leaf (.ok .next) (k.ok n ys s₀ s4 .next hn ⟨σ, H, ⟨acc, cc, r, I4⟩, qn⟩))
      · refine wpAny_mono (T.item X rfl rfl rfl hc i _ s σ H X.xe I (stat hfr) hst go) (fun r1 s4 z => ?_) (ee n s₀)
        obtain ⟨u, hr, h4⟩ := z
        subst hr
        refine wpAny_mono h4 (fun _ s5 z => ?_) (ee n s₀)
        obtain ⟨x, H5, I5, r5, y5, st5, fr5⟩ := z
        have I5' := I5.pinned (stat fr5) (T.obj _ _ st5)
        refine wpAny_mono (hg.run _ s5 σ H5 x u _ I5' r5 (step x H5 y5)) (fun _ s6 z => ?_) (ee n s₀)
        obtain ⟨σ6, H6, I6, q6⟩ := z
        -- the body: the iterator's objects are the generator's own
        have gcb : GC X S (ip ++ pinsAt fp s5.heap) A (.forLoop tg (.ref it) body [] X.env) (.ret (fun r => ((match r with | .ok f => (.pure f : Sem Flow) | .error e => .raise e).onRaise (cameBack X.env)).wrap K J gd lv) none (gd false) (lv []) c p [] :: fs) id :=
          ⟨gc.pn, fun q hq => (List.mem_append.mp hq).elim (fun z => gc.ip q z) (fun z => fpS _ (of_pinsAt z).1), gc.apart, (gl _).over, (gl _).split, (gl _).guard, rfl⟩
        have back : ∀ {ys7 : List V} {σ7 : L2.St} {H7 : Hp} {s7 : Shared}, GI X S (ip ++ pinsAt fp s5.heap) ys7 σ7 H7 s7 → GI X S ip ys7 σ7 H7 s7 := fun z => by
          obtain ⟨a7, c7, r7, I7⟩ := z
          exact ⟨a7, c7, r7, Inv.unpinned (pins := (S, lstObj a7 c7) :: ip) (pl := pinsAt fp s5.heap) I7⟩
        have keepIt : ∀ {ys7 : List V} {σ7 : L2.St} {H7 : Hp} {s7 : Shared}, GI X S (ip ++ pinsAt fp s5.heap) ys7 σ7 H7 s7 → tn (i + 1) s7.heap ∧ ∀ b ∈ fp, H7 b = none := fun {ys7 σ7 H7 s7} z => by
          obtain ⟨a7, c7, r7, I7⟩ := z
          have at7 : ∀ b ∈ fp, ∀ o, s5.heap.get? b = some o → s7.heap.get? b = some o ∧ H7 b = none := fun b hb o e => by
            have q := I7.pin (b, o) (List.mem_append_right _ (List.mem_cons_of_mem _ (List.mem_append_right _ (mem_pinsAt hb e))))
            exact ⟨q.1, q.2.1⟩
          refine ⟨T.keep _ _ _ st5 fun b hb o e => (at7 b hb o e).1, fun b hb => ?_⟩
          obtain ⟨o, e, _⟩ := T.obj _ _ st5 b hb
          exact (at7 b hb o e).2
        refine hb.run A S (ip ++ pinsAt fp s5.heap) R n ys s₀ _ _ _ _ id id s6 σ6 H6 { D with nx := N, ct := N, bk := D.nx } gcb hn ⟨fun n' ys' s₀' s7 f hn' hq => ?_, fun n' s₀' x s7 hx => ee n' s₀' x s7 hx⟩ ⟨acc, cc, r, I6⟩ q6
        cases f with
        | next =>
          obtain ⟨σ7, H7, I7, n7⟩ := hq
          obtain ⟨m', hm, w7⟩ := hN ys' σ7 H7 n7
          obtain ⟨k1, k2⟩ := keepIt I7
          exact seg_again rfl (ih m' hm n' (i + 1) ys' s₀' s7 σ7 H7 hn' w7 (back I7) k1 k2)
        | cont =>
          obtain ⟨σ7, H7, I7, n7⟩ := hq
          obtain ⟨m', hm, w7⟩ := hN ys' σ7 H7 n7
          obtain ⟨k1, k2⟩ := keepIt I7
          exact seg_again rfl (ih m' hm n' (i + 1) ys' s₀' s7 σ7 H7 hn' w7 (back I7) k1 k2)
        | brk =>
          obtain ⟨σ7, H7, I7, q7⟩ := hq
          exact seg_leaf (.ok .next) (k.ok n' ys' s₀' s7 .next hn' ⟨σ7, H7, back I7, q7⟩)
        | ret v =>
          obtain ⟨x7, σ7, H7, I7, r7, q7⟩ := hq
          exact seg_leaf (.ok (.ret v)) (k.ok n' ys' s₀' s7 (.ret v) hn' ⟨x7, σ7, H7, back I7, r7, q7⟩)
  exact loop m0 n 0 ys s₀ s2 σ H2 hn w0 ⟨acc0, cc0, r0, I2⟩ st2 fun b hb => (f2 b hb).1
end
end Tk

/-! ### The generator of events -/
namespace Tk
open PySem PySem.Spec PyProof.Rows L2 Mm GenW
abbrev Ev3 : Type := Str × Nat × Nat
def evV (e : Ev3) : List V := [.str e.1, vn e.2.1, vn e.2.2]
/-- the events of one kind of a tick: numbers from a on and before b -/
def evK (k : Str) (t a b : Nat) : List Ev3 := (List.range' a (b - a)).map fun n => (k, t, n)
def evT (tk cl : List Nat) (t : Nat) : List Ev3 := evK "take" t (tak tk t) (tak tk (t + 1)) ++ evK "call" t (cal tk cl t) (cal tk cl (t + 1))
def evs (tk cl : List Nat) (a : Nat) : Nat → List Ev3
  | 0 => []
  | n + 1 => evs tk cl a n ++ evT tk cl (a + n)
/-- tuples that tell these events -/
def Tell (H : Hp) (ys : List V) (es : List Ev3) : Prop := ys.length = es.length ∧ ∀ (i : Nat) y e, ys[i]? = some y → es[i]? = some e → ∃ p, y = .ref p ∧ H p = some (.tup (evV e))
theorem Tell.nil {H : Hp} : Tell H [] [] := ⟨rfl, fun i y e h => by simp at h⟩
theorem Tell.same {H H' : Hp} {ys : List V} {es : List Ev3} (t : Tell H ys es) (s : Same H H') : Tell H' ys es := ⟨t.1, fun i y e h1 h2 => by
  obtain ⟨p, h3, h4⟩ := t.2 i y e h1 h2
  exact ⟨p, h3, s _ _ h4⟩⟩
theorem Tell.snoc {H : Hp} {ys : List V} {es : List Ev3} {p : Addr} {e : Ev3} (t : Tell H ys es) (h : H p = some (.tup (evV e))) : Tell H (ys ++ [.ref p]) (es ++ [e]) := by
  refine ⟨by rw [List.length_append, List.length_append, t.1]; rfl, fun i y e' h1 h2 => ?_⟩
  rcases Nat.lt_or_ge i ys.length with lt | ge
  · rw [List.getElem?_append_left lt] at h1
    rw [List.getElem?_append_left (by rw [← t.1]; exact lt)] at h2
    exact t.2 i y e' h1 h2
  · rw [List.getElem?_append_right ge] at h1
    rw [List.getElem?_append_right (by rw [← t.1]; exact ge), ← t.1] at h2
    have hi : i - ys.length = 0 := by
      have := (List.getElem?_eq_some_iff.mp h1).1
      simp at this
      omega
    rw [hi] at h1 h2
    simp at h1 h2
    subst h1 h2
    exact ⟨p, rfl, h⟩
theorem evK_snoc (k : Str) (t a n : Nat) : evK k t a (a + n) ++ [(k, t, a + n)] = evK k t a (a + (n + 1)) := by
  unfold evK
  rw [show a + n - a = n by omega, show a + (n + 1) - a = n + 1 by omega, List.range'_concat, List.map_append]
  simp
theorem evK_len (k : Str) (t a b : Nat) : (evK k t a b).length = b - a := by unfold evK; simp
theorem call_le9 {tk cl : List Nat} (h9 : ∀ x ∈ cl, x ≤ 9) (t : Nat) : cal tk cl (t + 1) - cal tk cl t ≤ 9 := by
  have h := atp_le h9 t
  rw [cal_succ]
  omega
theorem evs_len {tk cl : List Nat} (h1 : ∀ x ∈ tk, x ≤ 9) (h2 : ∀ x ∈ cl, x ≤ 9) (a : Nat) : ∀ n, (evs tk cl a n).length ≤ 18 * n
  | 0 => Nat.le_refl _
  | n + 1 => by
    have ih := evs_len h1 h2 a n
    have q1 := atp_le h1 (a + n)
    have q2 := call_le9 (tk := tk) h2 (a + n)
    have q3 : tak tk (a + n + 1) = tak tk (a + n) + atp tk (a + n) := rfl
    show (evs tk cl a n ++ (evK _ _ _ _ ++ evK _ _ _ _)).length ≤ _
    rw [List.length_append, List.length_append, evK_len, evK_len]
    omega
def spEvents (C : Addr) : SpG := fun vs H cont _ => ∃ (h lp : Addr) (a b m lt : Nat) (tk cl : List Nat), vs = [.ref h, vn a, vn b] ∧ a ≤ 1000000000000000000 ∧ b ≤ 400000000000000000 ∧ b ≤ a + 1000 ∧ HallAt C H h m tk cl lt lp ∧
  ∀ ys H', Same H H' → Tell H' ys (evs tk cl a (b - a)) → cont ys H'
structure OkG (P : Program) (w : World) (K : PySem.W.Frag) (mg : Str → Option Value) (base : Heap) (k : Nat) (a : Addr) (ps : List Str) (sp : SpG) : Prop where
  ex : ∃ fd, GFn P w K mg base k a fd ps sp ∧ Binds K fd ps []
theorem OkG.one {P : Program} {w : World} {K : PySem.W.Frag} {mg : Str → Option Value} {base : Heap} {k : Nat} {a : Addr} {ps : List Str} {sp : SpG} (O : OkG P w K mg base k a ps sp) : GFn P w K mg base k a (Classical.choose O.ex) ps sp := (Classical.choose_spec O.ex).1
theorem OkG.two {P : Program} {w : World} {K : PySem.W.Frag} {mg : Str → Option Value} {base : Heap} {k : Nat} {a : Addr} {ps : List Str} {sp : SpG} (O : OkG P w K mg base k a ps sp) : Binds K (Classical.choose O.ex) ps [] := (Classical.choose_spec O.ex).2
theorem noStop0 {K : PySem.W.Frag} : NoStop K E0 := fun _ _ _ h => h.elim
theorem gfor_range {lo : Int} {n : Nat} {g : TG} {tb : TGn} {D : GEnds} {ys : List V} {σ : L2.St} {H : Hp} (Pv : Nat → List V → L2.St → Hp → Prop) (h0 : Pv 0 ys σ H)
    (hs : ∀ i ys σ H, i < n → Pv i ys σ H → g (.int (lo + i)) σ H fun σ2 H2 => tb { D with nx := Pv (i + 1), ct := Pv (i + 1), bk := D.nx } ys σ2 H2) (hd : ∀ ys σ H, Pv n ys σ H → D.nx ys σ H) :
    ∃ W : Nat → Nat → List V → L2.St → Hp → Prop, (∃ m, W 0 m ys σ H) ∧ ∀ i m ys σ H, W i m ys σ H →
      ((Itr lo n).stop i H ∧ D.nx ys σ H) ∨ ((Itr lo n).go i H ∧ ∃ N : List V → L2.St → Hp → Prop, (∀ ys' σ' H', N ys' σ' H' → ∃ m', m' < m ∧ W (i + 1) m' ys' σ' H') ∧ ∀ x H', (Itr lo n).yld i H x H' → g x σ H' fun σ2 H2 => tb { D with nx := N, ct := N, bk := D.nx } ys σ2 H2) := by
  refine ⟨fun i m ys σ H => m = n - i ∧ i ≤ n ∧ Pv i ys σ H, ⟨_, rfl, Nat.zero_le _, h0⟩, fun i m ys σ H w => ?_⟩
  obtain ⟨rfl, hi, p⟩ := w
  rcases Nat.lt_or_ge i n with lt | ge
  · refine .inr ⟨lt, Pv (i + 1), fun ys' σ' H' p' => ⟨_, (by omega : n - (i + 1) < n - i), rfl, lt, p'⟩, fun x H' y => ?_⟩
    obtain ⟨e, y⟩ := y
    subst e y
    exact hs i ys σ _ lt p
  · obtain rfl : i = n := by omega
    exact .inl ⟨Nat.le_refl _, hd ys σ H p⟩
section
variable {P : Program} {w : World} {K : PySem.W.Frag} {mg : Str → Option Value} {base : Heap}
theorem ok_events (T : Txt K mg) : OkG P w K mg base 4 (He.ma K (He.ga K "Hall") "events") ["self", "start", "end"] (spEvents (He.ga K "Hall")) := by
  have G_check_tick : OkF P w K mg base 2 (He.ga K "check_tick") ["tick"] spTick := ok_check_tick T
  have G_taken : OkF P w K mg base 1 (He.ma K (He.ga K "Hall") "taken") ["self", "tick"] (spTaken (He.ga K "Hall")) := ok_taken T
  have G_called : OkF P w K mg base 3 (He.ma K (He.ga K "Hall") "called") ["self", "tick"] (spCalled (He.ga K "Hall")) := ok_called T
  obtain ⟨fd, F⟩ := T.f_events
  have hb := F.bindsN (ps := ["self", "start", "end"]) (fun _ _ _ _ _ _ us hl => match us, hl with | [_, _, _], _ => rfl)
  obtain ⟨oc, od, dV, kV, doc, pm, an, cdv, ct, osl, rfl, lk, hcd, _, _⟩ := F.ex
  refine ⟨⟨_, gfn_of lk hcd sc_events (fun vs H Q E h => ?_) (fun A outer s H vs Q E pn hr h => ?_), hb⟩⟩
  · obtain ⟨h, _, _, _, _, _, _, _, rfl, _⟩ := h
    rfl
  obtain ⟨h, lp, a, b, m, lt, tk, cl, rfl, ha, hb1, hb2, hA, k⟩ := h
  refine ⟨_, (gss_cons (gs_ps (ps_expr (pe_call G_check_tick.one (hr.mono (by decide)) (by rfl) T.g_check_tick G_check_tick.kp G_check_tick.two .nil passL (pa_cons (pv 1) pa_nil))))
    (gss_cons (gs_ps (ps_expr (pe_call G_check_tick.one (hr.mono (by decide)) (by rfl) T.g_check_tick G_check_tick.kp G_check_tick.two .nil passL (pa_cons (pv 2) pa_nil))))
    (gss_cons (gs_for owns_gcx rfl (pi_range2 (by rfl) T.g_range (pa_cons (pv 1) (pa_cons (pv 2) pa_nil))) (pg_name (i := 3) sc_events.nd rfl (Or.inl rfl))
      (gss_cons (gs_for owns_gcx rfl (pi_range2 (by rfl) T.g_range (pa_cons (pe_meth (pv 0) T.cl_Hall T.m_taken G_taken.one (hr.mono (by decide)) G_taken.two .nil passL (pa_cons (pv 3) pa_nil)) (pa_cons (pe_meth (pv 0) T.cl_Hall T.m_taken G_taken.one (hr.mono (by decide)) G_taken.two .nil passL (pa_cons (pe_op op_add (pv 3) pe_int) pa_nil)) pa_nil))) (pg_name (i := 4) sc_events.nd rfl (Or.inl rfl))
      (gss_cons (gs_yield (pe_tup (pa_cons pe_str (pa_cons (pv 3) (pa_cons (pv 4) pa_nil)))))
    gss_nil))
    (gss_cons (gs_for owns_gcx rfl (pi_range2 (by rfl) T.g_range (pa_cons (pe_meth (pv 0) T.cl_Hall T.m_called G_called.one (hr.mono (by decide)) G_called.two .nil passL (pa_cons (pv 3) pa_nil)) (pa_cons (pe_meth (pv 0) T.cl_Hall T.m_called G_called.one (hr.mono (by decide)) G_called.two .nil passL (pa_cons (pe_op op_add (pv 3) pe_int) pa_nil)) pa_nil))) (pg_name (i := 4) sc_events.nd rfl (Or.inl rfl))
      (gss_cons (gs_yield (pe_tup (pa_cons pe_str (pa_cons (pv 3) (pa_cons (pv 4) pa_nil)))))
    gss_nil))
    gss_nil)))
    gss_nil))), ?_⟩
  have T9 := hA.ok.tkP.nine
  have C9 := hA.ok.clP.nine
  refine ⟨_, rfl, (a : Int), rfl, by omega, by omega, ?_⟩
  refine ⟨_, rfl, (b : Int), rfl, by omega, by omega, ?_⟩
  -- for tick in range(start, end)
  refine ⟨_, rfl, _, rfl, a, b, rfl, ⟨by omega, by omega, by omega, by omega⟩, gfor_range (lo := (a : Int)) (n := ((b : Int) - (a : Int)).toNat) (fun i ys σ H2 => ∃ v3 v4, σ = [some (.ref h), some (vn a), some (vn b), v3, v4] ∧ Same H H2 ∧ Tell H2 ys (evs tk cl a i))
    ⟨_, _, rfl, Same.refl H, Tell.nil⟩ ?_ ?_⟩
  · rintro i ys σ H2 hi ⟨v3, v4, rfl, S2, hT⟩
    have hi2 : i < b - a := by omega
    have ev := evs_len T9 C9 a i
    obtain ⟨dx, tp, cp, hh, _, _⟩ := hA.ex
    have noT : (hfs m tp cp lt lp).lookup ("taken" : Str) = none := hfs_no (by decide +kernel) (by decide +kernel) (by decide +kernel) (by decide +kernel) (by decide +kernel)
    have noC : (hfs m tp cp lt lp).lookup ("called" : Str) = none := hfs_no (by decide +kernel) (by decide +kernel) (by decide +kernel) (by decide +kernel) (by decide +kernel)
    have t1 : ((a : Int) + (i : Int)).toNat = a + i := by omega
    have t2 : ((a : Int) + (i : Int) + 1).toNat = a + i + 1 := by omega
    have q1 := atp_le T9 (a + i)
    have q2 := call_le9 (tk := tk) C9 (a + i)
    have q3 : tak tk (a + i + 1) = tak tk (a + i) + atp tk (a + i) := rfl
    have q4 := tak_le T9 (a + i + 1)
    have q5 := cal_le (tk := tk) (cl := cl) (a + i + 1)
    have q6 : cal tk cl (a + i) ≤ cal tk cl (a + i + 1) := cal_mono (by omega)
    -- takes
    refine ⟨_, rfl, h, dx, _, rfl, S2 _ _ hh, noT, _, rfl, h, lp, (a : Int) + (i : Int), m, lt, tk, cl, rfl, hA.same S2, fun H3 S3 => ?_⟩
    have S23 := S2.trans S3
    refine ⟨_, rfl, h, dx, _, rfl, S23 _ _ hh, noT, _, rfl, _, _, rfl, rfl, h, lp, (a : Int) + (i : Int) + 1, m, lt, tk, cl, rfl, hA.same S23, fun H4 S4 => ?_⟩
    have S24 := S23.trans S4
    rw [t1, t2]
    refine ⟨_, _, rfl, ⟨by omega, by omega, by omega, by omega⟩, gfor_range (lo := (tak tk (a + i) : Int)) (n := ((tak tk (a + i + 1) : Int) - (tak tk (a + i) : Int)).toNat) (fun j ys σ H5 => ∃ v4, σ = [some (.ref h), some (vn a), some (vn b), some (.int ((a : Int) + (i : Int))), v4] ∧ Same H H5 ∧ Tell H5 ys (evs tk cl a i ++ evK "take" (a + i) (tak tk (a + i)) (tak tk (a + i) + j)))
      ⟨_, rfl, S24, ?_⟩ ?_ ?_⟩
    · have e : evK "take" (a + i) (tak tk (a + i)) (tak tk (a + i) + 0) = [] := by unfold evK; simp
      rw [e, List.append_nil]
      exact hT.same (S3.trans S4)
    · rintro j ys σ H5 hj ⟨v4, rfl, S5, hT5⟩
      refine ⟨Nat.lt_of_le_of_lt (m := 100000) (by rw [hT5.1, List.length_append, evK_len]; omega) (by decide), ?_⟩
      refine ⟨_, rfl, _, rfl, (by show 3 ≤ sizeLine; decide), fun p hp => ?_⟩
      refine ⟨_, rfl, S5.trans (Same.new hp), ?_⟩
      rw [← evK_snoc, ← List.append_assoc]
      refine (hT5.same (Same.new hp)).snoc ?_
      rw [upd_same]
      rfl
    · rintro ys σ H5 ⟨v4, rfl, S5, hT5⟩
      -- calls
      refine ⟨_, rfl, h, dx, _, rfl, S5 _ _ hh, noC, _, rfl, h, lp, (a : Int) + (i : Int), m, lt, tk, cl, rfl, hA.same S5, ?_⟩
      refine ⟨_, rfl, h, dx, _, rfl, S5 _ _ hh, noC, _, rfl, _, _, rfl, rfl, h, lp, (a : Int) + (i : Int) + 1, m, lt, tk, cl, rfl, hA.same S5, ?_⟩
      rw [t1, t2]
      have en : tak tk (a + i) + ((tak tk (a + i + 1) : Int) - (tak tk (a + i) : Int)).toNat = tak tk (a + i + 1) := by omega
      rw [en] at hT5
      refine ⟨_, _, rfl, ⟨by omega, by omega, by omega, by omega⟩, gfor_range (lo := (cal tk cl (a + i) : Int)) (n := ((cal tk cl (a + i + 1) : Int) - (cal tk cl (a + i) : Int)).toNat) (fun j ys σ H6 => ∃ v4, σ = [some (.ref h), some (vn a), some (vn b), some (.int ((a : Int) + (i : Int))), v4] ∧ Same H H6 ∧
          Tell H6 ys ((evs tk cl a i ++ evK "take" (a + i) (tak tk (a + i)) (tak tk (a + i + 1))) ++ evK "call" (a + i) (cal tk cl (a + i)) (cal tk cl (a + i) + j)))
        ⟨_, rfl, S5, ?_⟩ ?_ ?_⟩
      · have e : evK "call" (a + i) (cal tk cl (a + i)) (cal tk cl (a + i) + 0) = [] := by unfold evK; simp
        rw [e, List.append_nil]
        exact hT5
      · rintro j ys σ H6 hj ⟨v4, rfl, S6, hT6⟩
        refine ⟨Nat.lt_of_le_of_lt (m := 100000) (by rw [hT6.1, List.length_append, List.length_append, evK_len, evK_len]; omega) (by decide), ?_⟩
        refine ⟨_, rfl, _, rfl, (by show 3 ≤ sizeLine; decide), fun p hp => ?_⟩
        refine ⟨_, rfl, S6.trans (Same.new hp), ?_⟩
        rw [← evK_snoc, ← List.append_assoc]
        refine (hT6.same (Same.new hp)).snoc ?_
        rw [upd_same]
        rfl
      · rintro ys σ H6 ⟨v4, rfl, S6, hT6⟩
        refine ⟨_, _, rfl, S6, ?_⟩
        have en2 : cal tk cl (a + i) + ((cal tk cl (a + i + 1) : Int) - (cal tk cl (a + i) : Int)).toNat = cal tk cl (a + i + 1) := by omega
        rw [en2, List.append_assoc] at hT6
        exact hT6
  · rintro ys σ H2 ⟨v3, v4, rfl, S2, hT⟩
    have e : ((b : Int) - (a : Int)).toNat = b - a := by omega
    rw [e] at hT
    exact k ys H2 S2 hT
end
end Tk

namespace Tk
open PySem PySem.Spec PyProof.Rows L2 Mm
theorem Tell.append {H : Hp} {ys zs : List V} {es fs : List Ev3} (t : Tell H ys es) (u : Tell H zs fs) : Tell H (ys ++ zs) (es ++ fs) := by
  refine ⟨by rw [List.length_append, List.length_append, t.1, u.1], fun i y e h1 h2 => ?_⟩
  rcases Nat.lt_or_ge i ys.length with lt | ge
  · rw [List.getElem?_append_left lt] at h1
    rw [List.getElem?_append_left (by rw [← t.1]; exact lt)] at h2
    exact t.2 i y e h1 h2
  · rw [List.getElem?_append_right ge] at h1
    rw [List.getElem?_append_right (by rw [← t.1]; exact ge), ← t.1] at h2
    exact u.2 _ y e h1 h2
theorem Tell.sm {K : PySem.W.Frag} {n : Nat} {H : Hp} {a b : Addr} {ys zs : List V} {es : List Ev3} (t : Tell H ys es) (u : Tell H zs es) (ha : SqL K H a ys) (hb : SqL K H b zs) (hl : ys.length ≤ 100000) : Sm K (n + 3) H (.ref a) (.ref b) := by
  refine .inr (.inl ⟨a, b, ys, zs, rfl, rfl, ha, hb, by rw [t.1, u.1], hl, fun i x y hx hy => ?_⟩)
  have hi : i < es.length := by
    have := (List.getElem?_eq_some_iff.mp hx).1
    rw [← t.1]
    exact this
  obtain ⟨p, rfl, hp⟩ := t.2 i x _ hx (List.getElem?_eq_getElem hi)
  obtain ⟨q, rfl, hq⟩ := u.2 i y _ hy (List.getElem?_eq_getElem hi)
  exact Sm.flatsT (SqT.of hp) (SqT.of hq) (by show 3 ≤ 100000; decide) (by unfold evV; simp [flat])
section
variable {P : Program} {w : World} {K : PySem.W.Frag} {mg : Str → Option Value} {base : Heap}
theorem ok_law (T : Txt K mg) {fd : FuncData} (F : FnP K "law" "law" s_law (He.ga K "law") fd) : FnOk P w K mg base CX0 8 (He.ga K "law") fd ["_law_script"] (spLaw K) := by
  have G__law_random : OkF P w K mg base 1 (He.ga K "_law_random") ["_law_script", "_law_salt"] (spRandom K) := ok__law_random T
  have G__law_below : OkF P w K mg base 1 (He.ga K "_law_below") ["_law_d", "_law_limit"] spBelow := ok__law_below T
  have G__law_parts : OkF P w K mg base 3 (He.ga K "_law_parts") ["_law_d", "_law_most"] spParts := ok__law_parts T
  have G__law_hall : OkF P w K mg base 7 (He.ga K "_law_hall") ["_law_parts_here"] (spLHall (He.ga K "Hall")) := ok__law_hall T
  have G__law_length : OkF P w K mg base 1 (He.ga K "_law_length") ["_law_parts_here"] spLength := ok__law_length T
  have G__law_counts : OkF P w K mg base 1 (He.ga K "_law_counts") ["_law_parts_here", "_law_ticks"] spCounts := ok__law_counts T
  have G__law_equal : OkF P w K mg base 5 (He.ga K "_law_equal") ["_law_actual", "_law_expected"] (spEqOf (Sm K 4)) := ok__law_equal T 4
  have G_period : OkF P w K mg base 1 (getAt K (He.ga K "Hall") "period") ["self"] (spPeriod (He.ga K "Hall")) := ok_period T
  have G_taken : OkF P w K mg base 1 (He.ma K (He.ga K "Hall") "taken") ["self", "tick"] (spTaken (He.ga K "Hall")) := ok_taken T
  have G_called : OkF P w K mg base 3 (He.ma K (He.ga K "Hall") "called") ["self", "tick"] (spCalled (He.ga K "Hall")) := ok_called T
  have G_waiting : OkF P w K mg base 4 (He.ma K (He.ga K "Hall") "waiting") ["self", "tick"] (spWaiting (He.ga K "Hall")) := ok_waiting T
  have G_events : OkG P w K mg base 4 (He.ma K (He.ga K "Hall") "events") ["self", "start", "end"] (spEvents (He.ga K "Hall")) := ok_events T
  refine okLaw F sc_law (fun vs H Q E h => ?_) (fun cdv A outer s H vs Q E hr h => ?_)
  · obtain ⟨a, ns, rfl, _⟩ := h
    rfl
  obtain ⟨a, ns, rfl, hS, hlen, k⟩ := h
  refine ⟨_, (pss_cons (ps_set (i := 1) sc_law.nd rfl (Or.inl rfl) (pe_call G__law_random.one (hr.mono (by decide)) (by rfl) T.g__law_random G__law_random.kp G__law_random.two .nil passL (pa_cons (pv 0) (pa_cons pe_int pa_nil))))
    (pss_cons (ps_for PassesOwn.never rfl (pi_range1 (by rfl) T.g_range (pa_cons pe_int pa_nil)) (pg_name (i := 2) sc_law.nd rfl (Or.inl rfl))
      (pss_cons (ps_set (i := 3) sc_law.nd rfl (Or.inl rfl) (pe_call G__law_parts.one (hr.mono (by decide)) (by rfl) T.g__law_parts G__law_parts.kp G__law_parts.two .nil passL (pa_cons (pv 1) (pa_cons pe_int pa_nil))))
    (pss_cons (ps_par (i := 4) (j := 5) (by rfl) sc_law.nd rfl rfl (by decide) rfl rfl (pa_cons (pe_call G__law_hall.one (hr.mono (by decide)) (by rfl) T.g__law_hall G__law_hall.kp G__law_hall.two .nil passL (pa_cons (pv 3) pa_nil)) (pa_cons (pe_call G__law_length.one (hr.mono (by decide)) (by rfl) T.g__law_length G__law_length.kp G__law_length.two .nil passL (pa_cons (pv 3) pa_nil)) pa_nil)) (by rfl))
    (pss_cons (ps_asg (pe_call G__law_counts.one (hr.mono (by decide)) (by rfl) T.g__law_counts G__law_counts.kp G__law_counts.two .nil passL (pa_cons (pv 3) (pa_cons pe_int pa_nil))) (pg_tup rfl (pgs_cons (pg_name (i := 6) sc_law.nd rfl (Or.inl rfl)) (pgs_cons (pg_name (i := 7) sc_law.nd rfl (Or.inl rfl)) pgs_nil))))
    (pss_cons (ps_if (pt_not (pt_val (pe_call G__law_equal.one (hr.mono (by decide)) (by rfl) T.g__law_equal G__law_equal.kp G__law_equal.two .nil passL (pa_cons (pe_lst (pa_cons (pe_fld (pv 4) rfl) (pa_cons (pe_fld (pv 4) rfl) (pa_cons (pe_fld (pv 4) rfl) (pa_cons (pe_fld (pv 4) rfl) (pa_cons (pe_prop (pv 4) T.cl_Hall T.p_period G_period.one (hr.mono (by decide)) G_period.two .nil passL (by rfl)) pa_nil)))))) (pa_cons (pe_op op_cat (pe_callTy (lstK (K := K)) (by rfl) T.g_list (by decide +kernel) (pa_cons (pv 3) pa_nil)) (pe_lst (pa_cons (pv 5) pa_nil))) pa_nil))))) (pss_one (ps_ret pe_bl)) pss_nil)
    (pss_cons (ps_for PassesOwn.never rfl (pi_range1 (by rfl) T.g_range (pa_cons pe_int pa_nil)) (pg_name (i := 8) sc_law.nd rfl (Or.inr rfl))
      (pss_cons (ps_if (pt_not (pt_val (pe_call G__law_equal.one (hr.mono (by decide)) (by rfl) T.g__law_equal G__law_equal.kp G__law_equal.two .nil passL (pa_cons (pe_lst (pa_cons (pe_meth (pv 4) T.cl_Hall T.m_taken G_taken.one (hr.mono (by decide)) G_taken.two .nil passL (pa_cons (pv 8) pa_nil)) (pa_cons (pe_meth (pv 4) T.cl_Hall T.m_called G_called.one (hr.mono (by decide)) G_called.two .nil passL (pa_cons (pv 8) pa_nil)) pa_nil))) (pa_cons (pe_lst (pa_cons (pe_ix (ixLK (K := K)) (pv 6) (pv 8) (fun _ _ => rfl)) (pa_cons (pe_ix (ixLK (K := K)) (pv 7) (pv 8) (fun _ _ => rfl)) pa_nil))) pa_nil))))) (pss_one (ps_ret pe_bl)) pss_nil)
    (pss_one (ps_if (pt_not (pt_val (pe_call G__law_equal.one (hr.mono (by decide)) (by rfl) T.g__law_equal G__law_equal.kp G__law_equal.two .nil passL (pa_cons (pe_meth (pv 4) T.cl_Hall T.m_waiting G_waiting.one (hr.mono (by decide)) G_waiting.two .nil passL (pa_cons (pv 8) pa_nil)) (pa_cons (pe_op op_sub (pe_ix (ixLK (K := K)) (pv 6) (pe_op op_add (pv 8) pe_int) (fun _ _ => rfl)) (pe_ix (ixLK (K := K)) (pv 7) (pe_op op_add (pv 8) pe_int) (fun _ _ => rfl))) pa_nil))))) (pss_one (ps_ret pe_bl)) pss_nil))))
    (pss_cons (ps_set (i := 9) sc_law.nd rfl (Or.inl rfl) (pe_call G__law_below.one (hr.mono (by decide)) (by rfl) T.g__law_below G__law_below.kp G__law_below.two .nil passL (pa_cons (pv 1) (pa_cons pe_int pa_nil))))
    (pss_cons (ps_set (i := 10) sc_law.nd rfl (Or.inl rfl) (pe_op op_add (pv 9) (pe_call G__law_below.one (hr.mono (by decide)) (by rfl) T.g__law_below G__law_below.kp G__law_below.two .nil passL (pa_cons (pv 1) (pa_cons pe_int pa_nil)))))
    (pss_cons (ps_set (i := 11) sc_law.nd rfl (Or.inl rfl) (pe_lst pa_nil))
    (pss_cons (ps_for PassesOwn.never rfl (pi_range2 (by rfl) T.g_range (pa_cons (pv 9) (pa_cons (pv 10) pa_nil))) (pg_name (i := 8) sc_law.nd rfl (Or.inr rfl))
      (pss_cons (ps_set (i := 11) sc_law.nd rfl (Or.inl rfl) (pe_op op_cat (pv 11) (pe_lc (own := [("_law_number", 12)]) (g := gName 12) (tt := tYes) (by rfl) sc_law.nd (pi_range2 (by rfl) T.g_range (pa_cons (pe_ix (ixLK (K := K)) (pv 6) (pv 8) (fun _ _ => rfl)) (pa_cons (pe_ix (ixLK (K := K)) (pv 6) (pe_op op_add (pv 8) pe_int) (fun _ _ => rfl)) pa_nil))) (blkOk_by (own := [("_law_number", 12)]) (N := N_law) (sc := (defScope s_law)) (by decide +kernel)) (fun _ _ _ _ _ => pg_name (i := 12) sc_law.nd rfl (Or.inl rfl)) (fun _ _ _ _ _ => pts_nil) (fun _ _ _ _ _ => (pe_tup (pa_cons pe_str (pa_cons (pv 8) (pa_cons (pv 12) pa_nil))))))))
    (pss_one (ps_set (i := 11) sc_law.nd rfl (Or.inl rfl) (pe_op op_cat (pv 11) (pe_lc (own := [("_law_number", 12)]) (g := gName 12) (tt := tYes) (by rfl) sc_law.nd (pi_range2 (by rfl) T.g_range (pa_cons (pe_ix (ixLK (K := K)) (pv 7) (pv 8) (fun _ _ => rfl)) (pa_cons (pe_ix (ixLK (K := K)) (pv 7) (pe_op op_add (pv 8) pe_int) (fun _ _ => rfl)) pa_nil))) (blkOk_by (own := [("_law_number", 12)]) (N := N_law) (sc := (defScope s_law)) (by decide +kernel)) (fun _ _ _ _ _ => pg_name (i := 12) sc_law.nd rfl (Or.inl rfl)) (fun _ _ _ _ _ => pts_nil) (fun _ _ _ _ _ => (pe_tup (pa_cons pe_str (pa_cons (pv 8) (pa_cons (pv 12) pa_nil)))))))))))
    (pss_cons (ps_if (pt_not (pt_val (pe_call G__law_equal.one (hr.mono (by decide)) (by rfl) T.g__law_equal G__law_equal.kp G__law_equal.two .nil passL (pa_cons (pe_listG (pgen_meth (pv 4) T.cl_Hall T.m_events G_events.one (hr.mono (by decide)) G_events.two .nil (pa_cons (pv 9) (pa_cons (pv 10) pa_nil))) passL noStop0 (hr.mono (by decide)) (by rfl) T.g_list boot_ty_list) (pa_cons (pv 11) pa_nil))))) (pss_one (ps_ret pe_bl)) pss_nil)
    (pss_cons (ps_if (PW.pt (pw_and (pt_cmpR (neDK (K := K) hr.units) (pe_listG (pgen_meth (pv 4) T.cl_Hall T.m_events G_events.one (hr.mono (by decide)) G_events.two .nil (pa_cons (pv 10) (pa_cons (pv 9) pa_nil))) passL noStop0 (hr.mono (by decide)) (by rfl) T.g_list boot_ty_list) (pe_lst pa_nil) (nomark _)) (pw_and1 (pt_cmpR op_ne (pv 9) (pv 10) (nomark _))))) (pss_one (ps_ret pe_bl)) pss_nil)
    (pss_one (ps_if (pt_cmpR op_ne (pe_meth (pv 4) T.cl_Hall T.m_called G_called.one (hr.mono (by decide)) G_called.two .nil passL (pa_cons (pe_op op_sub (pe_op op_sub pe_int pe_int) (pe_call G__law_below.one (hr.mono (by decide)) (by rfl) T.g__law_below G__law_below.kp G__law_below.two .nil passL (pa_cons (pv 1) (pa_cons pe_int pa_nil)))) pa_nil)) pe_int (nomark _)) (pss_one (ps_ret pe_bl)) pss_nil))))))))))))))
    (pss_one (ps_ret pe_bl)))), ?_⟩
  refine ⟨_, rfl, a, ns, 1, rfl, hS, hlen, by decide, by decide, fun d cs H1 hd0 S1 hd hcs => ?_⟩
  refine ⟨3, rfl, by decide, by decide, for_range (lo := 0) (n := 3) (fun i σ H2 => ∃ v2 v3 v4 v5 v6 v7 v8 v9 v10 v11 v12, σ = [some (.ref a), some (.ref d), v2, v3, v4, v5, v6, v7, v8, v9, v10, v11, v12] ∧ ∃ cs, H2 d = some (.lst cs) ∧ DSt cs)
    ⟨_, _, _, _, _, _, _, _, _, _, _, rfl, cs, hd, hcs⟩ ?_ (fun σ H2 _ => k H2)⟩
  clear hd hcs hd0 S1
  rintro i σ H2 hi ⟨v2, v3, v4, v5, v6, v7, v8, v9, v10, v11, v12, rfl, cs, hd, hcs⟩
  -- the parts, the hall, its length, the counts
  refine ⟨_, rfl, d, 12, cs, rfl, by omega, by omega, hd, hcs, fun t tp cp m lt tk cl H3 _ S3 hP _ _ => ?_⟩
  obtain ⟨c3, hd3, hc3⟩ := S3.at_
  clear hcs hd S3
  refine ⟨_, rfl, t, tp, cp, m, lt, tk, cl, rfl, hP, fun hh lp H4 _ nlp S4 hA => ?_⟩
  have nld : lp ≠ d := fun e => by rw [e, hd3] at nlp; cases nlp
  have hP4 := hP.same S4
  have hd4 := S4 _ _ hd3
  refine ⟨_, rfl, t, tp, cp, m, lt, tk, cl, rfl, hP4, _, _, rfl, ?_⟩
  refine ⟨_, rfl, t, tp, cp, m, lt, tk, cl, 60, rfl, hP4, by omega, fun rr a1 b1 H5 _ na nb nab S5 h5 h5a h5b => ?_⟩
  have n1 : a1 ≠ d := fun e => by rw [e, hd4] at na; cases na
  have n2 : b1 ≠ d := fun e => by rw [e, hd4] at nb; cases nb
  have E5 : EnvN (He.ga K "Hall") H5 d hh a1 b1 m tk cl lt lp 60 := ⟨hA.same S5, h5a, h5b, nld, n1, n2⟩
  have hd5 := S5 _ _ hd4
  have hP5 := hP4.same S5
  refine ⟨rr, _, rfl, SqT.of h5, rfl, _, _, rfl, _, _, rfl, rfl, ?_⟩
  have T9 := hA.ok.tkP.nine
  have C9 := hA.ok.clP.nine
  -- the attributes
  obtain ⟨dx, tp5, cp5, hh5, htp5, hcp5⟩ := E5.hall.ex
  refine ⟨_, rfl, hh, _, dx, _, _, rfl, hh5, T.cl_Hall, T.n_modulus, hfs_modulus, ?_⟩
  refine ⟨_, rfl, hh, _, dx, _, _, rfl, hh5, T.cl_Hall, T.n_takes, hfs_takes, ?_⟩
  refine ⟨_, rfl, hh, _, dx, _, _, rfl, hh5, T.cl_Hall, T.n_calls, hfs_calls, ?_⟩
  refine ⟨_, rfl, hh, _, dx, _, _, rfl, hh5, T.cl_Hall, T.n_lateness, hfs_lateness, ?_⟩
  refine ⟨_, rfl, hh, dx, _, rfl, hh5, hh, dx, tp5, cp5, _, tk, cl, rfl, hh5, hfs_takes, hfs_calls, htp5, hcp5, hA.ok.tkP, hA.ok.clP, ?_⟩
  refine ⟨(by show 5 ≤ sizeLine; decide), fun AL hAL => ?_⟩
  generalize hXA : ([vn m, .ref tp5, .ref cp5, vn lt, vn (per tk cl)] : List V) = XA
  have sA : Same H5 (upd H5 AL (.lst XA)) := Same.new hAL
  refine ⟨_, rfl, t, _, rfl, .inr (SqT.of (sA _ _ hP5.at_)), fun BL hBL => ?_⟩
  have sB := sA.trans (Same.new hBL (o := .lst [vn m, .ref tp, .ref cp, vn lt]))
  refine ⟨_, rfl, (by show 1 ≤ sizeLine; decide), fun CL hCL => ?_⟩
  have sC := sB.trans (Same.new hCL (o := .lst [vn (per tk cl)]))
  have nBC : BL ≠ CL := fun e => by rw [← e, upd_same] at hCL; cases hCL
  have nAB : AL ≠ BL := fun e => by rw [← e, upd_same] at hBL; cases hBL
  refine ⟨BL, CL, _, _, rfl, rfl, by rw [upd_ne nBC]; exact upd_same, upd_same, (by show 5 ≤ sizeLine; decide), fun DL hDL => ?_⟩
  have sD := sC.trans (Same.new hDL (o := .lst ([vn m, .ref tp, .ref cp, vn lt] ++ [vn (per tk cl)])))
  have nAC : AL ≠ CL := fun e => by rw [← e, upd_ne nAB, upd_same] at hCL; cases hCL
  have nAD : AL ≠ DL := fun e => by rw [← e, upd_ne nAC, upd_ne nAB, upd_same] at hDL; cases hDL
  refine ⟨_, _, rfl, .inr (.inl ⟨AL, DL, XA, _, rfl, rfl, SqL.of (by rw [upd_ne nAD, upd_ne nAC, upd_ne nAB]; exact upd_same), SqL.of upd_same, by rw [← hXA]; rfl, by rw [← hXA]; show 5 ≤ 100000; decide, fun j x y hx hy => ?_⟩), fun H6 S6 => ⟨_, rfl, ?_⟩⟩
  · rw [← hXA] at hx
    have two : ∀ (q q' : Addr) (ps : List Nat), H5 q = some (.tup (ps.map vn)) → H5 q' = some (.tup (ps.map vn)) → ps.length ≤ 12 → Sm K 3 (upd (upd (upd (upd H5 AL (.lst XA)) BL (.lst [vn m, .ref tp, .ref cp, vn lt])) CL (.lst [vn (per tk cl)])) DL (.lst ([vn m, .ref tp, .ref cp, vn lt] ++ [vn (per tk cl)]))) (.ref q) (.ref q') :=
      fun q q' ps z1 z2 z3 => Sm.flatsT (SqT.of (sD _ _ z1)) (SqT.of (sD _ _ z2)) (by rw [List.length_map]; omega) flat_vn
    match j, hx, hy with
    | 0, hx, hy => cases hx; cases hy; exact Sm.flat1 rfl
    | 1, hx, hy => cases hx; cases hy; exact two _ _ _ htp5 hP5.tkA hA.ok.tkP.len
    | 2, hx, hy => cases hx; cases hy; exact two _ _ _ hcp5 hP5.clA hA.ok.clP.len
    | 3, hx, hy => cases hx; cases hy; exact Sm.flat1 rfl
    | 4, hx, hy => cases hx; cases hy; exact Sm.flat1 rfl
    | j + 5, hx, hy => cases hx
  have E6 := E5.same (sD.trans S6)
  have hd6 := S6 _ _ (sD _ _ hd5)
  clear hP hP4 hP5 S4 S5 sA sB sC sD S6 hAL hBL hCL hDL nBC nAB nAC nAD hh5 htp5 hcp5 hd3 hd4 hd5 E5 h5 h5a h5b na nb nab nlp hXA
  -- sixty ticks
  refine ⟨60, rfl, by decide, by decide, for_range (lo := 0) (n := 60) (fun _ σ H9 => ∃ v8, σ = [some (.ref a), some (.ref d), some (.int (0 + (i : Int))), some (.ref t), some (.ref hh), some (vn (per tk cl)), some (.ref a1), some (.ref b1), v8, v9, v10, v11, v12] ∧ EnvN (He.ga K "Hall") H9 d hh a1 b1 m tk cl lt lp 60 ∧ H9 d = some (.lst c3))
    ⟨_, rfl, E6, hd6⟩ ?_ ?_⟩
  · clear hd6 E6
    rintro j σ H9 hj ⟨v8, rfl, E9, hd9⟩
    obtain ⟨dx, tp', cp', hh9, _, _⟩ := E9.hall.ex
    have noT : (hfs m tp' cp' lt lp).lookup ("taken" : Str) = none := hfs_meth (by decide +kernel)
    have noC : (hfs m tp' cp' lt lp).lookup ("called" : Str) = none := hfs_meth (by decide +kernel)
    have noW : (hfs m tp' cp' lt lp).lookup ("waiting" : Str) = none := hfs_meth (by decide +kernel)
    have ej : ((0 : Int) + (j : Int)) = (j : Int) := Int.zero_add _
    rw [ej]
    refine ⟨_, rfl, hh, dx, _, rfl, hh9, noT, _, rfl, hh, lp, (j : Int), m, lt, tk, cl, rfl, E9.hall, fun H10 S10 => ?_⟩
    refine ⟨_, rfl, hh, dx, _, rfl, S10 _ _ hh9, noC, _, rfl, hh, lp, (j : Int), m, lt, tk, cl, rfl, E9.hall.same S10, ?_⟩
    rw [Int.toNat_natCast]
    refine ⟨(by show 2 ≤ sizeLine; decide), fun AL hAL => ?_⟩
    have S11 := S10.trans (Same.new hAL (o := .lst [vn (tak tk j), vn (cal tk cl j)]))
    have E11 := E9.same S11
    refine ⟨_, rfl, _, rfl, a1, _, _, _, rfl, rfl, SqL.of E11.one, atn (fV_at (by omega)), ?_⟩
    refine ⟨_, rfl, _, rfl, b1, _, _, _, rfl, rfl, SqL.of E11.two, atn (fV_at (by omega)), ?_⟩
    refine ⟨(by show 2 ≤ sizeLine; decide), fun BL hBL => ?_⟩
    have nAB : AL ≠ BL := fun e => by rw [← e, upd_same] at hBL; cases hBL
    have S12 := S11.trans (Same.new hBL (o := .lst [vn (tak tk j), vn (cal tk cl j)]))
    refine ⟨_, _, rfl, Sm.flats (SqL.of (by rw [upd_ne nAB]; exact upd_same)) (SqL.of upd_same) (by show 2 ≤ 100000; decide) (by simp [flat]), fun H14 S14 => ⟨_, rfl, ?_⟩⟩
    have S15 := S12.trans S14
    refine ⟨_, rfl, hh, dx, _, rfl, S15 _ _ hh9, noW, _, rfl, hh, lp, j, m, lt, tk, cl, rfl, by omega, E9.hall.same S15, fun H16 S16 => ?_⟩
    have S17 := S15.trans S16
    have E17 := E9.same S17
    have ej1 : (j : Int) + 1 = ((j + 1 : Nat) : Int) := by omega
    refine ⟨_, rfl, _, rfl, _, _, rfl, rfl, a1, _, _, _, rfl, rfl, SqL.of E17.one, (by rw [ej1]; exact atn (fV_at (by omega))), ?_⟩
    refine ⟨_, rfl, _, rfl, _, _, rfl, rfl, b1, _, _, _, rfl, rfl, SqL.of E17.two, (by rw [ej1]; exact atn (fV_at (by omega))), _, _, rfl, rfl, ?_⟩
    have c := cal_le (tk := tk) (cl := cl) (j + 1)
    refine ⟨_, _, rfl, Sm.int (by unfold wt; omega), fun H20 S20 => ⟨_, rfl, ?_⟩⟩
    have S21 := S17.trans S20
    exact ⟨_, rfl, E9.same S21, S21 _ _ hd9⟩
  · clear hd6 E6
    rintro σ H9 ⟨v8, rfl, E9, hd9⟩
    -- start, end
    refine ⟨_, rfl, d, 50, c3, rfl, by decide, by decide, hd9, hc3, fun r1 c10 r10 r11 hc10 => ?_⟩
    refine ⟨_, rfl, _, rfl, d, 10, c10, rfl, by decide, by decide, upd_same, hc10, fun r2 c11 r20 r21 hc11 => ?_⟩
    refine ⟨_, _, rfl, rfl, ?_⟩
    rw [upd_upd]
    obtain ⟨s0, rfl⟩ : ∃ n : Nat, r1 = (n : Int) := ⟨r1.toNat, by omega⟩
    obtain ⟨e0, rfl⟩ : ∃ n : Nat, r2 = (n : Int) := ⟨r2.toNat, by omega⟩
    have E11 := E9.but (But.at_d (o := .lst c11)) hd9
    have hd11 : upd H9 d (.lst c11) d = some (.lst c11) := upd_same
    generalize upd H9 d (.lst c11) = H11 at *
    refine ⟨(by show 0 ≤ sizeLine; exact Nat.zero_le _), fun X0 hX0 => ?_⟩
    have S12 : Same H11 (upd H11 X0 (.lst [])) := Same.new hX0
    have e1 : (((s0 : Int) + (e0 : Int)) - (s0 : Int)).toNat = e0 := by omega
    refine ⟨_, rfl, _, rfl, _, _, rfl, ⟨by omega, by omega, by omega, by omega⟩, for_range (lo := (s0 : Int)) (n := (((s0 : Int) + (e0 : Int)) - (s0 : Int)).toNat) (fun j σ H13 => ∃ v8 xl ys, σ = [some (.ref a), some (.ref d), some (.int (0 + (i : Int))), some (.ref t), some (.ref hh), some (vn (per tk cl)), some (.ref a1), some (.ref b1), v8, some (vn s0), some (.int ((s0 : Int) + (e0 : Int))), some (.ref xl), v12] ∧
        Same H11 H13 ∧ H13 xl = some (.lst ys) ∧ Tell H13 ys (evs tk cl s0 j)) ⟨_, X0, [], rfl, S12, upd_same, Tell.nil⟩ ?_ ?_⟩
    · rintro j σ H13 hj ⟨v8, xl, ys, rfl, S13, hxl, hT⟩
      have hj2 : j < e0 := by omega
      have ev := evs_len T9 C9 s0 j
      have q1 := atp_le T9 (s0 + j)
      have q2 := call_le9 (tk := tk) C9 (s0 + j)
      have q3 : tak tk (s0 + j + 1) = tak tk (s0 + j) + atp tk (s0 + j) := rfl
      have q4 := tak_le T9 (s0 + j + 1)
      have q5 := cal_le (tk := tk) (cl := cl) (s0 + j + 1)
      have q6 : cal tk cl (s0 + j) ≤ cal tk cl (s0 + j + 1) := cal_mono (by omega)
      have ej : (s0 : Int) + (j : Int) = ((s0 + j : Nat) : Int) := by omega
      have ej1 : (s0 : Int) + (j : Int) + 1 = ((s0 + j + 1 : Nat) : Int) := by omega
      have E13 := E11.same S13
      -- takes
      refine ⟨_, rfl, _, rfl, _, rfl, a1, _, _, _, rfl, rfl, SqL.of E13.one, (by rw [ej]; exact atn (fV_at (by omega))), _, rfl, _, rfl, _, _, rfl, rfl, a1, _, _, _, rfl, rfl, SqL.of E13.one, (by rw [ej1]; exact atn (fV_at (by omega))), _, _, rfl, ⟨by omega, by omega, by omega, by omega⟩, fun D hD => ?_⟩
      have nxD : xl ≠ D := ne_of_none hxl hD
      refine lc_range (lo := (tak tk (s0 + j) : Int)) (n := ((tak tk (s0 + j + 1) : Int) - (tak tk (s0 + j) : Int)).toNat) (fun u H14 => ∃ zs, Same H13 H14 ∧ H14 D = some (.lst zs) ∧ Tell H14 zs (evK "take" (s0 + j) (tak tk (s0 + j)) (tak tk (s0 + j) + u))) ⟨[], Same.new hD, upd_same, ?_⟩ ?_ ?_
      · have e : evK "take" (s0 + j) (tak tk (s0 + j)) (tak tk (s0 + j) + 0) = [] := by unfold evK; simp
        rw [e]
        exact Tell.nil
      · rintro u H14 hu ⟨zs, S14, hD14, hT14⟩
        refine ⟨rfl, _, rfl, _, rfl, (by show 3 ≤ sizeLine; decide), fun p hp => ?_⟩
        have nDp : D ≠ p := ne_of_none hD14 hp
        refine ⟨zs, by rw [upd_ne nDp]; exact hD14, Nat.lt_of_le_of_lt (m := 1000) (by rw [hT14.1, evK_len]; omega) (by decide), zs ++ [.ref p], ?_, upd_same, ?_⟩
        · intro b o e
          rw [upd_ne (ne_of_none e hD), upd_ne (ne_of_none (S14 _ _ e) hp)]
          exact S14 _ _ e
        · have hq : Tell (upd (upd H14 p (.tup [.str "take", .int ((s0 : Int) + (j : Int)), .int ((tak tk (s0 + j) : Int) + (u : Int))])) D (.lst (zs ++ [.ref p]))) zs (evK "take" (s0 + j) (tak tk (s0 + j)) (tak tk (s0 + j) + u)) := by
            refine ⟨hT14.1, fun v y e h1 h2 => ?_⟩
            obtain ⟨q, h3, h4⟩ := hT14.2 v y e h1 h2
            refine ⟨q, h3, ?_⟩
            rw [upd_ne (ne_of h4 hD14 (fun z => by cases z)), upd_ne (ne_of_none h4 hp)]
            exact h4
          rw [← evK_snoc]
          refine hq.snoc ?_
          rw [upd_ne nDp.symm, upd_same]
          rfl
      · rintro H14 ⟨zs, S14, hD14, hT14⟩
        have en : tak tk (s0 + j) + ((tak tk (s0 + j + 1) : Int) - (tak tk (s0 + j) : Int)).toNat = tak tk (s0 + j + 1) := by omega
        rw [en] at hT14
        refine ⟨xl, D, ys, zs, rfl, rfl, S14 _ _ hxl, hD14, Nat.le_trans (m := 10000) (by rw [hT.1, hT14.1, evK_len]; omega) (by decide), fun x2 hx2 => ?_⟩
        have S15 : Same H14 (upd H14 x2 (.lst (ys ++ zs))) := Same.new hx2
        have hT15 := ((hT.same S14).append hT14).same S15
        have E15 := E13.same (S14.trans S15)
        have hxl15 : upd H14 x2 (.lst (ys ++ zs)) x2 = some (.lst (ys ++ zs)) := upd_same
        have S16 := S13.trans (S14.trans S15)
        generalize hYZ : ys ++ zs = ys2 at *
        generalize upd H14 x2 (.lst ys2) = H15 at *
        -- calls
        refine ⟨_, rfl, _, rfl, _, rfl, b1, _, _, _, rfl, rfl, SqL.of E15.two, (by rw [ej]; exact atn (fV_at (by omega))), _, rfl, _, rfl, _, _, rfl, rfl, b1, _, _, _, rfl, rfl, SqL.of E15.two, (by rw [ej1]; exact atn (fV_at (by omega))), _, _, rfl, ⟨by omega, by omega, by omega, by omega⟩, fun D2 hD2 => ?_⟩
        refine lc_range (lo := (cal tk cl (s0 + j) : Int)) (n := ((cal tk cl (s0 + j + 1) : Int) - (cal tk cl (s0 + j) : Int)).toNat) (fun u H17 => ∃ zs, Same H15 H17 ∧ H17 D2 = some (.lst zs) ∧ Tell H17 zs (evK "call" (s0 + j) (cal tk cl (s0 + j)) (cal tk cl (s0 + j) + u))) ⟨[], Same.new hD2, upd_same, ?_⟩ ?_ ?_
        · have e : evK "call" (s0 + j) (cal tk cl (s0 + j)) (cal tk cl (s0 + j) + 0) = [] := by unfold evK; simp
          rw [e]
          exact Tell.nil
        · rintro u H17 hu ⟨zs, S17, hD17, hT17⟩
          refine ⟨rfl, _, rfl, _, rfl, (by show 3 ≤ sizeLine; decide), fun p hp => ?_⟩
          have nDp : D2 ≠ p := ne_of_none hD17 hp
          refine ⟨zs, by rw [upd_ne nDp]; exact hD17, Nat.lt_of_le_of_lt (m := 1000) (by rw [hT17.1, evK_len]; omega) (by decide), zs ++ [.ref p], ?_, upd_same, ?_⟩
          · intro b o e
            rw [upd_ne (ne_of_none e hD2), upd_ne (ne_of_none (S17 _ _ e) hp)]
            exact S17 _ _ e
          · have hq : Tell (upd (upd H17 p (.tup [.str "call", .int ((s0 : Int) + (j : Int)), .int ((cal tk cl (s0 + j) : Int) + (u : Int))])) D2 (.lst (zs ++ [.ref p]))) zs (evK "call" (s0 + j) (cal tk cl (s0 + j)) (cal tk cl (s0 + j) + u)) := by
              refine ⟨hT17.1, fun v y e h1 h2 => ?_⟩
              obtain ⟨q, h3, h4⟩ := hT17.2 v y e h1 h2
              refine ⟨q, h3, ?_⟩
              rw [upd_ne (ne_of h4 hD17 (fun z => by cases z)), upd_ne (ne_of_none h4 hp)]
              exact h4
            rw [← evK_snoc]
            refine hq.snoc ?_
            rw [upd_ne nDp.symm, upd_same]
            rfl
        · rintro H17 ⟨zs2, S17, hD17, hT17⟩
          have en2 : cal tk cl (s0 + j) + ((cal tk cl (s0 + j + 1) : Int) - (cal tk cl (s0 + j) : Int)).toNat = cal tk cl (s0 + j + 1) := by omega
          rw [en2] at hT17
          have ly : ys2.length ≤ 5000 := by
            rw [hT15.1, List.length_append, evK_len]
            omega
          refine ⟨x2, D2, ys2, zs2, rfl, rfl, S17 _ _ hxl15, hD17, Nat.le_trans (m := 10000) (by rw [hT17.1, evK_len]; omega) (by decide), fun x3 hx3 => ?_⟩
          refine ⟨_, x3, ys2 ++ zs2, rfl, S16.trans (S17.trans (Same.new hx3)), upd_same, ?_⟩
          have z := ((hT15.same S17).append hT17).same (Same.new hx3 (o := .lst (ys2 ++ zs2)))
          rw [List.append_assoc] at z
          exact z
    · rintro σ H13 ⟨v8, xl, ys, rfl, S13, hxl, hT⟩
      rw [e1] at hT
      have E13 := E11.same S13
      obtain ⟨dx, tp', cp', hh13, _, _⟩ := E13.hall.ex
      have noE : (hfs m tp' cp' lt lp).lookup ("events" : Str) = none := hfs_meth (by decide +kernel)
      have noC : (hfs m tp' cp' lt lp).lookup ("called" : Str) = none := hfs_meth (by decide +kernel)
      have ev := evs_len T9 C9 s0 e0
      -- list(hall.events(start, end))
      refine ⟨_, rfl, hh, dx, _, rfl, hh13, noE, _, rfl, _, rfl, hh, lp, s0, s0 + e0, m, lt, tk, cl, rfl, by omega, by omega, by omega, E13.hall, fun zs H14 S14 hZ p hp => ?_⟩
      rw [show s0 + e0 - s0 = e0 by omega] at hZ
      have S15 := S14.trans (Same.new hp (o := .lst zs))
      refine ⟨_, rfl, _, _, rfl, Tell.sm (hZ.same (Same.new hp)) (hT.same S15) (SqL.of upd_same) (SqL.of (S15 _ _ hxl)) (by rw [hZ.1]; omega), fun H16 S16 => ⟨_, rfl, ?_⟩⟩
      have S17 := S15.trans S16
      -- list(hall.events(end, start))
      refine ⟨_, rfl, hh, dx, _, rfl, S17 _ _ hh13, noE, _, rfl, _, rfl, hh, lp, s0 + e0, s0, m, lt, tk, cl, rfl, by omega, by omega, by omega, E13.hall.same S17, fun zs2 H18 S18 hZ2 p2 hp2 => ?_⟩
      have z0 : zs2 = [] := by
        have h0 := hZ2.1
        rw [show s0 - (s0 + e0) = 0 by omega] at h0
        exact List.length_eq_zero_iff.mp h0
      subst z0
      refine ⟨(by show 0 ≤ sizeLine; exact Nat.zero_le _), fun p3 hp3 => ?_⟩
      have n23 : p2 ≠ p3 := fun e => by rw [← e, upd_same] at hp3; cases hp3
      refine ⟨.list [], .list [], .lst (SqL.of (by rw [upd_ne n23]; exact upd_same)) .nil, .lst (SqL.of upd_same) .nil, rfl, rfl, _, rfl, ?_⟩
      have S19 := ((S17.trans S18).trans (Same.new hp2)).trans (Same.new hp3 (o := .lst []))
      refine ite2 (fun c => ?_) (fun _ => ?_)
      · exfalso
        have e : PyData.eqv (.list []) (.list []) = true := SeqAt.eqv_refl _ rfl
        rw [e] at c
        cases c
      · have hd19 := S19 _ _ (S13 _ _ hd11)
        refine ⟨_, rfl, hh, dx, _, rfl, S19 _ _ hh13, noC, _, _, rfl, rfl, _, rfl, d, 99, c11, rfl, by decide, by decide, hd19, hc11, fun r4 c20 r40 r41 hc20 => ?_⟩
        refine ⟨_, _, rfl, rfl, hh, lp, (0 : Int) - 1 - r4, m, lt, tk, cl, rfl, (E13.same S19).hall.but But.at_d hd19 E13.nl, ?_⟩
        rw [show ((0 : Int) - 1 - r4).toNat = 0 by omega]
        refine ⟨rfl, _, rfl, ?_⟩
        refine iteNS rfl ?_
        exact ⟨_, _, _, _, _, _, _, _, _, _, _, rfl, c20, upd_same, hc20⟩
end
end Tk

/-! ### The end -/
namespace Tk
open PySem PySem.Spec PyProof.Rows L2
theorem facts {P : Program} {w : World} {K : PySem.W.Frag} {h : Heap} {mg : Str → Option Value} {f : Addr} (X : K.In h) (G : h.Ns mainGlobals mg) (hfa : mg ("law" : Str) = some (.ref f)) (c : Says fcts dps K) :
    ∃ fd : FuncData, (∀ (s : Shared) (v : Value), BindsTo s fd ⟨[v], []⟩ [("_law_script", v)]) ∧ ∀ base : Heap, K.In base → base.Ns mainGlobals mg → FnOk P w K mg base CX0 8 f fd ["_law_script"] (spLaw K) := by
  obtain ⟨fd, F⟩ := law_fn c
  have T := txt X G c
  have e := hfa.symm.trans (He.glo_ok X G (c.fact lawF rfl))
  cases e
  have b := FunD.bindsA (ps := ["_law_script"]) F fun _ _ _ _ _ _ us hl => match us, hl with | [_], _ => rfl
  exact ⟨fd, fun s v => b s [v] rfl, fun base _ _ => ok_law T F⟩
end Tk
open PySem PySem.W PySem.Calls PyProof.Rows
set_option maxRecDepth 100000 in
set_option maxHeartbeats 0 in
theorem PySem.Challenge.cw_ticketwrap_k01_takes_and_calls_holds : PySem.Challenge.rw_ticketwrap_k01_takes_and_calls.Holds := by
  w_on; o_law
  refine HeadRun.head_imp (r := OpenLaw.row PySem.Challenge.rw_ticketwrap_k01_takes_and_calls) (q := view (OpenLaw.row PySem.Challenge.rw_ticketwrap_k01_takes_and_calls).prog [0, 30]) (H := Tk.hk) (ob := Tk.ob) (M := 20000) (loose := Tk.names) (d := HeadRun.topDef (OpenLaw.row PySem.Challenge.rw_ticketwrap_k01_takes_and_calls).prog 30) (kwd := []) Tk.ob_eq Tk.run
    (by kernel_rfl) (by kernel_rfl) (by kernel_rfl) (by rfl) (by first | assumption | decide +kernel) (by decide +kernel) ⟨rfl, rfl, rfl, rfl, rfl, by decide +kernel⟩ ?hw ?hc
  case hw => w_witness2
  case hc =>
    refine L2.walk_ofE (l := PySem.Challenge.rw_ticketwrap_k01_takes_and_calls) (n := 63) (k := 8) (x := "_law_script") (CX := L2.CX0) rfl (by decide) (by kernel_rfl) ⟨rfl, by decide, by decide⟩ ?F (fun _ _ _ _ z => z)
    intro w mg fa h Y G hmg0
    obtain ⟨K, KX, c, _⟩ := Y
    have hmg : mg ("law" : PySem.Str) = some (.ref fa) := by
      have e : (HeadRun.topDef (OpenLaw.row PySem.Challenge.rw_ticketwrap_k01_takes_and_calls).prog 30).name = ("law" : PySem.Str) := by kernel_rfl
      rw [← e]
      exact hmg0
    obtain ⟨fd, hb, hF⟩ := Tk.facts (P := (PySem.Challenge.rw_ticketwrap_k01_takes_and_calls).prog) (w := w) KX G hmg c
    exact ⟨K, fd, Tk.spLaw K, KX, hb, fun H a ns hl _ hS => ⟨a, ns, rfl, hS, hl, fun _ => rfl⟩, hF⟩
