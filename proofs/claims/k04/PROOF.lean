import PyProof.Rows.All
import Wide.All
import OpenK.AllK
import Wide.FinOn
import KE.KStateDown
import KE.KMathGC
import KE.KTupSum
import KE.GoesEnum
import KE.KUnpackStar
import HandS.StrMore
import HandS.Zip
import HandS.ClsMeth
import HandS.Codes
import HandS.ForMost
import HandS.Exc
import HandS.TryOnly
import HandS.ExcOwn
import HandS.ExcValue
import HandS.WordsExc
import HandS.Defaults
import HandS.Property
import HandS.Conv
import HandS.Flow
import HandS.Wide
import HandS.IsInst
import HandS.TupAny
import HandS.Deep
import HandS.Evl
import HandS.Lambda
import HandS.EndTab
import HandS.HeadWalk
import HandS.GenList
import HandS.RevRange
import HandS.Gcd
import HandS.CallLocal
import HandS.TryMany
import HandS.SetKeys
import HandS.Star
import HandS.SortKw
import KE.DatumOrd
import PyProof.GenComp
import KE.HD3
import HandS.HeadEnd
import HandS.HeadHook1
import HandS.HeadHook2
import HandS.HeadHook4
import HandS.NestedK
import PySem.Challenge.RW_ticketwrap_k04_times_of_tickets
set_option Elab.async false
set_option linter.all false
set_option maxRecDepth 100000
set_option maxHeartbeats 4000000
/-! ### A. Rules and facts of our own -/
namespace Tk
open PySem PySem.Spec PyProof.Rows L2
section
variable {X : Cx}

/-! math.lcm, sum of a tuple -/
def rLcm : List V → Hp → VK → Prop := fun vs H Q => ∃ a b : Nat, vs = [.int a, .int b] ∧ a < 1000000 ∧ b < 1000000 ∧ Q (.int ((Nat.lcm a b : Nat) : Int)) H
theorem cr_lcm : CallR X (.builtin "math.lcm") rLcm := by
  intro pins s σ H vs us Q I r h
  obtain ⟨a, b, rfl, ha, hb, q⟩ := h
  obtain ⟨t, u, rfl⟩ := Vals.int2 r
  refine PySem.W.mc_lcm (by simp; omega) (by simp; omega) fun _ => ⟨.int _, H, I.tok _, ⟨_, rfl⟩, ?_⟩
  simpa using q
def rSumT (K : PySem.W.Frag) : List V → Hp → VK → Prop := fun vs H Q => ∃ (a : Addr) (ns : List Int), vs = [V.ref a] ∧ SqT K H a (ns.map V.int) ∧ Q (.int ns.sum) H
theorem istup_old {h : Heap} {t : Addr} {its : List Value} (p : IsTup h t its.toArray) : h.IsTuple t its.toArray := by
  obtain ⟨o, ho, hc, n, hd⟩ := p
  exact ⟨o, ho, hc, n, hd⟩
theorem cr_sumT (hc : X.calm = true) : CallR X (.builtin "sum") (rSumT X.K) := by
  intro pins s σ H vs us Q I r h
  obtain ⟨a, ns, rfl, hs, q⟩ := h
  obtain ⟨its, rv, hl, _⟩ := I.tuple hs
  rw [Vals.ref1 r]
  have hi := rv.ints
  obtain ⟨xs, hx⟩ := hi.allInts.items
  have hn : numsOf its.toArray.toList = ns := by rw [show its.toArray.toList = its from rfl, hi.numsOf]
  have ht := istup_old hl
  rw [hx] at ht hn
  rw [nums_intItems] at hn
  refine PySem.W.ktm_sumG (I.ok.hd hc) ht fun h' tk t' hk => ?_
  rw [preSum_eq, List.take_of_length_le (by simp), hn]
  exact ⟨.int _, H, I.kept hk, ⟨_, rfl⟩, q⟩
/-- f(e, ..), f a name for a built-in function of a module -/
theorem pfun {x : Str} {p pos : Pos} {e : Expr} {es : List Expr} {t : TA} {id : String} {r : List V → Hp → VK → Prop} (hc : CallR X (.builtin id) r) (hg : Gl X x) (hm : X.mg x = some (.builtin id)) (ha : PA X (e :: es) t) (hdb : (x == ("__debug__" : Str)) = false := by decide)
    (he : starEach (e :: es) X.env = (false, eval e X.env) :: starEach es X.env := by rfl) (hpl : (backTo pos (starEach es X.env)).any (·.1) = false := by rfl) : PE X (.Call (.Name x p) (e :: es) [] pos) (tCB r t) :=
  ⟨fun pins s σ H _ I h => wpAny_Call_Name_kw (ld_glob I hg hm (PyProof.Rows.callWith_builtin1 (thn (ha.run pos pins s σ H _ I h) fun us s1 ⟨vs, H1, I1, r1, q1⟩ => hc pins s1 σ H1 vs us _ I1 r1 q1) he hpl) hdb)⟩

/-! a comprehension within a comprehension -/
theorem look_relabel {env : Env} : ∀ {names : List (Str × NameKind)} {x : Str}, names.lookup x = some .cell ∨ names.lookup x = some .free →
    (names.map fun (n, k) => if (k == NameKind.free && env.scope.kind == .function && env.kindOf n == some .cell) then (n, NameKind.cell) else (n, k)).lookup x = some .cell ∨
    (names.map fun (n, k) => if (k == NameKind.free && env.scope.kind == .function && env.kindOf n == some .cell) then (n, NameKind.cell) else (n, k)).lookup x = some .free
  | [], x, h => by rcases h with h | h <;> simp at h
  | (n, k) :: r, x, h => by
    have ih := @look_relabel env r x
    show List.lookup x ((if (k == NameKind.free && env.scope.kind == .function && env.kindOf n == some .cell) = true then (n, NameKind.cell) else (n, k)) :: _) = _ ∨ List.lookup x ((if (k == NameKind.free && env.scope.kind == .function && env.kindOf n == some .cell) = true then (n, NameKind.cell) else (n, k)) :: _) = _
    cases hx : x == n with
    | true =>
      simp only [List.lookup_cons, hx] at h
      by_cases hc : (k == NameKind.free && env.scope.kind == .function && env.kindOf n == some .cell) = true
      · rw [if_pos hc]
        simp [List.lookup_cons, hx]
      · rw [if_neg hc]
        simp only [List.lookup_cons, hx]
        exact h
    | false =>
      simp only [List.lookup_cons, hx] at h
      by_cases hc : (k == NameKind.free && env.scope.kind == .function && env.kindOf n == some .cell) = true
      · rw [if_pos hc]; simp only [List.lookup_cons, hx]; exact ih h
      · rw [if_neg hc]; simp only [List.lookup_cons, hx]; exact ih h
theorem blkRe {N : List Str} {sc scope : Scope} {own : List (Str × Nat)} {env : Env} (h : BlkOk N sc scope own) : BlkOk N (relabel sc env) scope own :=
  ⟨h.kind, h.uniq, h.ix, fun y hy e => look_relabel (h.free y hy e), h.own⟩
/-! a def that stands at a and keeps a promise; its calls -/
structure OkF (P : Program) (w : World) (K : PySem.W.Frag) (mg : Str → Option Value) (base : Heap) (k : Nat) (a : Addr) (ps : List Str) (sp : Sp) : Prop where
  ex : ∃ fd, FnOk P w K mg base (L2.CX P w) k a fd ps sp ∧ Binds K fd ps []
  kp : PySem.W.keepIn K (.ref a) = true
theorem OkF.one {P : Program} {w : World} {K : PySem.W.Frag} {mg : Str → Option Value} {base : Heap} {k : Nat} {a : Addr} {ps : List Str} {sp : Sp} (O : OkF P w K mg base k a ps sp) : FnOk P w K mg base (L2.CX P w) k a (Classical.choose O.ex) ps sp := (Classical.choose_spec O.ex).1
theorem OkF.two {P : Program} {w : World} {K : PySem.W.Frag} {mg : Str → Option Value} {base : Heap} {k : Nat} {a : Addr} {ps : List Str} {sp : Sp} (O : OkF P w K mg base k a ps sp) : Binds K (Classical.choose O.ex) ps [] := (Classical.choose_spec O.ex).2
variable {x : Str} {pos : Pos}
/-- a constant of the module -/
theorem pe_gint {v : Int} (hg : Gl X x) (h : ∃ t, X.mg x = some (.int v t)) (hd : (x == ("__debug__" : Str)) = false := by decide) : PE X (.Name x pos) (tC (.int v)) := by
  obtain ⟨t, h⟩ := h
  exact pe_glob hg h ⟨t, rfl⟩ hd
end

/-! facts of the top, read by a Hook -/
abbrev FnP (K : PySem.W.Frag) (x qual : Str) (st : Stmt) (f : Addr) (fd : FuncData) : Prop := FunD K x qual (defArgs st) (defBody st) (defScope st) [] [] f fd
/-- where a def stands, and the def -/
structure Dp where
  at_ : PySem.W.Frag → Addr
  d : He.DefD
def look (K : PySem.W.Frag) (a : Addr) : He.FnW := match K.lookup a with
  | some o => (match o.data with
    | .func fd => some (fd.name, fd.qualname, fd.params, fd.body, fd.scope, fd.globals, fd.closure, fd.builtins)
    | _ => none)
  | none => none
def okA (K : PySem.W.Frag) (a : Addr) (d : He.DefD) : Bool := PySem.W.keepIn K (.ref a) && (match K.lookup a with
  | some o => (match o.data with
    | .func fd => PySem.W.codeIn K fd.code d.qual && (He.dflB K fd.defaults (d.dvs K) && He.kwdB K fd.kwdefaults (d.kws K))
    | _ => false)
  | none => false)
theorem fun_at {K : PySem.W.Frag} {a : Addr} {d : He.DefD} (e : look K a = d.val) (c : okA K a d = true) : ∃ fd, FunD K d.name d.qual d.params d.body d.scope (d.dvs K) (d.kws K) a fd := by
  obtain ⟨kp, c2⟩ := He.ba c
  unfold look at e
  cases q : K.lookup a with
  | none => rw [q] at c2; cases c2
  | some o =>
    obtain ⟨oc, od, dt, osl⟩ := o
    rw [q] at c2 e
    cases dt with
    | func fd =>
      obtain ⟨n1, n2, n3, n4, n5, n6, n7, n8, n9, n10, n11, n12, n13, n14, n15⟩ := fd
      have z : (some (n1, n2, n3, n4, n5, n6, n7, n15) : He.FnW) = d.val := e
      unfold He.DefD.val at z
      simp only [Option.some.injEq, Prod.mk.injEq] at z
      obtain ⟨rfl, rfl, rfl, rfl, rfl, rfl, rfl, rfl⟩ := z
      obtain ⟨c3, c4⟩ := He.ba (show (PySem.W.codeIn K n13 d.qual && (He.dflB K n8 (d.dvs K) && He.kwdB K n9 (d.kws K))) = true from c2)
      obtain ⟨c5, c6⟩ := He.ba c4
      exact ⟨_, ⟨oc, od, n8, n9, n10, n11, n12, n13, n14, osl, rfl, q, c3, He.dflB_ok c5, He.kwdB_ok c6⟩, kp⟩
    | _ => cases c2
abbrev Al : Type := Bool × List He.FnW
def obsT (fa : List (PySem.W.Frag → Bool)) (fn : List Dp) (K : PySem.W.Frag) : Al := ((fa.all fun f => f K) && fn.all fun d => okA K (d.at_ K) d.d, fn.map fun d => look K (d.at_ K))
def valT (fn : List Dp) : Al := (true, fn.map fun d => d.d.val)
def Says (fa : List (PySem.W.Frag → Bool)) (fn : List Dp) (K : PySem.W.Frag) : Prop := obsT fa fn K = valT fn
/-! defs that make functions: their code objects, the tables of these -/
def codeAt (K : PySem.W.Frag) (a : Addr) : Addr := match K.lookup a with
  | some ⟨_, _, .func fd, _⟩ => (match fd.code with
    | .ref c => c
    | _ => 0)
  | _ => 0
def ctAt (K : PySem.W.Frag) (a : Addr) : Addr × Addr := (codeAt K a, He.tabOf K (codeAt K a))
theorem codeAt_eq {K : PySem.W.Frag} {a : Addr} {oc : Value} {od : Option Addr} {osl : Array (Option Value)} {fd : FuncData} {cd : Value} {q : Str} (lk : K.lookup a = some ⟨oc, od, .func fd, osl⟩) (e : fd.code = cd) (h : PySem.W.codeIn K cd q = true) : cd = .ref (codeAt K a) := by
  obtain ⟨c, rfl⟩ := He.codeIn_ref h
  unfold codeAt
  rw [lk]
  show Value.ref c = .ref (match fd.code with | .ref c => c | _ => 0)
  rw [e]
abbrev Mk_ : Type := PySem.W.Frag → Addr
/-- what is looked at: what is reached from the module, and the notes on builtins -/
def asX (g : Addr → Option Obj) (n : Nat) : List Addr := cStatics :: He.asD g n
structure Tells (tf : List Mk_) (h : Heap) (K : PySem.W.Frag) : Prop where
  hd : ∀ p ∈ tf, PySem.W.codeHdIn K (ctAt K (p K)).1 (ctAt K (p K)).2 = true
  out : ∀ p ∈ tf, K.lookup (ctAt K (p K)).2 = none
  empty : ∀ p ∈ tf, h.get? (ctAt K (p K)).2 = some { cls := .none, data := .fields #[] }
  apart : (tf.map fun p => (ctAt K (p K)).2).Nodup
def tabsB (g : Addr → Option Obj) (tf : List Mk_) (K : PySem.W.Frag) : Bool := (tf.all fun p => PySem.W.codeHdIn K (ctAt K (p K)).1 (ctAt K (p K)).2 && (match g (ctAt K (p K)).2 with
  | some o => He.emptyTab o
  | none => false)) && decide ((tf.map fun p => (ctAt K (p K)).2).Nodup)
abbrev AlX : Type := Al × Bool
def obsG (n : Nat) (fa : List (PySem.W.Frag → Bool)) (fn : List Dp) (tf : List Mk_) (g : Addr → Option Obj) : AlX := (obsT fa fn (He.frT g (asX g n)), tabsB g tf (He.frT g (asX g n)))
theorem tells_of {n : Nat} {tf : List Mk_} {h : Heap} (e : tabsB h.get? tf (He.frT h.get? (asX h.get? n)) = true) : Tells tf h (He.frT h.get? (asX h.get? n)) := by
  obtain ⟨h2, h5⟩ := He.ba e
  have key : ∀ p ∈ tf, PySem.W.codeHdIn (He.frT h.get? (asX h.get? n)) (ctAt (He.frT h.get? (asX h.get? n)) (p (He.frT h.get? (asX h.get? n)))).1 (ctAt (He.frT h.get? (asX h.get? n)) (p (He.frT h.get? (asX h.get? n)))).2 = true ∧
      ∃ o, h.get? (ctAt (He.frT h.get? (asX h.get? n)) (p (He.frT h.get? (asX h.get? n)))).2 = some o ∧ He.emptyTab o = true := fun p hp => by
    obtain ⟨h3, h4⟩ := He.ba (List.all_eq_true.mp h2 p hp)
    refine ⟨h3, ?_⟩
    generalize h.get? (ctAt (He.frT h.get? (asX h.get? n)) (p (He.frT h.get? (asX h.get? n)))).2 = z at h4
    cases z with
    | none => cases h4
    | some o => exact ⟨o, rfl, h4⟩
  exact ⟨fun p hp => (key p hp).1, fun p hp => by
    obtain ⟨_, o, q, z⟩ := key p hp
    exact He.frT_none q z, fun p hp => by
    obtain ⟨_, o, q, z⟩ := key p hp
    rw [q, He.emptyTab_eq z], of_decide_eq_true h5⟩
def hook (n : Nat) (fa : List (PySem.W.Frag → Bool)) (fn : List Dp) (tf : List Mk_) : PySem.W.Hook where
  α := AlX
  obs := fun s => obsG n fa fn tf s.heap.get?
  val := fun _ => (valT fn, true)
  says := fun _ h => ∃ K : PySem.W.Frag, K.In h ∧ Says fa fn K ∧ Tells tf h K
  of := fun _ _ e => ⟨_, He.frT_in, congrArg (fun z : AlX => z.1) e, tells_of (congrArg (fun z : AlX => z.2) e)⟩
  keeps := fun _ _ _ ⟨K, hK, c, t⟩ q => ⟨K, PySem.W.Frag.In.keeps hK q, c, t.hd, t.out, fun p hp => q _ _ (t.empty p hp), t.apart⟩
theorem obsG_eq {n : Nat} {fa : List (PySem.W.Frag → Bool)} {fn : List Dp} {tf : List Mk_} {g : Addr → Option Obj} {s : Shared} (h : ∀ a, g a = s.heap.get? a) : obsG n fa fn tf g = (hook n fa fn tf).obs s :=
  congrArg (obsG n fa fn tf) (funext h)
section
variable {fa : List (PySem.W.Frag → Bool)} {fn : List Dp} {K : PySem.W.Frag}
theorem Says.fact (c : Says fa fn K) (i : Nat) {f : PySem.W.Frag → Bool} (h : fa[i]? = some f := by rfl) : f K = true :=
  List.all_eq_true.mp (He.ba (show ((fa.all fun f => f K) && fn.all fun d => okA K (d.at_ K) d.d) = true from congrArg (fun z : Al => z.1) c)).1 f (List.mem_of_getElem? h)
theorem Says.def_ (c : Says fa fn K) (i : Nat) {d : Dp} (h : fn[i]? = some d := by rfl) : (∃ fd, FunD K d.d.name d.d.qual d.d.params d.d.body d.d.scope (d.d.dvs K) (d.d.kws K) (d.at_ K) fd) ∧ PySem.W.keepIn K (.ref (d.at_ K)) = true := by
  have c2 := (He.ba (show ((fa.all fun f => f K) && fn.all fun d => okA K (d.at_ K) d.d) = true from congrArg (fun z : Al => z.1) c)).2
  have c3 := List.all_eq_true.mp c2 d (List.mem_of_getElem? h)
  have e : (fn.map fun d => look K (d.at_ K))[i]? = (fn.map fun d => d.d.val)[i]? := congrArg (fun z : Al => z.2[i]?) c
  rw [List.getElem?_map, List.getElem?_map, h] at e
  exact ⟨fun_at (Option.some.inj e) c3, (He.ba c3).1⟩
end
/-! single facts -/
/-- where the property f of the class C has its getter -/
def propAt (K : PySem.W.Frag) (C : Addr) (f : Str) : Addr := match PySem.W.findIn K (.ref C) f with
  | some (some (.ref p)) => p
  | _ => 0
def getAt (K : PySem.W.Frag) (C : Addr) (f : Str) : Addr := match PySem.W.recIn K (propAt K C f) "property" with
  | some (.ref g :: _) => g
  | _ => 0
def propB (K : PySem.W.Frag) (C : Addr) (f : Str) : Bool := decide (PySem.W.findIn K (.ref C) f = some (some (.ref (propAt K C f)))) && (decide (PySem.W.specialIn K (.ref (propAt K C f)) "__get__" = some (some (.builtin "property.__get__"))) &&
  (decide (PySem.W.takesIn K (.ref (propAt K C f)) = some true) && (match PySem.W.recIn K (propAt K C f) "property" with
    | some (v :: _) => decide (v = .ref (getAt K C f))
    | _ => false)))
theorem prop_ok {K : PySem.W.Frag} {C : Addr} {f : Str} (h : propB K C f = true) : PropOf K C f (propAt K C f) (getAt K C f) := by
  obtain ⟨h1, h⟩ := He.ba h
  obtain ⟨h2, h⟩ := He.ba h
  obtain ⟨h3, h4⟩ := He.ba h
  refine ⟨of_decide_eq_true h1, of_decide_eq_true h2, of_decide_eq_true h3, ?_⟩
  cases e : PySem.W.recIn K (propAt K C f) "property" with
  | none => rw [e] at h4; cases h4
  | some l =>
    rw [e] at h4
    cases l with
    | nil => cases h4
    | cons v r => exact ⟨r, by rw [show v = _ from of_decide_eq_true h4]⟩
def bltB (x : Str) (id : String) (K : PySem.W.Frag) : Bool := decide (PySem.W.nsIn K mainGlobals x = some (some (.builtin id)))
theorem blt_ok {K : PySem.W.Frag} {h : Heap} {mg : Str → Option Value} (X : K.In h) (G : h.Ns mainGlobals mg) {x : Str} {id : String} (c : bltB x id K = true) : mg x = some (.builtin id) := PySem.W.mg_of X G (of_decide_eq_true c)
def fcB (f : He.Fa) (K : PySem.W.Frag) : Bool := f.ok K

/-- the class method m of the class C: its record, its def -/
def cmAt (K : PySem.W.Frag) (C : Addr) (m : Str) : Addr := match PySem.W.findIn K (.ref C) m with
  | some (some (.ref p)) => p
  | _ => 0
def cmFn (K : PySem.W.Frag) (C : Addr) (m : Str) : Addr := match PySem.W.recIn K (cmAt K C m) "classmethod" with
  | some (.ref g :: _) => g
  | _ => 0
def cmB (K : PySem.W.Frag) (C : Addr) (m : Str) : Bool := PySem.W.readsIn K C (.type "type") && (decide (PySem.W.specialIn K (.ref C) "__getattribute__" = some (some (.builtin "type.__getattribute__"))) && ((match PySem.W.findCls K (.ref C) (.type "type") m with
    | some (.get a b c d) => decide (a = .builtin "classmethod.__get__") && (decide (b = .ref (cmAt K C m)) && (decide (c = .none) && decide (d = .ref C)))
    | _ => false) && ((match PySem.W.recIn K (cmAt K C m) "classmethod" with
    | some (v :: _) => decide (v = .ref (cmFn K C m))
    | _ => false) && PySem.W.fnIn K (cmFn K C m))))
theorem cm_ok {K : PySem.W.Frag} {C : Addr} {m : Str} (h : cmB K C m = true) : ClX.CRead K C (.type "type") ∧ ClX.CMet K C (.type "type") m (cmAt K C m) (cmFn K C m) := by
  obtain ⟨h1, h⟩ := He.ba h
  obtain ⟨h2, h⟩ := He.ba h
  obtain ⟨h3, h⟩ := He.ba h
  obtain ⟨h4, h5⟩ := He.ba h
  refine ⟨⟨h1, of_decide_eq_true h2⟩, ?_, ?_, h5⟩
  · cases e : PySem.W.findCls K (.ref C) (.type "type") m with
    | none => rw [e] at h3; cases h3
    | some z =>
      rw [e] at h3
      cases z with
      | get a b c d =>
        obtain ⟨z1, z⟩ := He.ba (show (decide (a = .builtin "classmethod.__get__") && (decide (b = .ref (cmAt K C m)) && (decide (c = .none) && decide (d = .ref C)))) = true from h3)
        obtain ⟨z2, z⟩ := He.ba z
        obtain ⟨z3, z4⟩ := He.ba z
        rw [of_decide_eq_true z1, of_decide_eq_true z2, of_decide_eq_true z3, of_decide_eq_true z4]
      | _ => cases h3
  · cases e : PySem.W.recIn K (cmAt K C m) "classmethod" with
    | none => rw [e] at h4; cases h4
    | some l =>
      rw [e] at h4
      cases l with
      | nil => cases h4
      | cons v r => exact ⟨r, by rw [show v = _ from of_decide_eq_true h4]⟩
/-- a tuple of texts of the module -/
def strsB : List Value → List Str → Bool
  | [], [] => true
  | .str x _ :: r, y :: s => decide (x = y) && strsB r s
  | _, _ => false
theorem strs_ok : ∀ {l : List Value} {ss : List Str}, strsB l ss = true → Vals (ss.map V.str) l
  | [], [], _ => .nil
  | [], _ :: _, h => by cases h
  | v :: r, ss, h => by
    cases v with
    | str x t =>
      cases ss with
      | nil => cases h
      | cons y s =>
        obtain ⟨h1, h2⟩ := He.ba (show (decide (x = y) && strsB r s) = true from h)
        rw [List.map_cons]
        exact .cons ⟨t, by rw [of_decide_eq_true h1]⟩ (strs_ok h2)
    | _ => cases h
def tupB (x : Str) (ss : List Str) (K : PySem.W.Frag) : Bool := match K.lookup (He.ga K x) with
  | some ⟨.type c, _, .seq its _, _⟩ => decide (c = "tuple") && (decide (its.size ≤ 1000) && strsB its.toList ss)
  | _ => false
theorem tup_ok {K : PySem.W.Frag} {x : Str} {ss : List Str} (h : tupB x ss K = true) (H : Hp) : SqT K H (He.ga K x) (ss.map V.str) := by
  unfold tupB at h
  cases q : K.lookup (He.ga K x) with
  | none => rw [q] at h; cases h
  | some o =>
    obtain ⟨oc, od, dt, osl⟩ := o
    rw [q] at h
    cases oc with
    | type c =>
      cases dt with
      | seq its n =>
        obtain ⟨h1, h⟩ := He.ba (show (decide (c = "tuple") && (decide (its.size ≤ 1000) && strsB its.toList ss)) = true from h)
        obtain ⟨h2, h3⟩ := He.ba h
        refine .inr ⟨_, its, n, q, congrArg Value.type (of_decide_eq_true h1), rfl, ?_, strs_ok h3⟩
        have := of_decide_eq_true h2
        rw [sizeLine_eq]
        omega
      | _ => cases h
    | _ => cases dt <;> cases h
/-- a place, as a value -/
abbrev vnI (i : Nat) : V := .int (i : Int)

/-! named readings -/
namespace Rd
def rJoin (K : PySem.W.Frag) : V → List V → Hp → VK → Prop := fun x xs H Q => ∃ a p, ∃ ys : List Str, x = .str a ∧ xs = [.ref p] ∧ (SqL K H p (ys.map V.str) ∨ SqT K H p (ys.map V.str)) ∧ (ys.map (·.length)).sum + ys.length * a.length ≤ 16777216 ∧ Q (.str (Txt.join a ys)) H
def rSplit : V → List V → Hp → VK → Prop := fun x xs H Q => ∃ a b, x = .str a ∧ xs = [.str b] ∧ (b.length == 0) = false ∧ a.length + 2 ≤ sizeLine ∧ rNewStrs (Txt.split a b) H Q
def rMax2 : List V → Hp → VK → Prop := fun xs H Q => ∃ i j, xs = [.int i, .int j] ∧ Q (.int (if j > i then j else i)) H
def rMin2 : List V → Hp → VK → Prop := fun xs H Q => ∃ i j, xs = [.int i, .int j] ∧ Q (.int (if j < i then j else i)) H
def rIsN : R2 := fun x y H Q => y = .non ∧ Q (.bl (decide (x = .non))) H
def rNotN : R2 := fun x y H Q => y = .non ∧ Q (.bl (!decide (x = .non))) H
def rLst (K : PySem.W.Frag) : List V → Hp → VK → Prop := fun xs H Q => ∃ p ys, xs = [.ref p] ∧ (SqL K H p ys ∨ SqT K H p ys) ∧ ∀ l, H l = none → Q (.ref l) (upd H l (.lst ys))
def rTpl (K : PySem.W.Frag) : List V → Hp → VK → Prop := fun xs H Q => ∃ p ys, xs = [.ref p] ∧ ((SqL K H p ys ∧ ∀ l, H l = none → Q (.ref l) (upd H l (.tup ys))) ∨ (SqT K H p ys ∧ Q (.ref p) H))
def rStrI : List V → Hp → VK → Prop := fun xs H Q => ∃ i : Int, xs = [.int i] ∧ i.natAbs.log2 < 1920 ∧ Q (.str (toString i)) H
def rAddS : R2 := fun x y H Q => ∃ i j, x = .str i ∧ y = .str j ∧ i.length + j.length ≤ sizeLine ∧ Q (.str (i ++ j)) H
def rLenStr : List V → Hp → VK → Prop := fun xs H Q => ∃ z, xs = [.str z] ∧ z.length ≤ sizeLine ∧ Q (.int z.length) H
end Rd
section
variable {X : Cx} {o e : Expr} {to te : TE} {K : PySem.W.Frag}
theorem starAK {e : Expr} {p : Pos} {es : List Expr} {te : TE} {t : TA} (he : PE X e te) (hr : PA X es t) (hK : X.K = K := by rfl) (hs : starEach (.Starred e p :: es) X.env = (true, eval e X.env) :: starEach es X.env := by rfl) : PA X (.Starred e p :: es) (StX.tStar K te t) := hK ▸ StX.pa_star he hr hs
theorem ixLK (hK : X.K = K := by rfl) : IxR X (rIxL K) := hK ▸ ix_list
theorem ixTK (hK : X.K = K := by rfl) : IxR X (rIxT K) := hK ▸ ix_tup
theorem ixSK (hK : X.K = K := by rfl) : IxR X (rIx K) := hK ▸ ix_seq
theorem lenK (hK : X.K = K := by rfl) : CallR X (.builtin "len") (Evl.rLenS K) := hK ▸ call_len_seq
theorem tplK (hK : X.K = K := by rfl) : CallR X (.type "tuple") (Rd.rTpl K) := hK ▸ call_tuple_of
theorem lstK (hK : X.K = K := by rfl) : CallR X (.type "list") (Rd.rLst K) := hK ▸ call_list_of
theorem slLK (hK : X.K = K := by rfl) : SlR X (rSlL K) := hK ▸ sl_list
theorem slAK (hK : X.K = K := by rfl) : SlR X (rSlA K) := hK ▸ sl_tupA
theorem eqDK (hu : X.A.units + 64 < cLine) (hK : X.K = K := by rfl) : OpR X (compareOp .Eq) (rEqD K) := hK ▸ op_eqD hu
theorem neDK (hu : X.A.units + 64 < cLine) (hK : X.K = K := by rfl) : OpR X (compareOp .NotEq) (rNeD K) := hK ▸ op_neD hu
theorem inK (hK : X.K = K := by rfl) : OpR X (compareOp .In) (rIn K false) := hK ▸ op_in_seq
theorem notInK (hK : X.K = K := by rfl) : OpR X (compareOp .NotIn) (rIn K true) := hK ▸ op_notIn_seq
theorem sumTK (hc : X.calm = true := by rfl) (hK : X.K = K := by rfl) : CallR X (.builtin "sum") (rSumT K) := hK ▸ cr_sumT hc
theorem sumLK (hc : X.calm = true := by rfl) (hK : X.K = K := by rfl) : CallR X (.builtin "sum") (rSum K) := hK ▸ cr_sum hc
theorem maxLK (hc : X.calm = true := by rfl) (hK : X.K = K := by rfl) : CallR X (.builtin "max") (rMax K) := hK ▸ cr_max hc
theorem minLK (hc : X.calm = true := by rfl) (hK : X.K = K := by rfl) : CallR X (.builtin "min") (rMin K) := hK ▸ cr_min hc
theorem allLK (hc : X.calm = true := by rfl) (hK : X.K = K := by rfl) : CallR X (.builtin "all") (rAll K) := hK ▸ cr_all hc
theorem isiK (hK : X.K = K := by rfl) : CallR X (.builtin "isinstance") (rIsi K) := hK ▸ call_isi
theorem catAK (hK : X.K = K := by rfl) : OpR X (binaryOp .Add) (rCatA K) := hK ▸ op_catA
theorem pi_listK {tg l : Expr} {tl : TE} (hl : PE X l tl) (hK : X.K = K := by rfl) : PI X tg l (iList K tl) := hK ▸ pi_list hl
theorem pi_tupK {tg l : Expr} {tl : TE} (hl : PE X l tl) (hK : X.K = K := by rfl) : PI X tg l (iTup K tl) := hK ▸ pi_tup hl
theorem pe_joinR {apos pos : Pos} (ho : PE X o to) (he : PE X e te) (hK : X.K = K := by rfl) (hs : starEach [e] X.env = [(false, eval e X.env)] := by rfl) (hbase : attributeBase o "join" X.env (eval o X.env) = eval o X.env := by rfl) (hline : (apos.endLine == pos.line) = true := by rfl) :
    PE X (.Call (.Attribute o "join" apos) [e] [] pos) (tM1 (Rd.rJoin K) to te) := by
  subst hK
  exact pe_join ho he hs hbase hline
theorem pe_splitR {apos pos : Pos} (ho : PE X o to) (he : PE X e te) (hs : starEach [e] X.env = [(false, eval e X.env)] := by rfl) (hbase : attributeBase o "split" X.env (eval o X.env) = eval o X.env := by rfl) (hline : (apos.endLine == pos.line) = true := by rfl) :
    PE X (.Call (.Attribute o "split" apos) [e] [] pos) (tM1 Rd.rSplit to te) := pe_split ho he hs hbase hline
end
/-! small words -/
theorem own_cx {X : Cx} {K : Value → Shared → Prop} {E₁ : Value → Shared → Prop} (hx : X.xe = fun e s' => wpAny (model X.prog X.w) X.A (leaving X.env e) (fun _ s'' => K e s'') E₁ s' := by rfl) : PassesOwn (model X.prog X.w) X.A X.env X.xe := passes_of hx
theorem FnP.okF {P : Program} {w : World} {K : PySem.W.Frag} {mg : Str → Option Value} {base : Heap} {x qual : Str} {st : Stmt} {f : Addr} {N ps : List Str} {k : Nat} {sp : Sp} (F : ∃ fd, FnP K x qual st f fd) (S : FnScope N ps (defScope st))
    (hb : ∀ (kV doc pm : Value) (an : Option Addr) (cdv ct : Value) (us : List Value), us.length = ps.length → bindArgs (PySem.W.fnOf x qual (defArgs st) (defBody st) (defScope st) .none kV doc pm an cdv ct) ⟨us, []⟩ = pure (ps.zip us))
    (len : ∀ vs H Q E, sp vs H Q E → vs.length = ps.length)
    (hbody : ∀ (cdv : Value) (A : Around) (outer : List Env) (s : Shared) (H : Hp) (vs : List V) (Q : VK) (E : XK), Room k (A.deeper (envOfC qual (defScope st) s.heap.objs.size f cdv)) → sp vs H Q E →
      ∃ t, PSs (cxOf (L2.CX P w) P w K mg base N qual (defScope st) f cdv A outer s H E) (defBody st) t ∧ t { nx := fun _ H' => Q .non H', rt := Q } (start N vs) H) : OkF P w K mg base (k + 1) f ps sp := by
  obtain ⟨fd, F⟩ := F
  exact ⟨⟨fd, F.ok S len hbody, F.bindsN hb⟩, F.kp⟩
/-- the law's own def: nothing leaves it -/
theorem okLaw {P : Program} {w : World} {K : PySem.W.Frag} {mg : Str → Option Value} {base : Heap} {x qual : Str} {st : Stmt} {f : Addr} {fd : FuncData} {N ps : List Str} {k : Nat} {sp : Sp} (F : FnP K x qual st f fd) (S : FnScope N ps (defScope st)) (len : ∀ vs H Q E, sp vs H Q E → vs.length = ps.length)
    (hbody : ∀ (cdv : Value) (A : Around) (outer : List Env) (s : Shared) (H : Hp) (vs : List V) (Q : VK) (E : XK), Room k (A.deeper (envOfC qual (defScope st) s.heap.objs.size f cdv)) → sp vs H Q E →
      ∃ t, PSs (cxOf CX0 P w K mg base N qual (defScope st) f cdv A outer s H E).nox (defBody st) t ∧ t { nx := fun _ H' => Q .non H', rt := Q } (start N vs) H) : FnOk P w K mg base CX0 (k + 1) f fd ps sp :=
  F.ok S len fun cdv A outer s H vs Q E hr h => by
    obtain ⟨t, h1, h2⟩ := hbody cdv A outer s H vs Q E hr h
    exact ⟨t, h1.nox, h2⟩
def spLaw (K : PySem.W.Frag) : Sp := fun vs H Q _ => ∃ (a : Addr) (ns : List Int), vs = [.ref a] ∧ SqL K H a (ns.map V.int) ∧ ns.length ≤ 63 ∧ ∀ H', Q (.bl true) H'
/-- the same, the tables of the defs that make functions there -/
def spLawT (K : PySem.W.Frag) (T : List (Addr × Str)) : Sp := fun vs H Q _ => ∃ (a : Addr) (ns : List Int), vs = [.ref a] ∧ SqL K H a (ns.map V.int) ∧ ns.length ≤ 63 ∧ LamX.Tabs T H ∧ ∀ H', Q (.bl true) H'
/-- all but what stands at d is as it was -/
def But (d : Addr) (H H' : Hp) : Prop := ∀ b o, b ≠ d → H b = some o → H' b = some o
end Tk
/-! ### B. The text by places -/
namespace Tk
open PySem PySem.Spec PyProof.Rows L2
def top (i : Nat) : Stmt := PySem.Challenge.pw_ticketwrap_k04_times_of_tickets.main.body.getD i (.Pass ⟨0, 0, 0, 0⟩)
abbrev s_is_integer_within : Stmt := top 9
abbrev N_is_integer_within : List Str := ["value", "low", "high"]
theorem sc_is_integer_within : FnScope N_is_integer_within ["value", "low", "high"] (defScope s_is_integer_within) := ⟨rfl, rfl, rfl, by decide +kernel, rfl, by decide +kernel, by decide +kernel⟩
abbrev s_check_tick : Stmt := top 10
abbrev N_check_tick : List Str := ["tick"]
theorem sc_check_tick : FnScope N_check_tick ["tick"] (defScope s_check_tick) := ⟨rfl, rfl, rfl, by decide +kernel, rfl, by decide +kernel, by decide +kernel⟩
abbrev s_tick_of : Stmt := top 13
abbrev N_tick_of : List Str := ["before", "period", "number", "first", "growth", "skipped", "tick"]
theorem sc_tick_of : FnScope N_tick_of ["before", "period", "number"] (defScope s_tick_of) := ⟨rfl, rfl, rfl, by decide +kernel, rfl, by decide +kernel, by decide +kernel⟩
abbrev s_tick_of_take : Stmt := top 14
abbrev N_tick_of_take : List Str := ["hall", "number"]
theorem sc_tick_of_take : FnScope N_tick_of_take ["hall", "number"] (defScope s_tick_of_take) := ⟨rfl, rfl, rfl, by decide +kernel, rfl, by decide +kernel, by decide +kernel⟩
abbrev s_tick_of_call : Stmt := top 15
abbrev N_tick_of_call : List Str := ["hall", "number"]
theorem sc_tick_of_call : FnScope N_tick_of_call ["hall", "number"] (defScope s_tick_of_call) := ⟨rfl, rfl, rfl, by decide +kernel, rfl, by decide +kernel, by decide +kernel⟩
abbrev s_ticket_times : Stmt := top 16
abbrev N_ticket_times : List Str := ["hall", "number", "take"]
theorem sc_ticket_times : FnScope N_ticket_times ["hall", "number"] (defScope s_ticket_times) := ⟨rfl, rfl, rfl, by decide +kernel, rfl, by decide +kernel, by decide +kernel⟩
abbrev s_display : Stmt := top 17
abbrev N_display : List Str := ["hall", "tick", "called"]
theorem sc_display : FnScope N_display ["hall", "tick"] (defScope s_display) := ⟨rfl, rfl, rfl, by decide +kernel, rfl, by decide +kernel, by decide +kernel⟩
abbrev s_longest_wait : Stmt := top 18
abbrev N_longest_wait : List Str := ["hall", "longest", "tick", "taken"]
theorem sc_longest_wait : FnScope N_longest_wait ["hall"] (defScope s_longest_wait) := ⟨rfl, rfl, rfl, by decide +kernel, rfl, by decide +kernel, by decide +kernel⟩
abbrev s_first_invalid_item : Stmt := top 25
abbrev N_first_invalid_item : List Str := ["pattern", "index", "item"]
theorem sc_first_invalid_item : FnScope N_first_invalid_item ["pattern"] (defScope s_first_invalid_item) := ⟨rfl, rfl, rfl, by decide +kernel, rfl, by decide +kernel, by decide +kernel⟩
abbrev s_check_pattern : Stmt := top 26
abbrev N_check_pattern : List Str := ["part", "pattern", "index"]
theorem sc_check_pattern : FnScope N_check_pattern ["part", "pattern"] (defScope s_check_pattern) := ⟨rfl, rfl, rfl, by decide +kernel, rfl, by decide +kernel, by decide +kernel⟩
abbrev s_check_hall : Stmt := top 27
abbrev N_check_hall : List Str := ["modulus", "takes", "calls", "lateness"]
theorem sc_check_hall : FnScope N_check_hall ["modulus", "takes", "calls", "lateness"] (defScope s_check_hall) := ⟨rfl, rfl, rfl, by decide +kernel, rfl, by decide +kernel, by decide +kernel⟩
abbrev s_count_calls : Stmt := top 28
abbrev N_count_calls : List Str := ["takes", "calls", "ticks", "called", "waiting", "tick", "now"]
theorem sc_count_calls : FnScope N_count_calls ["takes", "calls", "ticks"] (defScope s_count_calls) := ⟨rfl, rfl, rfl, by decide +kernel, rfl, by decide +kernel, by decide +kernel⟩
abbrev s_init : Stmt := inClass (top 29) 0
abbrev N_init : List Str := ["self", "modulus", "takes", "calls", "lateness"]
theorem sc_init : FnScope N_init ["self", "modulus", "takes", "calls", "lateness"] (defScope s_init) := ⟨rfl, rfl, rfl, by decide +kernel, rfl, by decide +kernel, by decide +kernel⟩
abbrev s_period : Stmt := inClass (top 29) 1
abbrev N_period : List Str := ["self"]
theorem sc_period : FnScope N_period ["self"] (defScope s_period) := ⟨rfl, rfl, rfl, by decide +kernel, rfl, by decide +kernel, by decide +kernel⟩
abbrev s_growth : Stmt := inClass (top 29) 2
abbrev N_growth : List Str := ["self"]
theorem sc_growth : FnScope N_growth ["self"] (defScope s_growth) := ⟨rfl, rfl, rfl, by decide +kernel, rfl, by decide +kernel, by decide +kernel⟩
abbrev s_taken : Stmt := inClass (top 29) 3
abbrev N_taken : List Str := ["self", "tick", "rounds", "rest"]
theorem sc_taken : FnScope N_taken ["self", "tick"] (defScope s_taken) := ⟨rfl, rfl, rfl, by decide +kernel, rfl, by decide +kernel, by decide +kernel⟩
abbrev s_called : Stmt := inClass (top 29) 4
abbrev N_called : List Str := ["self", "tick", "period", "skipped", "in_period"]
theorem sc_called : FnScope N_called ["self", "tick"] (defScope s_called) := ⟨rfl, rfl, rfl, by decide +kernel, rfl, by decide +kernel, by decide +kernel⟩
abbrev s_waiting : Stmt := inClass (top 29) 5
abbrev N_waiting : List Str := ["self", "tick"]
theorem sc_waiting : FnScope N_waiting ["self", "tick"] (defScope s_waiting) := ⟨rfl, rfl, rfl, by decide +kernel, rfl, by decide +kernel, by decide +kernel⟩
abbrev s__law_random : Stmt := top 31
abbrev N__law_random : List Str := ["_law_script", "_law_salt", "_law_seed", "_law_cell"]
theorem sc__law_random : FnScope N__law_random ["_law_script", "_law_salt"] (defScope s__law_random) := ⟨rfl, rfl, rfl, by decide +kernel, rfl, by decide +kernel, by decide +kernel⟩
abbrev s__law_below : Stmt := top 32
abbrev N__law_below : List Str := ["_law_d", "_law_limit", "_law_result"]
theorem sc__law_below : FnScope N__law_below ["_law_d", "_law_limit"] (defScope s__law_below) := ⟨rfl, rfl, rfl, by decide +kernel, rfl, by decide +kernel, by decide +kernel⟩
abbrev s__law_pattern : Stmt := top 33
abbrev N__law_pattern : List Str := ["_law_d", "_law_most_here", "_law_high", "_law_k"]
theorem sc__law_pattern : FnScope N__law_pattern ["_law_d", "_law_most_here"] (defScope s__law_pattern) := ⟨rfl, rfl, rfl, by decide +kernel, rfl, by decide +kernel, by decide +kernel⟩
abbrev s__law_small : Stmt := top 34
abbrev N__law_small : List Str := ["_law_d"]
theorem sc__law_small : FnScope N__law_small ["_law_d"] (defScope s__law_small) := ⟨rfl, rfl, rfl, by decide +kernel, rfl, by decide +kernel, by decide +kernel⟩
abbrev s__law_hall : Stmt := top 35
abbrev N__law_hall : List Str := ["_law_parts"]
theorem sc__law_hall : FnScope N__law_hall ["_law_parts"] (defScope s__law_hall) := ⟨rfl, rfl, rfl, by decide +kernel, rfl, by decide +kernel, by decide +kernel⟩
abbrev s__law_length : Stmt := top 36
abbrev N__law_length : List Str := ["_law_parts", "_law_length_here"]
theorem sc__law_length : FnScope N__law_length ["_law_parts"] (defScope s__law_length) := ⟨rfl, rfl, rfl, by decide +kernel, rfl, by decide +kernel, by decide +kernel⟩
abbrev s__law_counts : Stmt := top 37
abbrev N__law_counts : List Str := ["_law_parts", "_law_ticks", "_law_taken", "_law_called", "_law_tick"]
theorem sc__law_counts : FnScope N__law_counts ["_law_parts", "_law_ticks"] (defScope s__law_counts) := ⟨rfl, rfl, rfl, by decide +kernel, rfl, by decide +kernel, by decide +kernel⟩
abbrev s__law_equal : Stmt := top 38
abbrev N__law_equal : List Str := ["_law_actual", "_law_expected", "_law_k"]
theorem sc__law_equal : FnScope N__law_equal ["_law_actual", "_law_expected"] (defScope s__law_equal) := ⟨rfl, rfl, rfl, by decide +kernel, rfl, by decide +kernel, by decide +kernel⟩
abbrev s__law_opens : Stmt := top 39
abbrev N__law_opens : List Str := ["_law_parts", "_law_ticks", "_law_taken", "_law_called", "_law_tick"]
theorem sc__law_opens : FnScope N__law_opens ["_law_parts", "_law_ticks"] (defScope s__law_opens) := ⟨rfl, rfl, rfl, by decide +kernel, rfl, by decide +kernel, by decide +kernel⟩
abbrev s__law_most : Stmt := top 40
abbrev N__law_most : List Str := ["_law_parts", "_law_length_here", "_law_first", "_law_end"]
theorem sc__law_most : FnScope N__law_most ["_law_parts"] (defScope s__law_most) := ⟨rfl, rfl, rfl, by decide +kernel, rfl, by decide +kernel, by decide +kernel⟩
abbrev s_law : Stmt := top 41
abbrev N_law : List Str := ["_law_script", "_law_d", "_law_step", "_law_parts", "_law_hall_here", "_law_length_here", "_law_taken", "_law_called", "_law_number", "_law_tick", "_law_times", "_law_expected", "_law_digits", "_law_longest", "_law_pair", "_law_counts_here"]
theorem sc_law : FnScope N_law ["_law_script"] (defScope s_law) := ⟨rfl, rfl, rfl, by decide +kernel, rfl, by decide +kernel, by decide +kernel⟩
structure Txt (K : PySem.W.Frag) (mg : Str → Option Value) : Prop where
  g_abs : mg "abs" = none
  g_all : mg "all" = none
  g_bool : mg "bool" = none
  g_divmod : mg "divmod" = none
  g_enumerate : mg "enumerate" = none
  g_int : mg "int" = none
  g_isinstance : mg "isinstance" = none
  g_len : mg "len" = none
  g_list : mg "list" = none
  g_max : mg "max" = none
  g_min : mg "min" = none
  g_range : mg "range" = none
  g_str : mg "str" = none
  g_sum : mg "sum" = none
  g_tuple : mg "tuple" = none
  g_lcm : mg "lcm" = some (.builtin "math.lcm")
  c_LAST_TICK : ∃ t, mg "LAST_TICK" = some (.int 1000000000000000000 t)
  c_LAST_NUMBER : ∃ t, mg "LAST_NUMBER" = some (.int 1000000000000000000 t)
  c_LEAST_MODULUS : ∃ t, mg "LEAST_MODULUS" = some (.int 2 t)
  c_GREATEST_MODULUS : ∃ t, mg "GREATEST_MODULUS" = some (.int 10000 t)
  c_MOST_ITEMS : ∃ t, mg "MOST_ITEMS" = some (.int 12 t)
  c_GREATEST_ITEM : ∃ t, mg "GREATEST_ITEM" = some (.int 9 t)
  c_GREATEST_LATENESS : ∃ t, mg "GREATEST_LATENESS" = some (.int 99 t)
  g_is_integer_within : mg "is_integer_within" = some (.ref (He.ga K "is_integer_within"))
  g_check_tick : mg "check_tick" = some (.ref (He.ga K "check_tick"))
  g_tick_of : mg "tick_of" = some (.ref (He.ga K "tick_of"))
  g_tick_of_take : mg "tick_of_take" = some (.ref (He.ga K "tick_of_take"))
  g_tick_of_call : mg "tick_of_call" = some (.ref (He.ga K "tick_of_call"))
  g_ticket_times : mg "ticket_times" = some (.ref (He.ga K "ticket_times"))
  g_display : mg "display" = some (.ref (He.ga K "display"))
  g_longest_wait : mg "longest_wait" = some (.ref (He.ga K "longest_wait"))
  g_first_invalid_item : mg "first_invalid_item" = some (.ref (He.ga K "first_invalid_item"))
  g_check_pattern : mg "check_pattern" = some (.ref (He.ga K "check_pattern"))
  g_check_hall : mg "check_hall" = some (.ref (He.ga K "check_hall"))
  g_count_calls : mg "count_calls" = some (.ref (He.ga K "count_calls"))
  g__law_random : mg "_law_random" = some (.ref (He.ga K "_law_random"))
  g__law_below : mg "_law_below" = some (.ref (He.ga K "_law_below"))
  g__law_pattern : mg "_law_pattern" = some (.ref (He.ga K "_law_pattern"))
  g__law_small : mg "_law_small" = some (.ref (He.ga K "_law_small"))
  g__law_hall : mg "_law_hall" = some (.ref (He.ga K "_law_hall"))
  g__law_length : mg "_law_length" = some (.ref (He.ga K "_law_length"))
  g__law_counts : mg "_law_counts" = some (.ref (He.ga K "_law_counts"))
  g__law_equal : mg "_law_equal" = some (.ref (He.ga K "_law_equal"))
  g__law_opens : mg "_law_opens" = some (.ref (He.ga K "_law_opens"))
  g__law_most : mg "_law_most" = some (.ref (He.ga K "_law_most"))
  g_Hall : mg "Hall" = some (.ref (He.ga K "Hall"))
  cl_Hall : Cls K (He.ga K "Hall")
  mk_Hall : Mk K (He.ga K "Hall") (He.ma K (He.ga K "Hall") "__init__")
  n_modulus : NoAttr K (He.ga K "Hall") "modulus"
  n_takes : NoAttr K (He.ga K "Hall") "takes"
  n_calls : NoAttr K (He.ga K "Hall") "calls"
  n_lateness : NoAttr K (He.ga K "Hall") "lateness"
  n__called : NoAttr K (He.ga K "Hall") "_called"
  m_taken : Meth K (He.ga K "Hall") "taken" (He.ma K (He.ga K "Hall") "taken")
  m_called : Meth K (He.ga K "Hall") "called" (He.ma K (He.ga K "Hall") "called")
  m_waiting : Meth K (He.ga K "Hall") "waiting" (He.ma K (He.ga K "Hall") "waiting")
  p_period : PropOf K (He.ga K "Hall") "period" (propAt K (He.ga K "Hall") "period") (getAt K (He.ga K "Hall") "period")
  p_growth : PropOf K (He.ga K "Hall") "growth" (propAt K (He.ga K "Hall") "growth") (getAt K (He.ga K "Hall") "growth")
  f_is_integer_within : ∃ fd, FnP K "is_integer_within" "is_integer_within" s_is_integer_within (He.ga K "is_integer_within") fd
  f_check_tick : ∃ fd, FnP K "check_tick" "check_tick" s_check_tick (He.ga K "check_tick") fd
  f_tick_of : ∃ fd, FnP K "tick_of" "tick_of" s_tick_of (He.ga K "tick_of") fd
  f_tick_of_take : ∃ fd, FnP K "tick_of_take" "tick_of_take" s_tick_of_take (He.ga K "tick_of_take") fd
  f_tick_of_call : ∃ fd, FnP K "tick_of_call" "tick_of_call" s_tick_of_call (He.ga K "tick_of_call") fd
  f_ticket_times : ∃ fd, FnP K "ticket_times" "ticket_times" s_ticket_times (He.ga K "ticket_times") fd
  f_display : ∃ fd, FnP K "display" "display" s_display (He.ga K "display") fd
  f_longest_wait : ∃ fd, FnP K "longest_wait" "longest_wait" s_longest_wait (He.ga K "longest_wait") fd
  f_first_invalid_item : ∃ fd, FnP K "first_invalid_item" "first_invalid_item" s_first_invalid_item (He.ga K "first_invalid_item") fd
  f_check_pattern : ∃ fd, FnP K "check_pattern" "check_pattern" s_check_pattern (He.ga K "check_pattern") fd
  f_check_hall : ∃ fd, FnP K "check_hall" "check_hall" s_check_hall (He.ga K "check_hall") fd
  f_count_calls : ∃ fd, FnP K "count_calls" "count_calls" s_count_calls (He.ga K "count_calls") fd
  f_init : ∃ fd, FnP K "__init__" "Hall.__init__" s_init (He.ma K (He.ga K "Hall") "__init__") fd
  f_period : ∃ fd, FnP K "period" "Hall.period" s_period (getAt K (He.ga K "Hall") "period") fd
  f_growth : ∃ fd, FnP K "growth" "Hall.growth" s_growth (getAt K (He.ga K "Hall") "growth") fd
  f_taken : ∃ fd, FnP K "taken" "Hall.taken" s_taken (He.ma K (He.ga K "Hall") "taken") fd
  f_called : ∃ fd, FnP K "called" "Hall.called" s_called (He.ma K (He.ga K "Hall") "called") fd
  f_waiting : ∃ fd, FnP K "waiting" "Hall.waiting" s_waiting (He.ma K (He.ga K "Hall") "waiting") fd
  f__law_random : ∃ fd, FnP K "_law_random" "_law_random" s__law_random (He.ga K "_law_random") fd
  f__law_below : ∃ fd, FnP K "_law_below" "_law_below" s__law_below (He.ga K "_law_below") fd
  f__law_pattern : ∃ fd, FnP K "_law_pattern" "_law_pattern" s__law_pattern (He.ga K "_law_pattern") fd
  f__law_small : ∃ fd, FnP K "_law_small" "_law_small" s__law_small (He.ga K "_law_small") fd
  f__law_hall : ∃ fd, FnP K "_law_hall" "_law_hall" s__law_hall (He.ga K "_law_hall") fd
  f__law_length : ∃ fd, FnP K "_law_length" "_law_length" s__law_length (He.ga K "_law_length") fd
  f__law_counts : ∃ fd, FnP K "_law_counts" "_law_counts" s__law_counts (He.ga K "_law_counts") fd
  f__law_equal : ∃ fd, FnP K "_law_equal" "_law_equal" s__law_equal (He.ga K "_law_equal") fd
  f__law_opens : ∃ fd, FnP K "_law_opens" "_law_opens" s__law_opens (He.ga K "_law_opens") fd
  f__law_most : ∃ fd, FnP K "_law_most" "_law_most" s__law_most (He.ga K "_law_most") fd
def fcts : List (PySem.W.Frag → Bool) := [fcB (.free "abs"), fcB (.free "all"), fcB (.free "bool"), fcB (.free "divmod"), fcB (.free "enumerate"), fcB (.free "int"), fcB (.free "isinstance"), fcB (.free "len"), fcB (.free "list"), fcB (.free "max"), fcB (.free "min"), fcB (.free "range"), fcB (.free "str"), fcB (.free "sum"), fcB (.free "tuple"), bltB "lcm" "math.lcm", fcB (.int "LAST_TICK" 1000000000000000000), fcB (.int "LAST_NUMBER" 1000000000000000000), fcB (.int "LEAST_MODULUS" 2), fcB (.int "GREATEST_MODULUS" 10000), fcB (.int "MOST_ITEMS" 12), fcB (.int "GREATEST_ITEM" 9), fcB (.int "GREATEST_LATENESS" 99), fcB (.glo "is_integer_within"), fcB (.glo "check_tick"), fcB (.glo "tick_of"), fcB (.glo "tick_of_take"), fcB (.glo "tick_of_call"), fcB (.glo "ticket_times"), fcB (.glo "display"), fcB (.glo "longest_wait"), fcB (.glo "first_invalid_item"), fcB (.glo "check_pattern"), fcB (.glo "check_hall"), fcB (.glo "count_calls"), fcB (.glo "_law_random"), fcB (.glo "_law_below"), fcB (.glo "_law_pattern"), fcB (.glo "_law_small"), fcB (.glo "_law_hall"), fcB (.glo "_law_length"), fcB (.glo "_law_counts"), fcB (.glo "_law_equal"), fcB (.glo "_law_opens"), fcB (.glo "_law_most"), fcB (.glo "Hall"), fcB (.cls "Hall"), fcB (.mkr "Hall"), fcB (.noat "Hall" "modulus"), fcB (.noat "Hall" "takes"), fcB (.noat "Hall" "calls"), fcB (.noat "Hall" "lateness"), fcB (.noat "Hall" "_called"), fcB (.meth "Hall" "taken"), fcB (.meth "Hall" "called"), fcB (.meth "Hall" "waiting"), (fun K => propB K (He.ga K "Hall") "period"), (fun K => propB K (He.ga K "Hall") "growth"), fcB (.glo "law")]
def lawF : Nat := 58
def dps : List Dp := [⟨fun K => (He.ga K "is_integer_within"), ⟨("is_integer_within", none), "is_integer_within", "is_integer_within", defArgs s_is_integer_within, defBody s_is_integer_within, defScope s_is_integer_within, [], []⟩⟩, ⟨fun K => (He.ga K "check_tick"), ⟨("check_tick", none), "check_tick", "check_tick", defArgs s_check_tick, defBody s_check_tick, defScope s_check_tick, [], []⟩⟩, ⟨fun K => (He.ga K "tick_of"), ⟨("tick_of", none), "tick_of", "tick_of", defArgs s_tick_of, defBody s_tick_of, defScope s_tick_of, [], []⟩⟩, ⟨fun K => (He.ga K "tick_of_take"), ⟨("tick_of_take", none), "tick_of_take", "tick_of_take", defArgs s_tick_of_take, defBody s_tick_of_take, defScope s_tick_of_take, [], []⟩⟩, ⟨fun K => (He.ga K "tick_of_call"), ⟨("tick_of_call", none), "tick_of_call", "tick_of_call", defArgs s_tick_of_call, defBody s_tick_of_call, defScope s_tick_of_call, [], []⟩⟩, ⟨fun K => (He.ga K "ticket_times"), ⟨("ticket_times", none), "ticket_times", "ticket_times", defArgs s_ticket_times, defBody s_ticket_times, defScope s_ticket_times, [], []⟩⟩, ⟨fun K => (He.ga K "display"), ⟨("display", none), "display", "display", defArgs s_display, defBody s_display, defScope s_display, [], []⟩⟩, ⟨fun K => (He.ga K "longest_wait"), ⟨("longest_wait", none), "longest_wait", "longest_wait", defArgs s_longest_wait, defBody s_longest_wait, defScope s_longest_wait, [], []⟩⟩, ⟨fun K => (He.ga K "first_invalid_item"), ⟨("first_invalid_item", none), "first_invalid_item", "first_invalid_item", defArgs s_first_invalid_item, defBody s_first_invalid_item, defScope s_first_invalid_item, [], []⟩⟩, ⟨fun K => (He.ga K "check_pattern"), ⟨("check_pattern", none), "check_pattern", "check_pattern", defArgs s_check_pattern, defBody s_check_pattern, defScope s_check_pattern, [], []⟩⟩, ⟨fun K => (He.ga K "check_hall"), ⟨("check_hall", none), "check_hall", "check_hall", defArgs s_check_hall, defBody s_check_hall, defScope s_check_hall, [], []⟩⟩, ⟨fun K => (He.ga K "count_calls"), ⟨("count_calls", none), "count_calls", "count_calls", defArgs s_count_calls, defBody s_count_calls, defScope s_count_calls, [], []⟩⟩, ⟨fun K => (He.ma K (He.ga K "Hall") "__init__"), ⟨("__init__", none), "__init__", "Hall.__init__", defArgs s_init, defBody s_init, defScope s_init, [], []⟩⟩, ⟨fun K => (getAt K (He.ga K "Hall") "period"), ⟨("period", none), "period", "Hall.period", defArgs s_period, defBody s_period, defScope s_period, [], []⟩⟩, ⟨fun K => (getAt K (He.ga K "Hall") "growth"), ⟨("growth", none), "growth", "Hall.growth", defArgs s_growth, defBody s_growth, defScope s_growth, [], []⟩⟩, ⟨fun K => (He.ma K (He.ga K "Hall") "taken"), ⟨("taken", none), "taken", "Hall.taken", defArgs s_taken, defBody s_taken, defScope s_taken, [], []⟩⟩, ⟨fun K => (He.ma K (He.ga K "Hall") "called"), ⟨("called", none), "called", "Hall.called", defArgs s_called, defBody s_called, defScope s_called, [], []⟩⟩, ⟨fun K => (He.ma K (He.ga K "Hall") "waiting"), ⟨("waiting", none), "waiting", "Hall.waiting", defArgs s_waiting, defBody s_waiting, defScope s_waiting, [], []⟩⟩, ⟨fun K => (He.ga K "_law_random"), ⟨("_law_random", none), "_law_random", "_law_random", defArgs s__law_random, defBody s__law_random, defScope s__law_random, [], []⟩⟩, ⟨fun K => (He.ga K "_law_below"), ⟨("_law_below", none), "_law_below", "_law_below", defArgs s__law_below, defBody s__law_below, defScope s__law_below, [], []⟩⟩, ⟨fun K => (He.ga K "_law_pattern"), ⟨("_law_pattern", none), "_law_pattern", "_law_pattern", defArgs s__law_pattern, defBody s__law_pattern, defScope s__law_pattern, [], []⟩⟩, ⟨fun K => (He.ga K "_law_small"), ⟨("_law_small", none), "_law_small", "_law_small", defArgs s__law_small, defBody s__law_small, defScope s__law_small, [], []⟩⟩, ⟨fun K => (He.ga K "_law_hall"), ⟨("_law_hall", none), "_law_hall", "_law_hall", defArgs s__law_hall, defBody s__law_hall, defScope s__law_hall, [], []⟩⟩, ⟨fun K => (He.ga K "_law_length"), ⟨("_law_length", none), "_law_length", "_law_length", defArgs s__law_length, defBody s__law_length, defScope s__law_length, [], []⟩⟩, ⟨fun K => (He.ga K "_law_counts"), ⟨("_law_counts", none), "_law_counts", "_law_counts", defArgs s__law_counts, defBody s__law_counts, defScope s__law_counts, [], []⟩⟩, ⟨fun K => (He.ga K "_law_equal"), ⟨("_law_equal", none), "_law_equal", "_law_equal", defArgs s__law_equal, defBody s__law_equal, defScope s__law_equal, [], []⟩⟩, ⟨fun K => (He.ga K "_law_opens"), ⟨("_law_opens", none), "_law_opens", "_law_opens", defArgs s__law_opens, defBody s__law_opens, defScope s__law_opens, [], []⟩⟩, ⟨fun K => (He.ga K "_law_most"), ⟨("_law_most", none), "_law_most", "_law_most", defArgs s__law_most, defBody s__law_most, defScope s__law_most, [], []⟩⟩, ⟨fun K => (He.ga K "law"), ⟨("law", none), "law", "law", defArgs s_law, defBody s_law, defScope s_law, [], []⟩⟩]
def names : List PySem.Str := (["_wall", "HallError", "InvalidHall", "InvalidTick", "InvalidNumber", "LAST_TICK", "is_integer_within", "check_tick", "LAST_NUMBER", "tick_of", "tick_of_take", "tick_of_call"] : List PySem.Str) ++ (["ticket_times", "display", "longest_wait", "LEAST_MODULUS", "GREATEST_MODULUS", "MOST_ITEMS", "GREATEST_ITEM", "GREATEST_LATENESS", "first_invalid_item", "check_pattern", "check_hall", "count_calls"] : List PySem.Str) ++ (["Hall", "_law_random", "_law_below", "_law_pattern", "_law_small", "_law_hall", "_law_length", "_law_counts", "_law_equal", "_law_opens", "_law_most"] : List PySem.Str)
abbrev R : PySem.W.OpenRow := PySem.W.OpenLaw.row PySem.Challenge.rw_ticketwrap_k04_times_of_tickets
def mkl : List (Mk_ × Str) := [(fun K => (He.ga K "tick_of_take"), "tick_of_take"), (fun K => (He.ga K "tick_of_call"), "tick_of_call")]
abbrev mks : List Mk_ := mkl.map fun p => p.1
abbrev hk : PySem.W.Hook := hook 6 fcts dps mks
def ob (s : PySem.W.SharedT) : AlX := obsG 6 fcts dps mks (HeadRun.getT s)
theorem ob_eq (s : PySem.W.SharedT) : ob s = hk.obs s.abs := obsG_eq (HeadRun.getT_eq s)
def lawI : Nat := 41
end Tk
namespace Tk
open PySem PySem.Spec PyProof.Rows L2
theorem run (w : World) : HeadRun.RunEqI R (PySem.W.view R.prog [0, 41]) hk ob 20000 names w := by
  unfold HeadRun.RunEqI
  kernel_rfl
theorem txt {K : PySem.W.Frag} {h : Heap} {mg : Str → Option Value} (X : K.In h) (G : h.Ns mainGlobals mg) (c : Says fcts dps K) : Txt K mg where
  g_abs := He.free_ok X G (c.fact 0 rfl)
  g_all := He.free_ok X G (c.fact 1 rfl)
  g_bool := He.free_ok X G (c.fact 2 rfl)
  g_divmod := He.free_ok X G (c.fact 3 rfl)
  g_enumerate := He.free_ok X G (c.fact 4 rfl)
  g_int := He.free_ok X G (c.fact 5 rfl)
  g_isinstance := He.free_ok X G (c.fact 6 rfl)
  g_len := He.free_ok X G (c.fact 7 rfl)
  g_list := He.free_ok X G (c.fact 8 rfl)
  g_max := He.free_ok X G (c.fact 9 rfl)
  g_min := He.free_ok X G (c.fact 10 rfl)
  g_range := He.free_ok X G (c.fact 11 rfl)
  g_str := He.free_ok X G (c.fact 12 rfl)
  g_sum := He.free_ok X G (c.fact 13 rfl)
  g_tuple := He.free_ok X G (c.fact 14 rfl)
  g_lcm := blt_ok X G (c.fact 15 rfl)
  c_LAST_TICK := He.int_ok X G (c.fact 16 rfl)
  c_LAST_NUMBER := He.int_ok X G (c.fact 17 rfl)
  c_LEAST_MODULUS := He.int_ok X G (c.fact 18 rfl)
  c_GREATEST_MODULUS := He.int_ok X G (c.fact 19 rfl)
  c_MOST_ITEMS := He.int_ok X G (c.fact 20 rfl)
  c_GREATEST_ITEM := He.int_ok X G (c.fact 21 rfl)
  c_GREATEST_LATENESS := He.int_ok X G (c.fact 22 rfl)
  g_is_integer_within := He.glo_ok X G (c.fact 23 rfl)
  g_check_tick := He.glo_ok X G (c.fact 24 rfl)
  g_tick_of := He.glo_ok X G (c.fact 25 rfl)
  g_tick_of_take := He.glo_ok X G (c.fact 26 rfl)
  g_tick_of_call := He.glo_ok X G (c.fact 27 rfl)
  g_ticket_times := He.glo_ok X G (c.fact 28 rfl)
  g_display := He.glo_ok X G (c.fact 29 rfl)
  g_longest_wait := He.glo_ok X G (c.fact 30 rfl)
  g_first_invalid_item := He.glo_ok X G (c.fact 31 rfl)
  g_check_pattern := He.glo_ok X G (c.fact 32 rfl)
  g_check_hall := He.glo_ok X G (c.fact 33 rfl)
  g_count_calls := He.glo_ok X G (c.fact 34 rfl)
  g__law_random := He.glo_ok X G (c.fact 35 rfl)
  g__law_below := He.glo_ok X G (c.fact 36 rfl)
  g__law_pattern := He.glo_ok X G (c.fact 37 rfl)
  g__law_small := He.glo_ok X G (c.fact 38 rfl)
  g__law_hall := He.glo_ok X G (c.fact 39 rfl)
  g__law_length := He.glo_ok X G (c.fact 40 rfl)
  g__law_counts := He.glo_ok X G (c.fact 41 rfl)
  g__law_equal := He.glo_ok X G (c.fact 42 rfl)
  g__law_opens := He.glo_ok X G (c.fact 43 rfl)
  g__law_most := He.glo_ok X G (c.fact 44 rfl)
  g_Hall := He.glo_ok X G (c.fact 45 rfl)
  cl_Hall := He.cls_ok (c.fact 46 rfl)
  mk_Hall := He.mkr_ok (c.fact 47 rfl)
  n_modulus := He.noat_ok (c.fact 48 rfl)
  n_takes := He.noat_ok (c.fact 49 rfl)
  n_calls := He.noat_ok (c.fact 50 rfl)
  n_lateness := He.noat_ok (c.fact 51 rfl)
  n__called := He.noat_ok (c.fact 52 rfl)
  m_taken := He.meth_ok (c.fact 53 rfl)
  m_called := He.meth_ok (c.fact 54 rfl)
  m_waiting := He.meth_ok (c.fact 55 rfl)
  p_period := prop_ok (c.fact 56 rfl)
  p_growth := prop_ok (c.fact 57 rfl)
  f_is_integer_within := (c.def_ 0 rfl).1
  f_check_tick := (c.def_ 1 rfl).1
  f_tick_of := (c.def_ 2 rfl).1
  f_tick_of_take := (c.def_ 3 rfl).1
  f_tick_of_call := (c.def_ 4 rfl).1
  f_ticket_times := (c.def_ 5 rfl).1
  f_display := (c.def_ 6 rfl).1
  f_longest_wait := (c.def_ 7 rfl).1
  f_first_invalid_item := (c.def_ 8 rfl).1
  f_check_pattern := (c.def_ 9 rfl).1
  f_check_hall := (c.def_ 10 rfl).1
  f_count_calls := (c.def_ 11 rfl).1
  f_init := (c.def_ 12 rfl).1
  f_period := (c.def_ 13 rfl).1
  f_growth := (c.def_ 14 rfl).1
  f_taken := (c.def_ 15 rfl).1
  f_called := (c.def_ 16 rfl).1
  f_waiting := (c.def_ 17 rfl).1
  f__law_random := (c.def_ 18 rfl).1
  f__law_below := (c.def_ 19 rfl).1
  f__law_pattern := (c.def_ 20 rfl).1
  f__law_small := (c.def_ 21 rfl).1
  f__law_hall := (c.def_ 22 rfl).1
  f__law_length := (c.def_ 23 rfl).1
  f__law_counts := (c.def_ 24 rfl).1
  f__law_equal := (c.def_ 25 rfl).1
  f__law_opens := (c.def_ 26 rfl).1
  f__law_most := (c.def_ 27 rfl).1
theorem law_fn {K : PySem.W.Frag} (c : Says fcts dps K) : ∃ fd, FnP K "law" "law" s_law (He.ga K "law") fd := (c.def_ 28 rfl).1
end Tk
/-! ### A lambda of one parameter, handed to a def with two more arguments -/
namespace Tk
open PySem PySem.Spec PyProof.Rows L2 LamX
/-- one parameter a, else captured names and globals -/
structure LamP (sc scope : Scope) (a : Str) : Prop where
  kd : scope.kind = .function
  co : scope.isCoroutine = false
  gen : scope.isGenerator = false
  par : scope.names.lookup a = some .local
  own : ∀ y ∈ scope.names, (y.2 = .local → y.1 = a) ∧ y.2 ≠ .cell
  fre : ∀ y ∈ scope.names, y.2 = .free → sc.names.lookup y.1 = some .cell ∨ sc.names.lookup y.1 = some .free
def lamPB (sc scope : Scope) (a : Str) : Bool :=
  decide (scope.kind = .function) && (!scope.isCoroutine && (!scope.isGenerator && (decide (scope.names.lookup a = some .local) && scope.names.all fun y => (!decide (y.2 = .local) || decide (y.1 = a)) && (!decide (y.2 = .cell) && (!decide (y.2 = .free) || (decide (sc.names.lookup y.1 = some .cell) || decide (sc.names.lookup y.1 = some .free)))))))
theorem lamP_by {sc scope : Scope} {a : Str} (h : lamPB sc scope a = true) : LamP sc scope a := by
  unfold lamPB at h
  simp only [Bool.and_eq_true, Bool.or_eq_true, Bool.not_eq_true', decide_eq_true_eq, decide_eq_false_iff_not, List.all_eq_true] at h
  obtain ⟨h1, h2, h3, h4, h5⟩ := h
  refine ⟨h1, h2, h3, h4, fun y hy => ⟨fun e => ?_, (h5 y hy).2.1⟩, fun y hy e => ?_⟩
  · rcases (h5 y hy).1 with z | z
    · exact absurd e z
    · exact z
  · rcases (h5 y hy).2.2 with z | z
    · exact absurd e z
    · exact z
/-- the context of its body: the maker's names, then the parameter -/
def lamCxP (X : Cx) (a : Str) (A : Around) (outer : List Env) (s : Shared) (H : Hp) (scope : Scope) (f c' : Addr) : Cx := { lamCx X A outer s H E0 scope f c' with N := X.N ++ [a] }
section
variable {X : Cx} {pins : List (Addr × Obj)} {σ : L2.St} {H HZ : Hp} {s s1 : Shared}
theorem lamP_start {a : Str} {y : V} {v : Value} {A : Around} {outer : List Env} {scope : Scope} {f c' : Addr} {h₁ : Heap} {tk : Nat} (I : Inv X pins σ H s) (L : LamP X.env.scope scope a) (hna : a ∉ X.N) (e0 : Env0 X.prog X.w X.K X.mg X.base A outer s1 HZ) (hd : A.handled = none)
    (un : Un (frs X.stack) [] H HZ s.heap s1.heap) (ry : RelV y v) (hns : h₁.Ns s1.heap.objs.size fun x => ([(a, v)] : List (Str × Value)).reverse.lookup x) (kp : ∀ b o, s1.heap.get? b = some o → h₁.get? b = some o) :
    Inv (lamCxP X a A outer s1 HZ scope f c') [] (σ ++ [some y]) HZ { s1 with heap := h₁, toks := tk } := by
  have frs0 : ∀ q ∈ scope.names, q.2 = .free → ∃ c, X.env.cells.lookup q.1 = some c := fun q hq e => (L.fre q hq e).elim (fun z => I.ok.has _ (.inl z)) fun z => I.ok.has _ (.inr z)
  have up : ∀ {q c}, (cloFrom X.env.cells scope.names []).lookup q = some c → X.env.cells.lookup q = some c := fun {q c} e => by
    rcases cloFrom_mem (PySem.mem_of_lookup e) with hm | ⟨z1, z2⟩
    · cases hm
    · obtain ⟨d, hdd⟩ := frs0 _ z1 rfl
      have hdd : X.env.cells.lookup q = some d := hdd
      have : c = d := by rw [z2, hdd] <;> rfl
      rw [this]
      exact hdd
  have has : ∀ {q}, scope.names.lookup q = some .free → ∃ c, (cloFrom X.env.cells scope.names []).lookup q = some c := fun {q} hl => mem_lookup (cloFrom_has (cells := X.env.cells) (acc := []) (PySem.mem_of_lookup hl))
  have cl : ∀ {c : Addr} {u : Option Value}, H c = none → s.heap.IsCell c u → h₁.IsCell c u := fun {c u} n ⟨o, ho, hdt⟩ => by
    obtain ⟨sl, z⟩ := un.any ho n (by simp)
    exact ⟨_, kp _ _ z, hdt⟩
  have none0 : ∀ b : Addr, b ∉ (lamCxP X a A outer s1 HZ scope f c').ex := fun b z => by cases (show b ∈ ([] : List Addr) from z)
  refine ⟨⟨e0.mod, L.kd, rfl, rfl, Nat.le_refl _, fun p q c e1 e2 => I.ok.inj p q c (up e1) (up e2), fun q hq => ?_, fun q c z _ => ?_, fun _ => hd, Around.frames_deeper e0.frames, .inr ⟨rfl, rfl⟩, fun b z => absurd z (none0 b), e0.bs, e0.bsz, fun b _ _ => none0 b,
      fun b z => absurd z (none0 b), e0.funs, e0.frf⟩,
    rfl, e0.bare, Un.kept kp, ⟨_, hns, fun i q u e1 e2 e3 => ?_⟩, fun q c e => ?_, e0.hok.fresh (Nat.le_refl _), fun q c e => ?_, fun q hq => absurd (show q ∈ ([] : List (Addr × Obj)) ++ [] from hq) (by simp), e0.hok.kept kp, ?_⟩
  · rcases (show scope.names.lookup q = some .cell ∨ scope.names.lookup q = some .free from hq) with z | z
    · exact absurd rfl (L.own _ (PySem.mem_of_lookup z)).2
    · exact has z
  · cases (show false = true from z)
  · have e1 : (X.N ++ [a])[i]? = some q := e1
    have e3 : Vis scope q := e3
    have hlen := I.len
    rcases Nat.lt_or_ge i X.N.length with lt | ge
    · rw [List.getElem?_append_left lt] at e1
      rw [List.getElem?_append_left (by rw [hlen]; exact lt)] at e2
      have qn : q ≠ a := fun z => hna (by rw [← z]; exact List.mem_of_getElem? e1)
      have kf : scope.names.lookup q = some .free := by
        rcases e3 with z | z | z
        · exact absurd ((L.own _ (PySem.mem_of_lookup z)).1 rfl) qn
        · exact absurd rfl (L.own _ (PySem.mem_of_lookup z)).2
        · exact z
      obtain ⟨m, _, hl⟩ := I.loc
      have vis : Vis X.env.scope q := (L.fre _ (PySem.mem_of_lookup kf) rfl).elim (fun z => .inr (.inl z)) fun z => .inr (.inr z)
      obtain ⟨w', r, z⟩ := hl i q u e1 e2 vis
      obtain ⟨d, hd2⟩ := has kf
      refine ⟨w', r, .inr ⟨.inr kf, d, hd2, ?_⟩⟩
      rcases z with ⟨z, _⟩ | ⟨_, c3, z1, z2⟩
      · have z : X.env.scope.names.lookup q = some .local := z
        rcases L.fre _ (PySem.mem_of_lookup kf) rfl with k2 | k2 <;> rw [show X.env.scope.names.lookup q = _ from k2] at z <;> cases z
      · rw [up hd2] at z1
        cases z1
        exact cl (I.freeC q _ (up hd2)) z2
    · have hi : i = X.N.length := by
        have := (List.getElem?_eq_some_iff.mp e1).1
        rw [List.length_append] at this
        have : i < X.N.length + 1 := this
        omega
      subst hi
      rw [List.getElem?_append_right (Nat.le_refl _), Nat.sub_self] at e1
      rw [List.getElem?_append_right (by rw [hlen]; exact Nat.le_refl _), hlen, Nat.sub_self] at e2
      obtain rfl : a = q := Option.some.inj e1
      have eu : some y = some u := Option.some.inj e2
      cases eu
      refine ⟨v, ry, .inl ⟨L.par, ?_⟩⟩
      show (match a == a with | true => some v | false => _) = some v
      rw [beq_self_eq_true]
  · obtain ⟨u, z⟩ := I.cell q c (up e)
    exact ⟨u, cl (I.freeC q c (up e)) z⟩
  · obtain ⟨u, o, ho, _⟩ := I.cell q c (up e)
    exact un.free c o ho (I.freeC q c (up e)) (by simp)
  · show (σ ++ [some y]).length = (X.N ++ [a]).length
    rw [List.length_append, List.length_append, I.len]
    rfl
/-- b(e), in the def that got the lambda -/
theorem pe_act1 {Eg : XK} {Ng : List Str} {qg : Str} {sg : Scope} {g f c' : Addr} {cdg pm ctv : Value} {params : Arguments} {body : Expr} {scope : Scope} {k i : Nat} {a b : Str} {tb : TE} {p1 p2 : Pos} {e : Expr} {te : TA}
    (I : Inv X pins σ H s) (L : LamP X.env.scope scope a) (hna : a ∉ X.N) (hf : s.heap.get? f = some (PySem.W.kla_obj "<lambda>" (X.env.qual ++ "<lambda>") params body scope (cloFrom X.env.cells scope.names []) pm c' ctv)) (hfn : H f = none) (hfr : f ∉ frs X.stack)
    (hbind : ∀ v, bindArgs (PySem.W.kla_fn "<lambda>" (X.env.qual ++ "<lambda>") params body scope (cloFrom X.env.cells scope.names []) pm (.ref c') ctv) ⟨[v], []⟩ = pure [(a, v)])
    (hr : Room (k + 1) (X.A.deeper (envOfC qg sg s.heap.objs.size g cdg))) (hbody : ∀ (A : Around) (outer : List Env) (s : Shared) (H : Hp), Room k (A.deeper (lamEnv X scope s.heap.objs.size f c')) → PE (lamCxP X a A outer s H scope f c') body tb)
    (hN : Ng[i]? = some b) (hv : Vis sg b) (ha : PA (cxOf (L2.CX X.prog X.w) X.prog X.w X.K X.mg X.base Ng qg sg g cdg X.A X.stack s H Eg) [e] te)
    (he : starEach [e] (cxOf (L2.CX X.prog X.w) X.prog X.w X.K X.mg X.base Ng qg sg g cdg X.A X.stack s H Eg).env = (false, eval e (cxOf (L2.CX X.prog X.w) X.prog X.w X.K X.mg X.base Ng qg sg g cdg X.A X.stack s H Eg).env) :: starEach [] (cxOf (L2.CX X.prog X.w) X.prog X.w X.K X.mg X.base Ng qg sg g cdg X.A X.stack s H Eg).env)
    (hd : (b == ("__debug__" : Str)) = false := by decide) (hcd : (b == ("__classdict__" : Str)) = false := by decide) :
    PE (cxOf (L2.CX X.prog X.w) X.prog X.w X.K X.mg X.base Ng qg sg g cdg X.A X.stack s H Eg) (.Call (.Name b p1) [e] [] p2)
      (fun σZ HZ Q => σZ[i]? = some (some (.ref f)) ∧ te σZ HZ fun vs HZ1 => ∃ y, vs = [y] ∧ HZ1 c' = some (CodeO c' (X.env.qual ++ "<lambda>")) ∧ tb (σ ++ [some y]) HZ1 Q) := by
  refine ⟨fun pinsZ sZ σZ HZ Q IZ h => ?_⟩
  obtain ⟨hs, ht⟩ := h
  refine wpAny_Call_Name_kw (thn ((pe_var (pos := p1) (i := i) hN hv hd hcd).run pinsZ sZ σZ HZ (fun v H1 => v = .ref f ∧ H1 = HZ) IZ ⟨.ref f, hs, rfl, rfl⟩) fun u0 s1 z => ?_)
  obtain ⟨v0, H1, I1, r1, rfl, rfl⟩ := z
  obtain rfl : u0 = Value.ref f := r1
  have there : ∀ {s2 : Shared} {σ2 : L2.St} {H2 : Hp}, Inv (cxOf (L2.CX X.prog X.w) X.prog X.w X.K X.mg X.base Ng qg sg g cdg X.A X.stack s H Eg) pinsZ σ2 H2 s2 → s2.heap.get? f = some (PySem.W.kla_obj "<lambda>" (X.env.qual ++ "<lambda>") params body scope (cloFrom X.env.cells scope.names []) pm c' ctv) :=
    fun I2 => I2.base.keep f _ hf hfn hfr (fun z => nomatch (show f ∈ ([] : List Addr) from z))
  refine PySem.W.callWith_F ⟨_, _, _, _, there I1⟩ (thn (ha.run p2 pinsZ s1 σZ _ _ I1 ht) fun us s2 z => ?_) he (by rfl)
  obtain ⟨vs, H2, I2, rv, y, rfl, hc, htb⟩ := z
  have of2 := there I2
  refine ⟨⟨_, _, _, _, of2⟩, ?_⟩
  cases rv with
  | @cons _ u _ _ ry rn =>
  cases rn
  have un : Un (frs X.stack) [] H H2 s.heap s2.heap := I2.base
  obtain ⟨⟨oc, vs, t, hoc, hdc, hvc⟩, _, _⟩ := I2.hok c' _ hc
  have rc : codeAny (model X.prog X.w) (X.A.deeper (envOfC qg sg s.heap.objs.size g cdg)) (.call (.ref f) ⟨[u], []⟩) (CR (L2.CX X.prog X.w) (envOfC qg sg s.heap.objs.size g cdg :: X.stack) X.prog X.w H2 s2 Q E0) s2 := by
    refine PySem.W.kla_callFunE hr.depth of2 rfl L.co L.gen rfl ⟨c', oc, vs, t, rfl, hoc, hdc, hvc⟩ ?_
    rw [hbind]
    refine wpAny_pure (wpAny_newFunctionEnv (fun y hy => (L.own y hy).2) (fun q hq => ?_) (fun h₁ hns hsb => ⟨I2.nolimit.fresh _ hsb, ?_⟩) L.kd)
    · rw [List.mem_singleton.mp hq]
      exact L.par
    · have kp : ∀ b o, s2.heap.get? b = some o → h₁.get? b = some o := fun b o z => hsb.extBut b o (Nat.ne_of_lt (Heap.lt_size z)) (Heap.get?_push_of_some _ z)
      have J := lamP_start (f := f) (c' := c') (tk := s2.toks + ([(a, u)] : List (Str × Value)).length) I L hna I2.env0 hr.hd un ry hns kp
      refine PySem.W.kla_codeExpr (wpAny_mono ((hbody _ _ s2 H2 (hr.deeper _)).run [] _ _ H2 Q J htb) (fun v s' z => ?_) fun er s' z => z)
      obtain ⟨w', H', J', rv', q'⟩ := z
      exact ⟨w', H', J'.os, J'.bare, J'.base, J'.hok, rv', q'⟩
  refine wpAny_call (codeAny_mono rc fun r s' z => ?_)
  cases r with
  | error er => exact (passL (X := cxOf (L2.CX X.prog X.w) X.prog X.w X.K X.mg X.base Ng qg sg g cdg X.A X.stack s H Eg) pinsZ σZ H2 s2 er s' I2 z)
  | ok fl =>
    cases fl with
    | ret u' => exact I2.after z
    | next => exact False.elim z
    | brk => exact False.elim z
    | cont => exact False.elim z
end
end Tk

/-! ### x(lambda a: body, e, ..) by the body of x -/
namespace Tk
open PySem PySem.Spec PyProof.Rows L2 LamX
/-- a def that makes a function, its code object known -/
theorem FnP.okFc {P : Program} {w : World} {K : PySem.W.Frag} {mg : Str → Option Value} {base : Heap} {x qual : Str} {st : Stmt} {f : Addr} {N ps : List Str} {k : Nat} {sp : Sp} (F : ∃ fd, FnP K x qual st f fd) (S : FnScope N ps (defScope st))
    (hb : ∀ (kV doc pm : Value) (an : Option Addr) (cdv ct : Value) (us : List Value), us.length = ps.length → bindArgs (PySem.W.fnOf x qual (defArgs st) (defBody st) (defScope st) .none kV doc pm an cdv ct) ⟨us, []⟩ = pure (ps.zip us))
    (len : ∀ vs H Q E, sp vs H Q E → vs.length = ps.length)
    (hbody : ∀ (cdv : Value) (A : Around) (outer : List Env) (s : Shared) (H : Hp) (vs : List V) (Q : VK) (E : XK), cdv = .ref (codeAt K f) → Room k (A.deeper (envOfC qual (defScope st) s.heap.objs.size f cdv)) → sp vs H Q E →
      ∃ t, PSs (cxOf (L2.CX P w) P w K mg base N qual (defScope st) f cdv A outer s H E) (defBody st) t ∧ t { nx := fun _ H' => Q .non H', rt := Q } (start N vs) H) : OkF P w K mg base (k + 1) f ps sp := by
  obtain ⟨fd, F⟩ := F
  have hB := F.bindsN hb
  have kp := F.kp
  obtain ⟨oc, od, dV, kV, doc, pm, an, cdv, ct, osl, rfl, lk, hcd, _, _⟩ := F.ex
  exact ⟨⟨_, fn_of lk hcd S len fun A outer s H vs Q E hr hsp => hbody cdv A outer s H vs Q E (codeAt_eq lk rfl hcd) hr hsp, hB⟩, kp⟩
/-- the running def's code object has a table of T, under the name of its functions -/
def TabX (X : Cx) (T : List (Addr × Str)) : Prop := ∃ c P, TabB X.base X.mg c P ∧ X.env.code = .ref c ∧ (P, X.env.qual ++ "<lambda>") ∈ T ∧ ∀ p ∈ T, p.1 = P → p.2 = X.env.qual ++ "<lambda>"
/-- the context of the def that got the function -/
abbrev cxG (X : Cx) (Ng : List Str) (x : Str) (stg : Stmt) (g : Addr) (cdg : Value) (s : Shared) (H : Hp) : Cx := cxOf (L2.CX X.prog X.w) X.prog X.w X.K X.mg X.base Ng x (defScope stg) g cdg X.A X.stack s H E0
/-- the calls of the function that stands in the first slot -/
def Acts (Z : Cx) (b : Str) (f c' : Addr) (q : Str) (tl : V → Hp → VK → Prop) : Prop :=
  ∀ (e : Expr) (te : TA) (p1 p2 : Pos), PA Z [e] te → starEach [e] Z.env = (false, eval e Z.env) :: starEach [] Z.env →
    PE Z (.Call (.Name b p1) [e] [] p2) (fun σZ HZ Q => σZ[0]? = some (some (.ref f)) ∧ te σZ HZ fun vs HZ1 => ∃ y, vs = [y] ∧ HZ1 c' = some (CodeO c' q) ∧ tl y HZ1 Q)
def tLamN (T : List (Addr × Str)) (q : Str) (n : Nat) (ta : TA) (tb : TE) (TT : Addr → (V → Hp → VK → Prop) → List V → Hp → VK → Prop) : TE := fun σ H Q =>
  Tabs T H ∧ ∀ c' H1, ExtN H H1 → Tabs T H1 → H1 c' = some (CodeO c' q) → ta σ H1 fun ys H2 => ys.length + 1 = n ∧ TT c' (fun y H' Q' => tb (σ ++ [some y]) H' Q') ys H2 Q
theorem pe_lamcallN {X : Cx} {T : List (Addr × Str)} {x a b : Str} {g : Addr} {k : Nat} {stg : Stmt} {Ng ps : List Str} {params : Arguments} {body : Expr} {scope : Scope} {es : List Expr} {ta : TA} {tb : TE} {TT : Addr → (V → Hp → VK → Prop) → List V → Hp → VK → Prop} {p lpos pos : Pos}
    (hg : Gl X x) (hm : X.mg x = some (.ref g)) (Fg : ∃ fd, FnP X.K x x stg g fd) (Sg : FnScope Ng ps (defScope stg))
    (hbg : ∀ (kV doc pm : Value) (an : Option Addr) (cdv ct : Value) (us : List Value), us.length = ps.length → bindArgs (PySem.W.fnOf x x (defArgs stg) (defBody stg) (defScope stg) .none kV doc pm an cdv ct) ⟨us, []⟩ = pure (ps.zip us))
    (hG : ∀ (cdg : Value) (f c' : Addr) (s : Shared) (H : Hp) (ys : List V) (Q : VK) (tl : V → Hp → VK → Prop), Acts (cxG X Ng x stg g cdg s H) b f c' (X.env.qual ++ "<lambda>") tl → TT c' tl ys H Q →
      ∃ t, PSs (cxG X Ng x stg g cdg s H) (defBody stg) t ∧ t { nx := fun _ H' => Q .non H', rt := Q } (L2.start Ng (.ref f :: ys)) H)
    (tx : TabX X T) (hr : Room (k + 2) X.A) (L : LamP X.env.scope scope a) (hna : a ∉ X.N) (hdef : defaultsOf params X.env = ([], []))
    (hbind : ∀ (q : Str) (cl : List (Str × Addr)) (pm cv ctv : Value) (v : Value), bindArgs (PySem.W.kla_fn "<lambda>" q params body scope cl pm cv ctv) ⟨[v], []⟩ = pure [(a, v)])
    (hbody : ∀ (A : Around) (outer : List Env) (s : Shared) (H : Hp) (f c' : Addr), Room k (A.deeper (lamEnv X scope s.heap.objs.size f c')) → PE (lamCxP X a A outer s H scope f c') body tb) (ha : PA X es ta)
    (hN : Ng[0]? = some b := by rfl) (hv : Vis (defScope stg) b := by first | exact .inl rfl | exact .inl (by decide +kernel)) (hdb : (x == ("__debug__" : Str)) = false := by decide) (hd : (b == ("__debug__" : Str)) = false := by decide) (hcd0 : (b == ("__classdict__" : Str)) = false := by decide)
    (he : starEach (.Lambda params body scope lpos :: es) X.env = (false, eval (.Lambda params body scope lpos) X.env) :: starEach es X.env := by rfl) (hpl : (backTo pos (starEach es X.env)).any (·.1) = false := by rfl) (hst : frs X.stack = X.env.locals :: X.fs := by rfl) :
    PE X (.Call (.Name x p) (.Lambda params body scope lpos :: es) [] pos) (tLamN T (X.env.qual ++ "<lambda>") ps.length ta tb TT) := by
  refine ⟨fun pins s σ H Q I h => ?_⟩
  obtain ⟨hT, h⟩ := h
  obtain ⟨c, P, TB, hcode, hmT, hu⟩ := tx
  obtain ⟨fd, Fg⟩ := Fg
  have hB := Fg.bindsN hbg
  have kp := Fg.kp
  obtain ⟨oc, od, dV, kV, doc, pm, an, cdv, ct, osl, rfl, lk, hcd, _, _⟩ := Fg.ex
  refine wpAny_Call_Name_kw (ld_glob I hg hm ?_ hdb)
  refine PySem.W.callWith_K (h₀ := X.base) I.ok.mod.kin kp ?_ he hpl
  rw [he]
  show wpAny _ _ (spliced ((false, eval (.Lambda params body scope lpos) X.env) :: backTo pos (starEach es X.env))) _ _ s
  have hfree : ∀ y ∈ scope.names, y.2 = .free → ∃ c, X.env.cells.lookup y.1 = some c := fun y hy e => (L.fre y hy e).elim (fun z => I.ok.has _ (.inl z)) fun z => I.ok.has _ (.inr z)
  refine Calls.spliced_cons (lam_make2 I TB hcode hmT hu hT hdef hfree fun f c' pm' ctv H1 s' I1 eN T1 hf hfn hfr hco => ?_)
  have hfl : f ≠ X.env.locals ∧ f ∉ X.fs := by
    rw [hst] at hfr
    exact ⟨fun z => hfr (List.mem_cons.mpr (.inl z)), fun z => hfr (List.mem_cons.mpr (.inr z))⟩
  have I1p : Inv X ((f, PySem.W.kla_obj "<lambda>" (X.env.qual ++ "<lambda>") params body scope (cloFrom X.env.cells scope.names []) pm' c' ctv) :: pins) σ H1 s' := I1.pins_of fun q hq => by
    rcases List.mem_cons.mp hq with e | e
    · subst e
      exact ⟨hf, hfn, hfl.1, hfl.2, fun v z => by cases z⟩
    · exact I1.pin q (List.mem_append_right _ e)
  refine thn (ha.run pos _ s' σ H1 _ I1p (h c' H1 eN T1 hco)) fun us s2 ⟨ys, H2, I2, rv, hlen, q2⟩ => ?_
  have hp2 := I2.pin (f, PySem.W.kla_obj "<lambda>" (X.env.qual ++ "<lambda>") params body scope (cloFrom X.env.cells scope.names []) pm' c' ctv) (List.mem_append_right _ (List.mem_cons_self ..))
  have J : Inv X pins σ H2 s2 := I2.pins_of fun q hq => I2.pin q (List.mem_append_right _ (List.mem_cons_of_mem _ hq))
  refine ⟨J.kIn, ?_⟩
  have hl2 : us.length = ys.length := rv.length.symm
  have rc : codeAny (model X.prog X.w) X.A (.call (.ref g) ⟨.ref f :: us, []⟩) (CR (L2.CX X.prog X.w) X.stack X.prog X.w H2 s2 Q E0) s2 := by
    refine run_ofS (N := Ng) (ps := ps) (us := .ref f :: us) (vs := .ref f :: ys) lk hcd Sg (hr.mono (Nat.le_refl _)) J.env0 (by simpa using hB s2 (.ref f :: us) J.kIn (by simp; omega)) (.cons rfl rv) (by simp; omega) fun hr' => ?_
    exact hG cdv f c' s2 H2 ys Q _ (fun e te p1 p2 pe hst' => pe_act1 (i := 0) J L hna hp2.1 hp2.2.1 hfr (hbind _ _ _ _ _) hr' (fun A outer s H hr2 => hbody A outer s H f c' hr2) hN hv pe hst' hd hcd0) q2
  refine wpAny_call (codeAny_mono rc fun r s3 hq => ?_)
  cases r with
  | error e => exact passL pins σ H2 s2 e s3 J hq
  | ok fl =>
    cases fl with
    | ret u => exact J.after hq
    | next => exact False.elim hq
    | brk => exact False.elim hq
    | cont => exact False.elim hq
end Tk

/-! ### The source of numbers -/
namespace Tk
open PySem PySem.Spec PyProof.Rows L2
/-- what the list of the source holds -/
def DSt (cs : List V) : Prop := ∃ (s g : Int) (ns : List Int), cs = V.int s :: V.int g :: ns.map V.int ∧ 0 ≤ s ∧ s < 2147483647 ∧ 0 ≤ g ∧ (∀ n ∈ ns, (0 : Int) ≤ n) ∧ ns.length ≤ 63
def spRandom (K : PySem.W.Frag) : Sp := fun vs H Q _ => ∃ (a : Addr) (ns : List Int) (salt : Int), vs = [.ref a, .int salt] ∧ SqL K H a (ns.map V.int) ∧ ns.length ≤ 63 ∧ 0 ≤ salt ∧ salt < 1000 ∧
  ∀ (d : Addr) (cs : List V) (H' : Hp), H d = none → Same H H' → H' d = some (.lst cs) → DSt cs → Q (.ref d) H'
def spBelow : Sp := fun vs H Q _ => ∃ (d : Addr) (lim : Int) (cs : List V), vs = [.ref d, .int lim] ∧ 0 < lim ∧ lim < 1073741824 ∧ H d = some (.lst cs) ∧ DSt cs ∧
  ∀ (r : Int) (cs' : List V), 0 ≤ r → r < lim → DSt cs' → Q (.int r) (upd H d (.lst cs'))
theorem int_at {ns : List Int} {i : Nat} {y : V} (h : (ns.map V.int)[i]? = some y) : ∃ u, y = V.int u ∧ ns[i]? = some u := by
  rw [List.getElem?_map] at h
  cases e : ns[i]? with
  | none => rw [e] at h; cases h
  | some u => rw [e] at h; exact ⟨u, (Option.some.inj h).symm, rfl⟩
theorem ixn {n i : Nat} (h : i < n) : ixN n (i : Int) = some i := by
  unfold ixN
  rw [if_pos (by omega), if_pos (by omega)]
  simp
theorem atn {xs : List V} {i : Nat} {x : V} (h : xs[i]? = some x) : atI xs (i : Int) = some x := by
  unfold atI
  rw [ixn (List.getElem?_eq_some_iff.mp h).1]
  exact h
section
variable {P : Program} {w : World} {K : PySem.W.Frag} {mg : Str → Option Value} {base : Heap}
theorem ok__law_random (T : Txt K mg) : OkF P w K mg base 1 (He.ga K "_law_random") ["_law_script", "_law_salt"] (spRandom K) := by
  refine FnP.okF T.f__law_random sc__law_random (fun _ _ _ _ _ _ us hl => match us, hl with | [_, _], _ => rfl) (fun vs H Q E h => ?_) (fun cdv A outer s H vs Q E hr h => ?_)
  · obtain ⟨a, ns, salt, rfl, _⟩ := h
    rfl
  obtain ⟨a, ns, salt, rfl, hS, hlen, h0, h1, k⟩ := h
  refine ⟨_, (pss_cons (ps_set (i := 2) sc__law_random.nd rfl (Or.inl rfl) (pv 1))
    (pss_cons (ps_for own_cx rfl (pi_listK (K := K) (pv 0)) (pg_name (i := 3) sc__law_random.nd rfl (Or.inl rfl))
      (pss_one (ps_set (i := 2) sc__law_random.nd rfl (Or.inl rfl) (pe_op op_mod (pe_op op_add (pe_op op_mul (pv 2) pe_int) (pe_callB call_abs (by rfl) T.g_abs (by decide +kernel) (pa_cons (pv 3) pa_nil))) pe_int))))
    (pss_one (ps_ret (pe_op op_cat (pe_lst (pa_cons (pv 2) (pa_cons pe_int pa_nil))) (pe_lc (own := [("_law_cell", 3)]) (g := gName 3) (tt := _) (by rfl) sc__law_random.nd (pi_listK (K := K) (pv 0)) (blkOk_by (own := [("_law_cell", 3)]) (N := N__law_random) (sc := (defScope s__law_random)) (by decide +kernel)) (fun _ _ _ _ _ => pg_name (i := 3) sc__law_random.nd rfl (Or.inl rfl)) (fun _ _ _ _ _ => (pts_one (pt_cmpR op_ge (pv 3) (pe_op op_pow pe_int pe_int) (nomark _)))) (fun _ _ _ _ _ => (pv 3)))))))), ?_⟩
  refine ⟨_, rfl, ?_⟩
  refine ⟨_, rfl, a, rfl, ⟨_, hS⟩, for_list (K := K) (a := a) (xs := ns.map V.int) (fun i σ H' => ∃ (z : Int) (v : Option V), σ = [some (.ref a), some (.int salt), some (.int z), v] ∧ H' = H ∧ 0 ≤ z ∧ z < 2147483647)
    ⟨salt, none, rfl, rfl, h0, by omega⟩ (fun i σ H' _ ⟨_, _, _, e, _⟩ => e ▸ hS) ?_ ?_⟩
  · rintro i y σ H' hi ⟨z, v, rfl, rfl, z0, z1⟩
    obtain ⟨u, rfl, hu⟩ := int_at hi
    refine ⟨_, rfl, _, _, rfl, rfl, .inl ⟨by omega, by omega⟩, _, rfl, _, rfl, _, _, rfl, rfl, _, _, rfl, rfl, (by show (0 : Int) < 2147483647; decide), ?_⟩
    refine ⟨_, _, rfl, rfl, ?_, ?_⟩
    · exact Int.emod_nonneg _ (by decide)
    · exact Int.emod_lt_of_pos _ (by decide)
  · rintro σ H' ⟨z, v, rfl, rfl, z0, z1⟩
    refine ⟨_, rfl, (by show 2 ≤ sizeLine; decide), fun l hl => ?_⟩
    have s1 : Same H' (upd H' l (.lst [.int z, .int 0])) := fun b o e => by rw [upd_ne (ne_of_none e hl)]; exact e
    refine ⟨_, rfl, a, rfl, ⟨_, s1.seq hS⟩, fun D hD => ?_⟩
    have hDl : D ≠ l := fun e => by rw [e, upd_same] at hD; cases hD
    have hD0 : H' D = none := by rw [upd_ne hDl] at hD; exact hD
    refine lc_list (K := K) (a := a) (xs := ns.map V.int) (fun i H2 => ∃ ms : List Int, H2 = upd (upd H' l (.lst [.int z, .int 0])) D (.lst (ms.map V.int)) ∧ (∀ n ∈ ms, (0 : Int) ≤ n) ∧ ms.length ≤ i)
      ⟨[], rfl, (fun n hn => by cases hn), Nat.le_refl _⟩ (fun i H2 _ ⟨ms, e, _⟩ => ?_) ?_ ?_
    · subst e
      refine Same.seq (fun b o e => ?_) hS
      rw [upd_ne (ne_of_none e hD0)]
      exact s1 b o e
    · rintro i x H2 hx ⟨ms, rfl, m0, ml⟩
      obtain ⟨u, rfl, hu⟩ := int_at hx
      have hi63 : i < 63 := by
        have := (List.getElem?_eq_some_iff.mp hu).1
        omega
      refine ⟨rfl, _, rfl, _, _, rfl, rfl, ⟨by decide, by decide, by decide⟩, _, _, rfl, rfl, _, rfl, ?_⟩
      refine ite2 (fun c => ?_) (fun c => ⟨ms, rfl, m0, by omega⟩)
      refine ⟨_, rfl, _, upd_same, Nat.lt_of_le_of_lt (m := 63) (by rw [List.length_map]; omega) (by decide), ⟨ms ++ [u], ?_, ?_, ?_⟩⟩
      · rw [upd_upd, List.map_append]
        rfl
      · intro n hn
        rcases List.mem_append.mp hn with h | h
        · exact m0 n h
        · rw [List.mem_singleton.mp h]
          have c2 : (10 : Int) ^ (18 : Int).toNat ≤ u := of_decide_eq_true c
          have : (0 : Int) ≤ 10 ^ (18 : Int).toNat := by decide
          omega
      · rw [List.length_append]
        show ms.length + 1 ≤ i + 1
        omega
    · rintro H2 ⟨ms, rfl, m0, ml⟩
      rw [List.length_map] at ml
      refine ⟨l, D, _, _, rfl, rfl, (by rw [upd_ne hDl.symm]; exact upd_same), upd_same, ?_, fun p hp => ?_⟩
      · rw [List.length_map]
        exact Nat.le_trans (m := 65) (by show 2 + ms.length ≤ 65; omega) (by decide)
      · have hpD : p ≠ D := fun e => by rw [e, upd_same] at hp; cases hp
        have hp2 : p ≠ l := fun e => by rw [e, upd_ne hDl.symm, upd_same] at hp; cases hp
        refine k p _ _ (by rw [upd_ne hpD, upd_ne hp2] at hp; exact hp) (fun b o e => ?_) upd_same ⟨z, 0, ms, rfl, z0, z1, Int.le_refl _, m0, by omega⟩
        have hb : b ≠ p := fun q => by rw [q] at e; rw [upd_ne hpD, upd_ne hp2] at hp; rw [e] at hp; cases hp
        rw [upd_ne hb, upd_ne (ne_of_none e hD0)]
        exact s1 b o e
end
end Tk

namespace Tk
open PySem PySem.Spec PyProof.Rows L2
section
variable {P : Program} {w : World} {K : PySem.W.Frag} {mg : Str → Option Value} {base : Heap}
theorem upd_eq {H H2 : Hp} {d : Addr} (e : ∀ b, b ≠ d → H2 b = H b) (o : HO) : upd H2 d o = upd H d o := by
  funext b
  unfold upd
  by_cases q : b = d
  · rw [if_pos q, if_pos q]
  · rw [if_neg q, if_neg q, e b q]
theorem gt_dec {a b : Int} : decide (b < a) = true → b < a := of_decide_eq_true
theorem ok__law_below (T : Txt K mg) : OkF P w K mg base 1 (He.ga K "_law_below") ["_law_d", "_law_limit"] spBelow := by
  refine FnP.okF T.f__law_below sc__law_below (fun _ _ _ _ _ _ us hl => match us, hl with | [_, _], _ => rfl) (fun vs H Q E h => ?_) (fun cdv A outer s H vs Q E hr h => ?_)
  · obtain ⟨d, lim, cs, rfl, _⟩ := h
    rfl
  obtain ⟨d, lim, cs, rfl, l0, l1, hd, ⟨s1, g, ns, rfl, hs0, hs1, hg, hns, hlen⟩, k⟩ := h
  refine ⟨_, (Evl.pss_cut (ps_if (PW.pt (pw_and (pt_cmpR op_eq (pe_ix (ixLK (K := K)) (pv 0) pe_int (fun _ _ => rfl)) pe_int (nomark _)) (pw_and1 (pt_cmpR op_gt (pe_callB (lenK (K := K)) (by rfl) T.g_len (by decide +kernel) (pa_cons (pv 0) pa_nil)) pe_int (nomark _))))) (pss_one (ps_asg (pe_bm PySem.F.plainAttrs_list PySem.F.slot_list_pop PySem.F.type_list_pop mt_popAt (pv 0) (pa_cons pe_int pa_nil)) (pg_sub (pv 0) pe_int set_list))) pss_nil)
    (pss_cons (ps_if (pt_cmpR op_gt (pe_ix (ixLK (K := K)) (pv 0) pe_int (fun _ _ => rfl)) pe_int (nomark _)) (pss_cons (ps_set (i := 2) sc__law_below.nd rfl (Or.inl rfl) (pe_op op_mod (pe_ix (ixLK (K := K)) (pv 0) pe_int (fun _ _ => rfl)) (pv 1)))
    (pss_cons (ps_asg (pe_op op_fdiv (pe_ix (ixLK (K := K)) (pv 0) pe_int (fun _ _ => rfl)) (pv 1)) (pg_sub (pv 0) pe_int set_list))
    (pss_one (ps_ret (pv 2))))) pss_nil)
    (pss_cons (ps_asg (pe_op op_mod (pe_op op_add (pe_op op_mul (pe_ix (ixLK (K := K)) (pv 0) pe_int (fun _ _ => rfl)) pe_int) pe_int) pe_int) (pg_sub (pv 0) pe_int set_list))
    (pss_one (ps_ret (pe_op op_mod (pe_op op_fdiv (pe_ix (ixLK (K := K)) (pv 0) pe_int (fun _ _ => rfl)) pe_int) (pv 1))))))), ?_⟩
  -- if d[1] == 0 and len(d) > 2: d[1] = d.pop(2)
  refine ⟨fun σ H2 => ∃ (g2 : Int) (ms : List Int), σ = [some (.ref d), some (.int lim), none] ∧ H2 = upd H d (.lst (V.int s1 :: V.int g2 :: ms.map V.int)) ∧ 0 ≤ g2 ∧ (∀ n ∈ ms, (0 : Int) ≤ n) ∧ ms.length ≤ 63, ?_, ?_⟩
  · have h0 : H = upd H d (.lst (V.int s1 :: V.int g :: ns.map V.int)) := by
      funext b
      unfold upd
      by_cases q : b = d
      · rw [if_pos q, q, hd]
      · rw [if_neg q]
    have no : ∃ (g2 : Int) (ms : List Int), [some (V.ref d), some (V.int lim), none] = [some (.ref d), some (.int lim), none] ∧ H = upd H d (.lst (V.int s1 :: V.int g2 :: ms.map V.int)) ∧ 0 ≤ g2 ∧ (∀ n ∈ ms, (0 : Int) ≤ n) ∧ ms.length ≤ 63 := ⟨g, ns, rfl, h0, hg, hns, hlen⟩
    refine ⟨_, rfl, d, _, 1, _, rfl, rfl, SqL.of hd, atn (i := 1) rfl, rfl, _, rfl, ?_⟩
    refine ite2 (fun c => ?_) (fun c => no)
    refine ⟨_, rfl, d, _, rfl, .inl (SqL.of hd), _, _, rfl, rfl, _, rfl, ?_⟩
    refine ite2 (fun c2 => ?_) (fun c2 => no)
    cases ns with
    | nil =>
      have : (2 : Int) < (2 : Int) := gt_dec c2
      omega
    | cons n0 ms =>
      refine ⟨_, rfl, .inl ⟨rfl, _, SqL.of hd⟩, d, _, 2, 2, _, rfl, rfl, hd, by decide, by decide, ?_, rfl, ?_⟩
      · have hl : (V.int s1 :: V.int g :: (n0 :: ms).map V.int).length = ms.length + 3 := by simp
        rw [hl]
        unfold seqIndex?
        simp
        omega
      · refine ⟨_, rfl, d, _, 1, 1, rfl, rfl, upd_same, ixn (i := 1) (by simp), ?_⟩
        refine ⟨n0, ms, rfl, ?_, hns n0 List.mem_cons_self, fun n hn => hns n (List.mem_cons_of_mem _ hn), by have := hlen; simp at this; omega⟩
        rw [upd_upd]
        rfl
  · rintro σ H2 ⟨g2, ms, rfl, rfl, hg2, hms, hml⟩
    have hd2 : upd H d (.lst (V.int s1 :: V.int g2 :: ms.map V.int)) d = some (.lst (V.int s1 :: V.int g2 :: ms.map V.int)) := upd_same
    -- if d[1] > 0
    refine ⟨_, rfl, d, _, 1, _, rfl, rfl, SqL.of hd2, atn (i := 1) rfl, _, _, rfl, rfl, _, rfl, ?_⟩
    refine ite2 (fun c => ?_) (fun c => ?_)
    · refine ⟨_, rfl, d, _, 1, _, rfl, rfl, SqL.of hd2, atn (i := 1) rfl, _, rfl, _, _, rfl, rfl, l0, ?_⟩
      refine ⟨_, rfl, d, _, 1, _, rfl, rfl, SqL.of hd2, atn (i := 1) rfl, _, rfl, _, _, rfl, rfl, ⟨l0, l1⟩, ?_⟩
      refine ⟨_, rfl, d, _, 1, 1, rfl, rfl, upd_same, ixn (i := 1) (by simp), ?_⟩
      refine ⟨_, rfl, ?_⟩
      show Q (V.int (g2 % lim)) _
      rw [upd_upd]
      exact k _ _ (Int.emod_nonneg _ (by omega)) (Int.emod_lt_of_pos _ l0) ⟨s1, g2 / lim, ms, rfl, hs0, hs1, Int.ediv_nonneg hg2 (by omega), hms, hml⟩
    · refine ⟨_, rfl, d, _, 0, _, rfl, rfl, SqL.of hd2, atn (i := 0) rfl, _, _, rfl, rfl, .inl ⟨by omega, by omega⟩, _, _, rfl, rfl, _, _, rfl, rfl, (by show (0 : Int) < 2147483647; decide), ?_⟩
      refine ⟨_, rfl, d, _, 0, 0, rfl, rfl, upd_same, ixn (i := 0) (by simp), ?_⟩
      refine ⟨_, rfl, d, _, 0, _, rfl, rfl, SqL.of upd_same, atn (i := 0) rfl, _, _, rfl, rfl, ⟨by decide, by decide⟩, _, rfl, _, _, rfl, rfl, l0, ?_⟩
      rw [upd_upd]
      exact k _ _ (Int.emod_nonneg _ (by omega)) (Int.emod_lt_of_pos _ l0) ⟨_, g2, ms, rfl, Int.emod_nonneg _ (by decide), Int.emod_lt_of_pos _ (by decide), hg2, hms, hml⟩
end
end Tk

namespace Tk
open PySem PySem.Spec PyProof.Rows L2
/-- a number that is not negative, as a value -/
abbrev vn (n : Nat) : V := .int (n : Int)
/-- all but d stands as before; d holds a source -/
structure Src (d : Addr) (H H' : Hp) : Prop where
  but : But d H H'
  at_ : ∃ cs, H' d = some (.lst cs) ∧ DSt cs
theorem But.free {d : Addr} {H H' : Hp} (b : But d H H') (hd : ∃ cs, H d = some (.lst cs)) {p : Addr} (h : H' p = none) (hd' : ∃ cs, H' d = some (.lst cs)) : H p = none := by
  cases q : H p with
  | none => rfl
  | some o =>
    by_cases e : p = d
    · obtain ⟨cs, z⟩ := hd'
      rw [e, z] at h
      cases h
    · rw [b p o e q] at h
      cases h
theorem But.refl (d : Addr) (H : Hp) : But d H H := fun _ _ _ h => h
theorem But.trans {d : Addr} {H H1 H2 : Hp} (a : But d H H1) (b : But d H1 H2) : But d H H2 := fun p o n h => b p o n (a p o n h)
theorem But.same {d : Addr} {H H1 : Hp} (a : Same H H1) : But d H H1 := fun p o _ h => a p o h
theorem But.at_d {d : Addr} {H : Hp} {o : HO} : But d H (upd H d o) := fun p u n h => by rw [upd_ne n]; exact h
theorem But.new {d p : Addr} {H : Hp} {o : HO} (h : H p = none) : But d H (upd H p o) := fun b u _ e => by rw [upd_ne (ne_of_none e h)]; exact e
theorem Same.new {p : Addr} {H : Hp} {o : HO} (h : H p = none) : Same H (upd H p o) := fun b u e => by rw [upd_ne (ne_of_none e h)]; exact e
theorem Same.free1 {H H1 : Hp} (a : Same H H1) {p : Addr} (h : H1 p = none) : H p = none := Same.free a h
/-- a pattern -/
structure Pat (ps : List Nat) : Prop where
  pos : 0 < ps.length
  len : ps.length ≤ 12
  nine : ∀ x ∈ ps, x ≤ 9
def spPattern : Sp := fun vs H Q _ => ∃ (d : Addr) (most : Nat) (cs : List V), vs = [.ref d, vn most] ∧ 0 < most ∧ most ≤ 12 ∧ H d = some (.lst cs) ∧ DSt cs ∧
  ∀ (t : Addr) (ps : List Nat) (H' : Hp), H t = none → Src d H H' → H' t = some (.tup (ps.map vn)) → Pat ps → ps.length ≤ most → Q (.ref t) H'
section
variable {P : Program} {w : World} {K : PySem.W.Frag} {mg : Str → Option Value} {base : Heap}
theorem high_of {r : Int} (h0 : 0 ≤ r) (h1 : r < 3) : ∃ v : Nat, atI [V.int 2, V.int 3, V.int 10] r = some (vn v) ∧ 0 < v ∧ v ≤ 10 := by
  have : r = ((0 : Nat) : Int) ∨ r = ((1 : Nat) : Int) ∨ r = ((2 : Nat) : Int) := by omega
  rcases this with e | e | e
  · exact ⟨2, by rw [e]; exact atn rfl, by omega, by omega⟩
  · exact ⟨3, by rw [e]; exact atn rfl, by omega, by omega⟩
  · exact ⟨10, by rw [e]; exact atn rfl, by omega, by omega⟩
theorem ok__law_pattern (T : Txt K mg) : OkF P w K mg base 2 (He.ga K "_law_pattern") ["_law_d", "_law_most_here"] spPattern := by
  have G__law_below : OkF P w K mg base 1 (He.ga K "_law_below") ["_law_d", "_law_limit"] spBelow := ok__law_below T
  refine FnP.okF T.f__law_pattern sc__law_pattern (fun _ _ _ _ _ _ us hl => match us, hl with | [_, _], _ => rfl) (fun vs H Q E h => ?_) (fun cdv A outer s H vs Q E hr h => ?_)
  · obtain ⟨d, most, cs, rfl, _⟩ := h
    rfl
  obtain ⟨d, most, cs, rfl, m0, m1, hd, hcs, k⟩ := h
  refine ⟨_, (pss_cons (ps_set (i := 2) sc__law_pattern.nd rfl (Or.inr rfl) (pe_ix (ixLK (K := K)) (pe_lst (pa_cons pe_int (pa_cons pe_int (pa_cons pe_int pa_nil)))) (pe_call G__law_below.one (hr.mono (by decide)) (by rfl) T.g__law_below G__law_below.kp G__law_below.two .nil passL (pa_cons (pv 0) (pa_cons pe_int pa_nil))) (fun _ _ => rfl)))
    (pss_one (ps_ret (pe_callTy (tplK (K := K)) (by rfl) T.g_tuple (by decide +kernel) (pa_cons (pe_lc (own := [("_law_k", 3)]) (g := gName 3) (tt := tYes) (by rfl) sc__law_pattern.nd (pi_range1 (by rfl) T.g_range (pa_cons (pe_op op_add pe_int (pe_call G__law_below.one (hr.mono (by decide)) (by rfl) T.g__law_below G__law_below.kp G__law_below.two .nil passL (pa_cons (pv 0) (pa_cons (pv 1) pa_nil)))) pa_nil)) (blkOk_by (own := [("_law_k", 3)]) (N := N__law_pattern) (sc := (defScope s__law_pattern)) (by decide +kernel)) (fun _ _ _ _ _ => pg_name (i := 3) sc__law_pattern.nd rfl (Or.inl rfl)) (fun _ _ _ _ _ => pts_nil) (fun _ _ _ _ _ => (pe_call G__law_below.one (hr.mono (by decide)) (by rfl) T.g__law_below G__law_below.kp G__law_below.two .nil passL (pa_cons (pv 0) (pa_cons (pv 2) pa_nil))))) pa_nil))))), ?_⟩
  -- high = [2, 3, 10][below(d, 3)]
  refine ⟨(by show 3 ≤ sizeLine; decide), fun l hl => ?_⟩
  have ndl : d ≠ l := ne_of_none hd hl
  refine ⟨_, rfl, d, 3, cs, rfl, by decide, by decide, by rw [upd_ne ndl]; exact hd, hcs, fun r cs1 r0 r1 hcs1 => ?_⟩
  obtain ⟨v, hv, v0, v1⟩ := high_of r0 r1
  refine ⟨l, _, r, _, rfl, rfl, SqL.of (by rw [upd_ne ndl.symm]; exact upd_same), hv, ?_⟩
  -- range(1 + below(d, most))
  refine ⟨_, rfl, _, rfl, d, most, cs1, rfl, by omega, by omega, upd_same, hcs1, fun r2 cs2 q0 q1 hcs2 => ?_⟩
  refine ⟨1, r2, rfl, rfl, ?_⟩
  refine ⟨_, rfl, by omega, by omega, fun D hD => ?_⟩
  rw [upd_upd] at hD ⊢
  have nDd : D ≠ d := fun e => by rw [e, upd_same] at hD; cases hD
  have nDl : D ≠ l := fun e => by rw [e, upd_ne ndl.symm, upd_same] at hD; cases hD
  have hD0 : H D = none := by rw [upd_ne nDd, upd_ne nDl] at hD; exact hD
  refine lc_range (lo := 0) (n := (1 + r2).toNat) (fun i H2 => ∃ ms : List Nat, But d H H2 ∧ (∃ cs, H2 d = some (.lst cs) ∧ DSt cs) ∧ H2 D = some (.lst (ms.map vn)) ∧ ms.length = i ∧ ∀ x ∈ ms, x ≤ 9) ?_ ?_ ?_
  · refine ⟨[], fun b o nb e => ?_, ⟨cs2, by rw [upd_ne nDd.symm, upd_same], hcs2⟩, upd_same, rfl, fun x hx => by cases hx⟩
    rw [upd_ne (ne_of_none e hD0), upd_ne nb, upd_ne (ne_of_none e hl)]
    exact e
  · rintro i H2 hi ⟨ms, hB, ⟨cs3, h3, hcs3⟩, hD2, hml, hm9⟩
    refine ⟨rfl, ?_⟩
    refine ⟨_, rfl, _, rfl, d, v, cs3, rfl, by omega, by omega, h3, hcs3, fun r4 cs4 p0 p1 hcs4 => ?_⟩
    refine ⟨ms.map vn, by rw [upd_ne nDd]; exact hD2, Nat.lt_of_le_of_lt (m := 12) (by rw [List.length_map]; omega) (by decide), ms ++ [r4.toNat], ?_, ⟨cs4, by rw [upd_ne nDd.symm, upd_same], hcs4⟩, ?_, ?_, ?_⟩
    · intro b o nb e
      rw [upd_ne (ne_of_none e hD0), upd_ne nb]
      exact hB b o nb e
    · rw [upd_same, List.map_append]
      show some (HO.lst (ms.map vn ++ [V.int r4])) = some (HO.lst (ms.map vn ++ [V.int ((r4.toNat : Nat) : Int)]))
      rw [Int.toNat_of_nonneg p0]
    · rw [List.length_append]
      show ms.length + 1 = i + 1
      omega
    · intro x hx
      rcases List.mem_append.mp hx with h | h
      · exact hm9 x h
      · rw [List.mem_singleton.mp h]
        omega
  · rintro H2 ⟨ms, hB, ⟨cs3, h3, hcs3⟩, hD2, hml, hm9⟩
    refine ⟨D, _, rfl, .inl ⟨SqL.of hD2, fun t ht => ?_⟩⟩
    have ht0 : H t = none := But.free hB ⟨_, hd⟩ ht ⟨_, h3⟩
    refine k t ms _ ht0 ⟨hB.trans (But.new ht), cs3, by rw [upd_ne (ne_of_none h3 ht)]; exact h3, hcs3⟩ upd_same ⟨by omega, by omega, hm9⟩ (by omega)
end
end Tk

namespace Tk
open PySem PySem.Spec PyProof.Rows L2
structure Parts (m : Nat) (tk cl : List Nat) (lt : Nat) : Prop where
  m2 : 2 ≤ m
  m4 : m ≤ 10000
  tkP : Pat tk
  clP : Pat cl
  l99 : lt ≤ 99
/-- at t the tuple of the parts -/
structure PartsAt (H : Hp) (t : Addr) (m : Nat) (tp : Addr) (tk : List Nat) (cp : Addr) (cl : List Nat) (lt : Nat) : Prop where
  at_ : H t = some (.tup [vn m, .ref tp, .ref cp, vn lt])
  tkA : H tp = some (.tup (tk.map vn))
  clA : H cp = some (.tup (cl.map vn))
  ok : Parts m tk cl lt
theorem PartsAt.but {d t tp cp : Addr} {H H' : Hp} {m lt : Nat} {tk cl : List Nat} {cs : List V} (p : PartsAt H t m tp tk cp cl lt) (b : But d H H') (hd : H d = some (.lst cs)) : PartsAt H' t m tp tk cp cl lt :=
  ⟨b _ _ (ne_of p.at_ hd (fun q => by cases q)) p.at_, b _ _ (ne_of p.tkA hd (fun q => by cases q)) p.tkA, b _ _ (ne_of p.clA hd (fun q => by cases q)) p.clA, p.ok⟩
theorem PartsAt.same {t tp cp : Addr} {H H' : Hp} {m lt : Nat} {tk cl : List Nat} (p : PartsAt H t m tp tk cp cl lt) (b : Same H H') : PartsAt H' t m tp tk cp cl lt :=
  ⟨b _ _ p.at_, b _ _ p.tkA, b _ _ p.clA, p.ok⟩
def spParts : Sp := fun vs H Q _ => ∃ (d : Addr) (most : Nat) (cs : List V), vs = [.ref d, vn most] ∧ 0 < most ∧ most ≤ 12 ∧ H d = some (.lst cs) ∧ DSt cs ∧
  ∀ (t tp cp : Addr) (m lt : Nat) (tk cl : List Nat) (H' : Hp), H t = none → Src d H H' → PartsAt H' t m tp tk cp cl lt → tk.length ≤ most → cl.length ≤ most → Q (.ref t) H'
def spSmall : Sp := fun vs H Q _ => ∃ (d : Addr) (cs : List V), vs = [.ref d] ∧ H d = some (.lst cs) ∧ DSt cs ∧
  ∀ (t tp cp : Addr) (m lt : Nat) (tk cl : List Nat) (H' : Hp), H t = none → Src d H H' → PartsAt H' t m tp tk cp cl lt → m ≤ 10 → tk.length ≤ 3 → cl.length ≤ 3 → lt ≤ 5 → Q (.ref t) H'
section
variable {P : Program} {w : World} {K : PySem.W.Frag} {mg : Str → Option Value} {base : Heap}
theorem three_of {a b c r : Int} (h0 : 0 ≤ r) (h1 : r < 3) : ∃ v : Int, atI [V.int a, V.int b, V.int c] r = some (V.int v) ∧ (v = a ∨ v = b ∨ v = c) := by
  have : r = ((0 : Nat) : Int) ∨ r = ((1 : Nat) : Int) ∨ r = ((2 : Nat) : Int) := by omega
  rcases this with e | e | e
  · exact ⟨a, by rw [e]; exact atn rfl, .inl rfl⟩
  · exact ⟨b, by rw [e]; exact atn rfl, .inr (.inl rfl)⟩
  · exact ⟨c, by rw [e]; exact atn rfl, .inr (.inr rfl)⟩
theorem ok__law_small (T : Txt K mg) : OkF P w K mg base 3 (He.ga K "_law_small") ["_law_d"] spSmall := by
  have G__law_below : OkF P w K mg base 1 (He.ga K "_law_below") ["_law_d", "_law_limit"] spBelow := ok__law_below T
  have G__law_pattern : OkF P w K mg base 2 (He.ga K "_law_pattern") ["_law_d", "_law_most_here"] spPattern := ok__law_pattern T
  refine FnP.okF T.f__law_small sc__law_small (fun _ _ _ _ _ _ us hl => match us, hl with | [_], _ => rfl) (fun vs H Q E h => ?_) (fun cdv A outer s H vs Q E hr h => ?_)
  · obtain ⟨d, cs, rfl, _⟩ := h
    rfl
  obtain ⟨d, cs, rfl, hd, hcs, k⟩ := h
  refine ⟨_, (pss_one (ps_ret (pe_tup (pa_cons (pe_op op_add pe_int (pe_call G__law_below.one (hr.mono (by decide)) (by rfl) T.g__law_below G__law_below.kp G__law_below.two .nil passL (pa_cons (pv 0) (pa_cons pe_int pa_nil)))) (pa_cons (pe_call G__law_pattern.one (hr.mono (by decide)) (by rfl) T.g__law_pattern G__law_pattern.kp G__law_pattern.two .nil passL (pa_cons (pv 0) (pa_cons pe_int pa_nil))) (pa_cons (pe_call G__law_pattern.one (hr.mono (by decide)) (by rfl) T.g__law_pattern G__law_pattern.kp G__law_pattern.two .nil passL (pa_cons (pv 0) (pa_cons pe_int pa_nil))) (pa_cons (pe_call G__law_below.one (hr.mono (by decide)) (by rfl) T.g__law_below G__law_below.kp G__law_below.two .nil passL (pa_cons (pv 0) (pa_cons pe_int pa_nil))) pa_nil))))))), ?_⟩
  refine ⟨_, rfl, d, 9, cs, rfl, by decide, by decide, hd, hcs, fun r1 c1 a1 b1 hc1 => ⟨2, r1, rfl, rfl, ?_⟩⟩
  have hB : But d H (upd H d (.lst c1)) := But.at_d
  have hd2 : upd H d (.lst c1) d = some (.lst c1) := upd_same
  generalize upd H d (.lst c1) = H2 at *
  refine ⟨_, rfl, d, 3, c1, rfl, by decide, by decide, hd2, hc1, fun tp tk H3 n3 S3 h3 p3 l3 => ?_⟩
  obtain ⟨c8, hd3, hc8⟩ := S3.at_
  refine ⟨_, rfl, d, 3, c8, rfl, by decide, by decide, hd3, hc8, fun cp cl H4 n4 S4 h4 p4 l4 => ?_⟩
  obtain ⟨c9, hd4, hc9⟩ := S4.at_
  refine ⟨_, rfl, d, 6, c9, rfl, by decide, by decide, hd4, hc9, fun r5 c5 a5 b5 hc5 => ?_⟩
  refine ⟨(by show 4 ≤ sizeLine; decide), fun t ht => ?_⟩
  have hB5 : But d H (upd H4 d (.lst c5)) := ((hB.trans S3.but).trans S4.but).trans But.at_d
  have h34 : H4 tp = some (.tup (tk.map vn)) := S4.but _ _ (ne_of h3 hd3 (fun q => by cases q)) h3
  have h35 : upd H4 d (.lst c5) tp = some (.tup (tk.map vn)) := by rw [upd_ne (ne_of h34 hd4 (fun q => by cases q))]; exact h34
  have h45 : upd H4 d (.lst c5) cp = some (.tup (cl.map vn)) := by rw [upd_ne (ne_of h4 hd4 (fun q => by cases q))]; exact h4
  have hd5 : upd H4 d (.lst c5) d = some (.lst c5) := upd_same
  generalize upd H4 d (.lst c5) = H5 at *
  obtain ⟨m, hm⟩ : ∃ m : Nat, 2 + r1 = (m : Int) := ⟨(2 + r1).toNat, by omega⟩
  obtain ⟨lt, hlt⟩ : ∃ n : Nat, r5 = (n : Int) := ⟨r5.toNat, by omega⟩
  dsimp only
  rw [hm]
  subst hlt
  refine k t tp cp m lt tk cl _ (But.free hB5 ⟨_, hd⟩ ht ⟨_, hd5⟩) ⟨hB5.trans (But.new ht), c5, by rw [upd_ne (ne_of_none hd5 ht)]; exact hd5, hc5⟩
    ⟨upd_same, by rw [upd_ne (ne_of_none h35 ht)]; exact h35, by rw [upd_ne (ne_of_none h45 ht)]; exact h45, ⟨by omega, by omega, p3, p4, by omega⟩⟩ (by omega) l3 l4 (by omega)
end
end Tk

/-! ### The mathematics of halls -/
namespace Mm
def atp (ps : List Nat) (t : Nat) : Nat := ps.getD (t % ps.length) 0
/-- tickets taken before a tick -/
def tak (tk : List Nat) : Nat → Nat
  | 0 => 0
  | t + 1 => tak tk t + atp tk t
/-- tickets called before a tick -/
def cal (tk cl : List Nat) : Nat → Nat
  | 0 => 0
  | t + 1 => min (tak tk (t + 1)) (cal tk cl t + atp cl t)
def per (tk cl : List Nat) : Nat := Nat.lcm tk.length cl.length
section
variable {tk cl : List Nat}
theorem cal_le : ∀ t, cal tk cl t ≤ tak tk t
  | 0 => Nat.le_refl _
  | t + 1 => Nat.min_le_left _ _
theorem atp_add (ps : List Nat) (t p : Nat) (h : ps.length ∣ p) : atp ps (t + p) = atp ps t := by
  unfold atp
  obtain ⟨c, rfl⟩ := h
  rw [Nat.add_mul_mod_self_left]
theorem tak_add (p : Nat) (h : tk.length ∣ p) : ∀ t, tak tk (t + p) = tak tk t + tak tk p
  | 0 => by simp [tak]
  | t + 1 => by
    rw [show t + 1 + p = (t + p) + 1 by omega]
    show tak tk (t + p) + atp tk (t + p) = tak tk t + atp tk t + tak tk p
    rw [tak_add p h t, atp_add tk t p h]
    omega
theorem tak_mono : ∀ {a b : Nat}, a ≤ b → tak tk a ≤ tak tk b := by
  intro a b h
  induction h with
  | refl => exact Nat.le_refl _
  | step _ ih => exact Nat.le_trans ih (Nat.le_add_right _ _)
/-- who waits before a tick -/
def wt (tk cl : List Nat) (t : Nat) : Nat := tak tk t - cal tk cl t
theorem wt_cal (t : Nat) : cal tk cl t + wt tk cl t = tak tk t := by
  have := cal_le (tk := tk) (cl := cl) t
  unfold wt
  omega
theorem wt_succ (t : Nat) : wt tk cl (t + 1) = wt tk cl t + atp tk t - atp cl t := by
  have h1 := wt_cal (tk := tk) (cl := cl) t
  have h2 : cal tk cl (t + 1) = min (tak tk t + atp tk t) (cal tk cl t + atp cl t) := rfl
  have h3 : tak tk (t + 1) = tak tk t + atp tk t := rfl
  unfold wt
  rw [h2, h3]
  have h4 : wt tk cl t = tak tk t - cal tk cl t := rfl
  omega
theorem cal_succ (t : Nat) : cal tk cl (t + 1) = cal tk cl t + min (wt tk cl t + atp tk t) (atp cl t) := by
  have h1 := wt_cal (tk := tk) (cl := cl) t
  have h2 : cal tk cl (t + 1) = min (tak tk t + atp tk t) (cal tk cl t + atp cl t) := rfl
  rw [h2]
  omega
theorem cal_mono {a b : Nat} (h : a ≤ b) : cal tk cl a ≤ cal tk cl b := by
  induction h with
  | refl => exact Nat.le_refl _
  | step _ ih =>
    rw [Nat.succ_eq_add_one, cal_succ]
    omega
variable {p : Nat} (hp : 0 < p) (ht : tk.length ∣ p) (hc : cl.length ∣ p)
include ht hc in
theorem wt_up (t : Nat) : wt tk cl t ≤ wt tk cl (t + p) := by
  induction t with
  | zero => simp [wt, tak, cal]
  | succ t ih =>
    rw [show t + 1 + p = (t + p) + 1 by omega, wt_succ, wt_succ, atp_add tk t p ht, atp_add cl t p hc]
    omega
include ht hc in
theorem wt_same {s : Nat} (h : wt tk cl s = wt tk cl (s + p)) : ∀ t, s ≤ t → wt tk cl t = wt tk cl (t + p) := by
  intro t hs
  induction hs with
  | refl => exact h
  | @step t _ ih =>
    rw [show t.succ + p = (t + p) + 1 by omega, Nat.succ_eq_add_one, wt_succ, wt_succ, atp_add tk t p ht, atp_add cl t p hc, ih]
/-- from the second period on each period calls the same -/
theorem now_same (hp : 0 < p) (ht : tk.length ∣ p) (hc : cl.length ∣ p) (t : Nat) (h : p ≤ t) : min (wt tk cl (t + p) + atp tk (t + p)) (atp cl (t + p)) = min (wt tk cl t + atp tk t) (atp cl t) := by
  rw [atp_add tk t p ht, atp_add cl t p hc]
  by_cases st : ∃ s, p ≤ s ∧ s ≤ t ∧ wt tk cl s + atp tk s ≤ atp cl s ∧ s < 2 * p
  · obtain ⟨s, h1, h2, h3, h4⟩ := st
    obtain ⟨r, rfl⟩ : ∃ r, s = r + p := ⟨s - p, by omega⟩
    have u := wt_up (tk := tk) (cl := cl) ht hc r
    rw [atp_add tk r p ht, atp_add cl r p hc] at h3
    have e : wt tk cl (r + 1) = wt tk cl (r + 1 + p) := by
      rw [show r + 1 + p = (r + p) + 1 by omega, wt_succ, wt_succ, atp_add tk r p ht, atp_add cl r p hc]
      omega
    have := wt_same ht hc e t (by omega)
    rw [← this]
  · have full : ∀ k s, p ≤ s → s < 2 * p → s + k * p ≤ t → atp cl (s + k * p) ≤ wt tk cl (s + k * p) + atp tk (s + k * p) := by
      intro k
      induction k with
      | zero =>
        intro s h1 h2 h3
        by_cases q : wt tk cl s + atp tk s ≤ atp cl s
        · exact absurd ⟨s, h1, by omega, q, h2⟩ st
        · simp only [Nat.zero_mul, Nat.add_zero]
          omega
      | succ k ih =>
        intro s h1 h2 h3
        rw [Nat.succ_mul] at h3 ⊢
        have := ih s h1 h2 (by omega)
        have u := wt_up (tk := tk) (cl := cl) ht hc (s + k * p)
        rw [← Nat.add_assoc, atp_add tk _ p ht, atp_add cl _ p hc]
        omega
    have e : t = p + (t - p) % p + (t - p) / p * p := by
      have := Nat.mod_add_div (t - p) p
      rw [Nat.mul_comm] at this
      omega
    have f := full ((t - p) / p) (p + (t - p) % p) (by omega) (by have := Nat.mod_lt (t - p) hp; omega) (by omega)
    rw [← e] at f
    have u := wt_up (tk := tk) (cl := cl) ht hc t
    omega
theorem cal_per (hp : 0 < p) (ht : tk.length ∣ p) (hc : cl.length ∣ p) {t : Nat} (h : p ≤ t) : cal tk cl (t + p) + cal tk cl p = cal tk cl t + cal tk cl (2 * p) := by
  induction h with
  | refl => rw [show p + p = 2 * p by omega, Nat.add_comm]
  | @step t h ih =>
    rw [show t.succ + p = (t + p) + 1 by omega, Nat.succ_eq_add_one, cal_succ, cal_succ, now_same hp ht hc t h]
    omega
theorem cal_far (hp : 0 < p) (ht : tk.length ∣ p) (hc : cl.length ∣ p) {t : Nat} (h : p ≤ t) : ∀ k, cal tk cl (t + k * p) = cal tk cl t + k * (cal tk cl (2 * p) - cal tk cl p)
  | 0 => by simp
  | k + 1 => by
    have ih := cal_far hp ht hc h k
    have m := cal_mono (tk := tk) (cl := cl) (show p ≤ 2 * p by omega)
    have q := cal_per (tk := tk) (cl := cl) hp ht hc (t := t + k * p) (by omega)
    rw [Nat.succ_mul, Nat.succ_mul, ← Nat.add_assoc]
    omega
/-- what the program reckons -/
theorem cal_is (hp : 0 < p) (ht : tk.length ∣ p) (hc : cl.length ∣ p) (t : Nat) : cal tk cl t = (t / p - 1) * (cal tk cl (2 * p) - cal tk cl p) + cal tk cl (t - (t / p - 1) * p) := by
  rcases Nat.eq_zero_or_pos (t / p - 1) with e | e
  · rw [e]
    simp
  · have h1 : t / p * p ≤ t := Nat.div_mul_le_self t p
    have h2 : (t / p - 1) * p + p = t / p * p := by
      rw [Nat.sub_mul, Nat.one_mul]
      have : p ≤ t / p * p := Nat.le_mul_of_pos_left p (by omega)
      omega
    have q := cal_far (tk := tk) (cl := cl) hp ht hc (t := t - (t / p - 1) * p) (by omega) (t / p - 1)
    rw [show t - (t / p - 1) * p + (t / p - 1) * p = t by omega] at q
    rw [q]
    exact Nat.add_comm _ _
theorem rest_lt (hp : 0 < p) (t : Nat) : t - (t / p - 1) * p < 2 * p := by
  have h := Nat.mod_add_div t p
  have m := Nat.mod_lt t hp
  rcases Nat.eq_zero_or_pos (t / p) with e | e
  · rw [e] at h ⊢
    omega
  · obtain ⟨k, hk⟩ : ∃ k, t / p = k + 1 := ⟨t / p - 1, by omega⟩
    rw [hk] at h ⊢
    rw [Nat.mul_comm, Nat.succ_mul] at h
    simp only [Nat.add_sub_cancel]
    omega
theorem take_sum (tk : List Nat) : ∀ i, i ≤ tk.length → tak tk i = (tk.take i).sum
  | 0, _ => by simp [tak]
  | i + 1, h => by
    show tak tk i + atp tk i = _
    rw [take_sum tk i (by omega)]
    unfold atp
    rw [Nat.mod_eq_of_lt (by omega), List.getD_eq_getElem?_getD, List.getElem?_eq_getElem (by omega)]
    have e : tk.take (i + 1) = tk.take i ++ [tk[i]] := by simp
    rw [e, List.sum_append]
    simp
theorem tak_mul (tk : List Nat) : ∀ q r, tak tk (r + q * tk.length) = q * tk.sum + tak tk r
  | 0, r => by simp
  | q + 1, r => by
    rw [Nat.succ_mul, ← Nat.add_assoc, tak_add tk.length (Nat.dvd_refl _), tak_mul tk q r, take_sum tk tk.length (Nat.le_refl _), List.take_length, Nat.succ_mul]
    omega
theorem tak_is (tk : List Nat) (h : 0 < tk.length) (t : Nat) : tak tk t = t / tk.length * tk.sum + (tk.take (t % tk.length)).sum := by
  rw [← take_sum tk (t % tk.length) (Nat.le_of_lt (Nat.mod_lt t h)), ← tak_mul tk (t / tk.length)]
  congr 1
  have := Nat.mod_add_div t tk.length
  rw [Nat.mul_comm] at this
  omega
theorem per_tk : tk.length ∣ per tk cl := Nat.dvd_lcm_left _ _
theorem per_cl : cl.length ∣ per tk cl := Nat.dvd_lcm_right _ _
theorem per_pos (h1 : 0 < tk.length) (h2 : 0 < cl.length) : 0 < per tk cl := Nat.lcm_pos h1 h2
theorem per_le : per tk cl ≤ tk.length * cl.length := by
  unfold per Nat.lcm
  exact Nat.div_le_self _ _
theorem atp_le {ps : List Nat} (h9 : ∀ x ∈ ps, x ≤ 9) (t : Nat) : atp ps t ≤ 9 := by
  unfold atp
  rw [List.getD_eq_getElem?_getD]
  cases e : ps[t % ps.length]? with
  | none => simp
  | some x =>
    simp only [Option.getD_some]
    exact h9 x (List.mem_of_getElem? e)
theorem tak_le {tk : List Nat} (h9 : ∀ x ∈ tk, x ≤ 9) : ∀ t, tak tk t ≤ 9 * t
  | 0 => Nat.le_refl _
  | t + 1 => by
    have h1 := tak_le h9 t
    have h2 := atp_le h9 t
    show tak tk t + atp tk t ≤ 9 * (t + 1)
    omega
end
end Mm

/-! ### The checks of arguments -/
namespace Tk
open PySem PySem.Spec PyProof.Rows L2
/-- values of the kinds that are passed -/
inductive Arg (H : Hp) : V → Prop where
  | non : Arg H .non
  | bl (b : Bool) : Arg H (.bl b)
  | int (i : Int) : Arg H (.int i)
  | str (x : Str) : Arg H (.str x)
  | lst {a : Addr} {xs : List V} (e : H a = some (.lst xs)) : Arg H (.ref a)
  | tup {a : Addr} {xs : List V} (e : H a = some (.tup xs)) : Arg H (.ref a)
def isInt : V → Bool
  | .int _ => true
  | _ => false
def inB (lo hi : Int) : V → Bool
  | .int i => decide (lo ≤ i) && decide (i ≤ hi)
  | _ => false
def spWithin : Sp := fun vs H Q _ => ∃ (v : V) (lo hi : Int), vs = [v, .int lo, .int hi] ∧ Arg H v ∧ Q (.bl (inB lo hi v)) H
section
variable {P : Program} {w : World} {K : PySem.W.Frag} {mg : Str → Option Value} {base : Heap}
theorem boot_ty_bool : bootBuiltins "bool" = some (.type "bool") := by decide +kernel
theorem boot_ty_int : bootBuiltins "int" = some (.type "int") := by decide +kernel
theorem boot_ty_str : bootBuiltins "str" = some (.type "str") := by decide +kernel
theorem boot_ty_tuple : bootBuiltins "tuple" = some (.type "tuple") := by decide +kernel
theorem boot_ty_list : bootBuiltins "list" = some (.type "list") := by decide +kernel
theorem kit_at {a b : String} {r : Bool} (h : kitB a b = some r) : PySem.W.kitOne K (.type a) (.type b) = some r := kit_ty h
/-- the type of such a value and what isinstance says of five classes -/
theorem Arg.ty {H : Hp} {v : V} (h : Arg H v) : ∃ n : String, TyX K H v (.type n) ∧ (∃ b, kitB n "bool" = some b ∧ (b = true ↔ ∃ x, v = .bl x)) ∧ (∃ b, kitB n "int" = some b ∧ (b = true ↔ ((∃ x, v = .bl x) ∨ ∃ i, v = .int i))) := by
  cases h with
  | non => exact ⟨_, .base .non, ⟨false, by decide +kernel, by simp⟩, ⟨false, by decide +kernel, by simp⟩⟩
  | bl b => exact ⟨_, .base (.bl b), ⟨true, by decide +kernel, by simp⟩, ⟨true, by decide +kernel, by simp⟩⟩
  | int i => exact ⟨_, .base (.int i), ⟨false, by decide +kernel, by simp⟩, ⟨true, by decide +kernel, by simp⟩⟩
  | str x => exact ⟨_, .base (.str x), ⟨false, by decide +kernel, by simp⟩, ⟨false, by decide +kernel, by simp⟩⟩
  | lst e => exact ⟨_, .base (.lst e), ⟨false, by decide +kernel, by simp⟩, ⟨false, by decide +kernel, by simp⟩⟩
  | tup e => exact ⟨_, .base (.tup e), ⟨false, by decide +kernel, by simp⟩, ⟨false, by decide +kernel, by simp⟩⟩
theorem ok_is_integer_within (T : Txt K mg) : OkF P w K mg base 1 (He.ga K "is_integer_within") ["value", "low", "high"] spWithin := by
  refine FnP.okF T.f_is_integer_within sc_is_integer_within (fun _ _ _ _ _ _ us hl => match us, hl with | [_, _, _], _ => rfl) (fun vs H Q E h => ?_) (fun cdv A outer s H vs Q E hr h => ?_)
  · obtain ⟨v, lo, hi, rfl, _⟩ := h
    rfl
  obtain ⟨v, lo, hi, rfl, hv, k⟩ := h
  refine ⟨_, (pss_cons (ps_if (PW.pt (pw_or (pt_val (pe_callB (isiK (K := K)) (by rfl) T.g_isinstance (by decide +kernel) (pa_cons (pv 0) (pa_cons (pe_bltn (v := .ty "bool") (by rfl) T.g_bool boot_ty_bool rfl) pa_nil)))) (pw_or1 (pt_not (pt_val (pe_callB (isiK (K := K)) (by rfl) T.g_isinstance (by decide +kernel) (pa_cons (pv 0) (pa_cons (pe_bltn (v := .ty "int") (by rfl) T.g_int boot_ty_int rfl) pa_nil)))))))) (pss_one (ps_ret pe_bl)) pss_nil)
    (pss_one (ps_ret (pe_chain op_le op_le (pv 1) (pv 0) (pv 2))))), ?_⟩
  obtain ⟨n, ty, ⟨b1, k1, e1⟩, ⟨b2, k2, e2⟩⟩ := Arg.ty (K := K) hv
  refine ⟨_, rfl, v, .ty "bool", _, _, b1, rfl, .ty "bool", ty, kit_at k1, b1, rfl, ?_⟩
  cases b1 with
  | true =>
    obtain ⟨x, rfl⟩ := e1.mp rfl
    exact k
  | false =>
    refine ⟨_, rfl, v, .ty "int", _, _, b2, rfl, .ty "int", ty, kit_at k2, b2, rfl, ?_⟩
    cases b2 with
    | false =>
      have no : inB lo hi v = false := by
        cases v with
        | int i => exact absurd (e2.mpr (.inr ⟨i, rfl⟩)) (by simp)
        | _ => rfl
      rw [no] at k
      exact k
    | true =>
      rcases e2.mp rfl with ⟨x, rfl⟩ | ⟨i, rfl⟩
      · exact absurd (e1.mpr ⟨x, rfl⟩) (by simp)
      · refine ⟨_, rfl, _, rfl, _, _, rfl, rfl, _, rfl, ?_⟩
        refine ite2 (fun c => ?_) (fun c => ?_)
        · refine ⟨_, rfl, _, _, rfl, rfl, ?_⟩
          have c1 : decide (lo ≤ i) = true := c
          show Q (V.bl (decide (i ≤ hi))) H
          have k' : Q (V.bl (decide (lo ≤ i) && decide (i ≤ hi))) H := k
          rw [c1, Bool.true_and] at k'
          exact k'
        · have c1 : decide (lo ≤ i) = false := by
            cases q : decide (lo ≤ i) with
            | true => exact absurd q c
            | false => rfl
          have k' : Q (V.bl (decide (lo ≤ i) && decide (i ≤ hi))) H := k
          rw [c1, Bool.false_and] at k'
          exact k'
end
end Tk

/-! ### for i, x in enumerate(a tuple) -/
namespace Tk
open PySem PySem.Spec PyProof.Rows L2
set_option maxHeartbeats 1000000 in
theorem meets_enum1 {v : Value} {o : Obj} {Hs : Heap → Prop} (B : Begins v o Hs) : Meets (Builtin.«enumerate.__new__» ⟨[.type "enumerate", v], []⟩) (fun _ R s => Hs s.heap ∧
    R (.ok (.ret (.ref (s.heap.push o).objs.size))) { s with heap := (s.heap.push o).push { cls := .type "enumerate", data := .fields #[.none, .bool false, .ref s.heap.objs.size, rawInt 0, .none, .none] } }) :=
  .of_wp fun prog w A R s h => by
    obtain ⟨hp, g, d, tk, os⟩ := s
    obtain ⟨b0, b1⟩ := h
    have us := sub_enumerate
    have step : ∀ {A' : Around} {E : Value → Shared → Prop} {Q : Value → Shared → Prop}, Q (.ref hp.objs.size) ⟨hp.push o, g, d, tk, os⟩ → wpAny (model prog w) A' (pyIter v) Q E ⟨hp, g, d, tk, os⟩ :=
      fun z => B.iter prog w _ _ ⟨hp, g, d, tk, os⟩ _ b0 z
    wp_walk using step
    refine wpAny_stack_any fun st => wpAny_pure ?_
    split
    · rename_i c _ _ _ _ _
      cases (c == Value.type "enumerate") <;> (wp_walk using step; exact ⟨_, rfl, b1⟩)
    · wp_walk using step
      exact ⟨_, rfl, b1⟩
theorem enum_of_tuple {prog : Program} {w : World} {A : Around} {E : Value → Shared → Prop} {s : Shared} {t : Addr} {items : Array Value} {Q : Value → Shared → Prop} (ht : s.heap.IsTuple t items)
    (h : ∀ h', IsEnum h' (s.heap.objs.size + 1) s.heap.objs.size 0 .none → h'.IsTupleIter s.heap.objs.size t 0 → (∀ b o, s.heap.get? b = some o → h'.get? b = some o) → Q (.ref (s.heap.objs.size + 1)) { s with heap := h' }) :
    wpAny (model prog w) A (call (.type "enumerate") [.ref t]) Q E s := by
  refine callType_new F.called_enumerate (by decide) (F.typeCall_enumerate_1 _) (F.newCall_enumerate_1 _) (fun obj => F.args_object_init_2 obj _) F.entry_enumerate_new (meets_enum1 (begins_tuple t items)) ⟨ht, ?_⟩
  have z : (s.heap.push { cls := .type "tuple_iterator", data := .fields #[.ref t, .int 0 0] }).objs.size = s.heap.objs.size + 1 := Heap.size_push ..
  have e2 := Heap.get?_push_size (s.heap.push { cls := .type "tuple_iterator", data := .fields #[.ref t, .int 0 0] }) (o := { cls := .type "enumerate", data := .fields #[.none, .bool false, .ref s.heap.objs.size, rawInt 0, .none, .none] }) rfl
  show _ ∧ _
  rw [z] at e2 ⊢
  exact ⟨⟨_, e2, rfl⟩, h _ e2 ⟨_, Heap.get?_push_of_some _ (Heap.get?_push_size _ rfl), rfl, rfl⟩ fun b o x => Heap.get?_push_of_some _ (Heap.get?_push_of_some _ x)⟩
/-- the tuple at a, each item in a new pair -/
def Itu (K : PySem.W.Frag) (a : Addr) : It :=
  ⟨fun i H => ∃ (xs : List V) (x : V), SqT K H a xs ∧ xs[i]? = some x, fun i H v H' => ∃ T x, v = .ref T ∧ H T = none ∧ H' = upd H T (.tup [vnI i, x]) ∧ ∀ xs, SqT K H a xs → xs[i]? = some x, fun i H => ∃ xs : List V, SqT K H a xs ∧ xs.length ≤ i⟩
/-- an iterator at a tuple's end -/
theorem draws_end {prog : Program} {w : World} {A : Around} (hh : A.handled = none) (it t : Addr) (i : Nat) (items : Array Value) (hx : items[i]? = none) :
    Draws prog w A it [it, t] i (fun _ _ => False) (fun j h => j = i ∧ h.IsTupleIter it t i ∧ h.IsTuple t items) where
  live := fun _ _ st => let ⟨_, ⟨o, ho, _⟩, _⟩ := st; ⟨o, ho⟩
  frame := fun _ _ _ st hk => by
    obtain ⟨e, ⟨o, ho, r⟩, o2, ho2, r2⟩ := st
    exact ⟨e, ⟨o, hk it (by simp) o ho, r⟩, o2, hk t (by simp) o2 ho2, r2⟩
  item := fun j s Q E hj st _ => absurd st.1 (by omega)
  done := fun s Q E st hE => wpAny_nextOf_tuple_end hh st.2.1 st.2.2 hx hE
theorem turn_enumT {P : Program} {w : World} {K : PySem.W.Frag} {elts : List Expr} {kk : Nat} {tpos : Pos} (a e it : Addr) (h1 : e ≠ it) (h2 : a ≠ it) (h3 : a ≠ e) :
    Turn P w K (.Tuple elts kk tpos) (Itu K a) [e, it] e (fun i h => (∃ old, IsEnum h e it ((i : Nat) : Int) old) ∧ h.IsTupleIter it a i) where
  mem := List.mem_cons_self
  obj := fun i h st b hb => by
    obtain ⟨⟨old, he⟩, o, ho, hc, hd⟩ := st
    rcases List.mem_cons.mp hb with z | z
    · rw [z]
      exact ⟨_, he, fun v q => nomatch q⟩
    · exact ⟨o, by rw [List.mem_singleton.mp z]; exact ho, fun v q => by rw [hd] at q; cases q⟩
  keep := fun i h h' st k => by
    obtain ⟨⟨old, he⟩, o, ho, r⟩ := st
    exact ⟨⟨old, k e (by simp) _ he⟩, o, k it (by simp) o ho, r⟩
  item := by
    intro X hP hw hK hc i pins s σ H E I hf st hg
    subst hP hw hK
    obtain ⟨⟨old, he⟩, hit⟩ := st
    obtain ⟨xs, x, hq, hx⟩ := hg
    obtain ⟨its, rv, p, hz⟩ := I.tuple hq
    obtain ⟨u, hu, ru⟩ := rv.get hx
    have le : e < s.heap.objs.size := Heap.lt_size he
    have li : it < s.heap.objs.size := by
      obtain ⟨_, q, _⟩ := hit
      exact Heap.lt_size q
    have hi : i < its.toArray.size := by
      have := (List.getElem?_eq_some_iff.mp hu).1
      simpa using this
    refine wpAny_pyNext_enum_itemD (Draws.tuple (A := X.A.in1) (I.ok.hd hc) it a h2 its.toArray) he ⟨hit, istup_old p⟩ hi h1 (by simp [h1, h3.symm]) fun y h' tk hy ho hs hT hsz hk => ?_
    have ey : y = u := by
      have q : its[i]? = some y := by simpa using hy
      rw [hu] at q
      exact (Option.some.inj q).symm
    subst ey
    refine ⟨_, rfl, wpAny_letOwnedTupleGo_enum (s := { s with heap := h', toks := tk + 1 }) ho fun h2' he2 sb => ?_⟩
    have T2 : h2'.get? s.heap.objs.size = some { cls := .type "tuple", data := .seq #[.int i tk, y] } := (sb.2 _ (Nat.ne_of_gt le)).trans hT
    have I1 := I.turnedNew (t' := tk + 1) (ch := [e, it]) (h' := h2') (T := s.heap.objs.size) (ob := .tup [vnI i, x]) (fun b ob hb q => (sb.2 b (fun z => hb (by simp [z]))).trans (hk b ob (fun z => hb (by simp [z])) (fun z => hb (by simp [z])) q)) hf (Nat.le_refl _)
      ⟨by show 2 ≤ sizeLine; decide, [.int i tk, y], .cons ⟨_, rfl⟩ (.cons ru .nil), ⟨_, T2, rfl, _, rfl⟩⟩
    refine ⟨.ref s.heap.objs.size, _, I1, rfl, ⟨_, x, rfl, I.hok.fresh (Nat.le_refl _), rfl, fun ys hy2 => by rw [I.tuple_inj hy2 hq]; exact hx⟩, ⟨⟨y, ?_⟩, ?_⟩, fun b hb => ?_⟩
    · rw [show ((i + 1 : Nat) : Int) = (i : Int) + 1 by omega]
      exact he2
    · obtain ⟨⟨o, ho2, r⟩, _⟩ := hs
      exact ⟨o, (sb.2 it h1.symm).trans ho2, r⟩
    · have lb : b < s.heap.objs.size := by
        rcases List.mem_cons.mp hb with z | z
        · rw [z]; exact le
        · rw [List.mem_singleton.mp z]; exact li
      rw [upd_ne (Nat.ne_of_lt lb)]
      exact (hf b hb).1
  done := by
    intro X hP hw hK hc i pins s σ H E I hf st hg
    subst hP hw hK
    obtain ⟨⟨old, he⟩, hit⟩ := st
    obtain ⟨xs, hq, hx⟩ := hg
    obtain ⟨its, rv, p, hz⟩ := I.tuple hq
    have hl := rv.length
    refine wpAny_pyNext_enum_endD (draws_end (A := X.A.in1) (I.ok.hd hc) it a i its.toArray (by simp; omega)) he ⟨rfl, hit, istup_old p⟩ fun h' q => ⟨rfl, ?_⟩
    exact I.turnedL (t' := s.toks) (ch := [it]) (fun b o hb r => q b o (fun z => hb (by simp [z])) r) fun b hb => hf b (by rw [List.mem_singleton.mp hb]; simp)
  self := fun A i s Q E st h => by
    obtain ⟨⟨_, he⟩, _⟩ := st
    exact wpAny_pyIter_enum he h
def iEnumT (K : PySem.W.Frag) (ta : TA) : TI := fun σ H R => ta σ H fun vs H1 => ∃ a xs, vs = [.ref a] ∧ SqT K H1 a xs ∧ R (Itu K a) H1
theorem pi_enumT {X : Cx} {e : Expr} {ta : TA} {p pos tpos : Pos} {elts : List Expr} {kk : Nat} (hg : Gl X "enumerate") (hm : X.mg "enumerate" = none) (ha : PA X [e] ta) (hs : starEach [e] X.env = [(false, eval e X.env)] := by rfl) :
    PI X (.Tuple elts kk tpos) (.Call (.Name "enumerate" p) [e] [] pos) (iEnumT X.K ta) := by
  refine ⟨fun pins s σ H R I h => Call_ (ld_blt I hg hm boot_enumerate (PyProof.Rows.callWith_type1 (thn (ha.run pos pins s σ H _ I h) fun us s1 ⟨vs, H1, I1, r1, q1⟩ => ?_) hs rfl))⟩
  obtain ⟨a, xs, rfl, hq, q⟩ := q1
  cases r1 with
  | cons r rr =>
    cases rr
    cases r
    obtain ⟨its, rv, p', hz⟩ := I1.tuple hq
    have la : a < s1.heap.objs.size := p'.lt
    refine enum_of_tuple (istup_old p') fun h' he hit hk => wpAny_pyIter_enum he ?_
    refine ⟨s1.heap.objs.size + 1, [s1.heap.objs.size + 1, s1.heap.objs.size], _, _, H1, rfl, I1.kept (t' := s1.toks) hk, turn_enumT a (s1.heap.objs.size + 1) s1.heap.objs.size (Nat.succ_ne_self _) (Nat.ne_of_lt la) (Nat.ne_of_lt (Nat.lt_succ_of_lt la)), ⟨⟨.none, he⟩, hit⟩, fun b hb => ?_, q⟩
    have hle : s1.heap.objs.size ≤ b := by
      rcases List.mem_cons.mp hb with z | z
      · rw [z]; exact Nat.le_succ _
      · rw [List.mem_singleton.mp z]; exact Nat.le_refl _
    exact I1.fpOk hle (I1.hok.fresh hle)
/-- its loop -/
theorem for_enumT {K : PySem.W.Frag} {a : Addr} {xs : List V} {g : TG} {tb : TS} {D : Ends} {σ : L2.St} {H : Hp} (Pv : Nat → L2.St → Hp → Prop) (h0 : Pv 0 σ H) (hl : ∀ i σ H, i ≤ xs.length → Pv i σ H → SqT K H a xs)
    (hs : ∀ i x σ H, xs[i]? = some x → Pv i σ H → ∀ T, H T = none → g (.ref T) σ (upd H T (.tup [vnI i, x])) fun σ2 H2 => tb { D with nx := Pv (i + 1), ct := Pv (i + 1), bk := D.nx } σ2 H2) (hd : ∀ σ H, Pv xs.length σ H → D.nx σ H) :
    ∃ W : Nat → Nat → L2.St → Hp → Prop, (∃ m, W 0 m σ H) ∧ ∀ i m σ H, W i m σ H →
      ((Itu K a).stop i H ∧ D.nx σ H) ∨ ((Itu K a).go i H ∧ ∃ N : L2.St → Hp → Prop, (∀ σ' H', N σ' H' → ∃ m', m' < m ∧ W (i + 1) m' σ' H') ∧ ∀ x H', (Itu K a).yld i H x H' → g x σ H' fun σ2 H2 => tb { D with nx := N, ct := N, bk := D.nx } σ2 H2) := by
  refine ⟨fun i m σ H => m = xs.length - i ∧ i ≤ xs.length ∧ Pv i σ H, ⟨_, rfl, Nat.zero_le _, h0⟩, fun i m σ H w => ?_⟩
  obtain ⟨rfl, hi, p⟩ := w
  have sq := hl i σ H hi p
  rcases Nat.lt_or_ge i xs.length with lt | ge
  · have at_ : xs[i]? = some xs[i] := by simp [lt]
    refine .inr ⟨⟨xs, xs[i], sq, at_⟩, Pv (i + 1), fun σ' H' p' => ⟨_, (by omega : xs.length - (i + 1) < xs.length - i), rfl, lt, p'⟩, fun x H' y => ?_⟩
    obtain ⟨T, x', rfl, hT, rfl, hx⟩ := y
    exact hs i x' σ H (hx xs sq) p T hT
  · obtain rfl : i = xs.length := by omega
    exact .inl ⟨⟨xs, sq, Nat.le_refl _⟩, hd σ H p⟩
end Tk

/-! ### The checks, of what is valid -/
namespace Tk
open PySem PySem.Spec PyProof.Rows L2
def spTick : Sp := fun vs H Q _ => ∃ t : Int, vs = [.int t] ∧ 0 ≤ t ∧ t ≤ 1000000000000000000 ∧ Q .non H
def spFii : Sp := fun vs H Q _ => ∃ (p : Addr) (ps : List Nat), vs = [.ref p] ∧ H p = some (.tup (ps.map vn)) ∧ Pat ps ∧ ∀ H', Same H H' → Q .non H'
def spChk : Sp := fun vs H Q _ => ∃ (v : V) (p : Addr) (ps : List Nat), vs = [v, .ref p] ∧ H p = some (.tup (ps.map vn)) ∧ Pat ps ∧ ∀ H', Same H H' → Q .non H'
def spChall : Sp := fun vs H Q _ => ∃ (tp cp : Addr) (m lt : Nat) (tk cl : List Nat), vs = [vn m, .ref tp, .ref cp, vn lt] ∧ H tp = some (.tup (tk.map vn)) ∧ H cp = some (.tup (cl.map vn)) ∧ Parts m tk cl lt ∧ ∀ H', Same H H' → Q .non H'
theorem inB_in {lo hi i : Int} (h1 : lo ≤ i) (h2 : i ≤ hi) : inB lo hi (.int i) = true := by
  show (decide (lo ≤ i) && decide (i ≤ hi)) = true
  rw [decide_eq_true h1, decide_eq_true h2]
  rfl
theorem Same.upd2 {H : Hp} {a : Addr} {o : HO} (h : H a = none) {H0 : Hp} (s : Same H0 H) : Same H0 (upd H a o) := s.trans (Same.new h)
section
variable {P : Program} {w : World} {K : PySem.W.Frag} {mg : Str → Option Value} {base : Heap}
theorem ok_check_tick (T : Txt K mg) : OkF P w K mg base 2 (He.ga K "check_tick") ["tick"] spTick := by
  have G_is_integer_within : OkF P w K mg base 1 (He.ga K "is_integer_within") ["value", "low", "high"] spWithin := ok_is_integer_within T
  refine FnP.okF T.f_check_tick sc_check_tick (fun _ _ _ _ _ _ us hl => match us, hl with | [_], _ => rfl) (fun vs H Q E h => ?_) (fun cdv A outer s H vs Q E hr h => ?_)
  · obtain ⟨t, rfl, _⟩ := h
    rfl
  obtain ⟨t, rfl, t0, t1, k⟩ := h
  refine ⟨_, (pss_one (ps_if (pt_not (pt_val (pe_call G_is_integer_within.one (hr.mono (by decide)) (by rfl) T.g_is_integer_within G_is_integer_within.kp G_is_integer_within.two .nil passL (pa_cons (pv 0) (pa_cons pe_int (pa_cons (pe_gint (by rfl) T.c_LAST_TICK) pa_nil)))))) (pss_one ps_never) pss_nil)), ?_⟩
  refine ⟨_, rfl, .int t, 0, 1000000000000000000, rfl, .int t, true, by rw [inB_in t0 t1], ?_⟩
  exact k
theorem ok_first_invalid_item (T : Txt K mg) : OkF P w K mg base 2 (He.ga K "first_invalid_item") ["pattern"] spFii := by
  have G_is_integer_within : OkF P w K mg base 1 (He.ga K "is_integer_within") ["value", "low", "high"] spWithin := ok_is_integer_within T
  refine FnP.okF T.f_first_invalid_item sc_first_invalid_item (fun _ _ _ _ _ _ us hl => match us, hl with | [_], _ => rfl) (fun vs H Q E h => ?_) (fun cdv A outer s H vs Q E hr h => ?_)
  · obtain ⟨p, ps, rfl, _⟩ := h
    rfl
  obtain ⟨p, ps, rfl, hp, hP, k⟩ := h
  refine ⟨_, (pss_cons (ps_if (PW.pt (pw_or (pt_not (pt_val (pe_callB (isiK (K := K)) (by rfl) T.g_isinstance (by decide +kernel) (pa_cons (pv 0) (pa_cons (pe_bltn (v := .ty "tuple") (by rfl) T.g_tuple boot_ty_tuple rfl) pa_nil))))) (pw_or1 (pt_cmpR op_eq (pe_callB (lenK (K := K)) (by rfl) T.g_len (by decide +kernel) (pa_cons (pv 0) pa_nil)) pe_int (nomark _))))) (pss_one (ps_ret pe_int)) pss_nil)
    (pss_cons (ps_for own_cx rfl (pi_enumT (by rfl) T.g_enumerate (pa_cons (pv 0) pa_nil)) (pg_tup rfl (pgs_cons (pg_name (i := 1) sc_first_invalid_item.nd rfl (Or.inl rfl)) (pgs_cons (pg_name (i := 2) sc_first_invalid_item.nd rfl (Or.inl rfl)) pgs_nil)))
      (pss_one (ps_if (PW.pt (pw_or (pt_cmpR op_eq (pv 1) (pe_gint (by rfl) T.c_MOST_ITEMS) (nomark _)) (pw_or1 (pt_not (pt_val (pe_call G_is_integer_within.one (hr.mono (by decide)) (by rfl) T.g_is_integer_within G_is_integer_within.kp G_is_integer_within.two .nil passL (pa_cons (pv 2) (pa_cons pe_int (pa_cons (pe_gint (by rfl) T.c_GREATEST_ITEM) pa_nil))))))))) (pss_one (ps_ret (pv 1))) pss_nil)))
    (pss_one (ps_ret pe_non)))), ?_⟩
  -- not a tuple, or empty
  refine ⟨_, rfl, .ref p, .ty "tuple", .type "tuple", _, true, rfl, .ty "tuple", .base (.tup hp), kit_at (by decide +kernel), true, rfl, ?_⟩
  refine ⟨_, rfl, p, _, rfl, .inr (SqT.of hp), rfl, _, rfl, ?_⟩
  refine ite2 (fun c => ?_) (fun _ => ?_)
  · exfalso
    have e : V.int ((ps.map vn).length : Int) = V.int 0 := of_decide_eq_true c
    have e2 : ((ps.map vn).length : Int) = 0 := by injection e
    rw [List.length_map] at e2
    have := hP.pos
    omega
  refine ⟨_, rfl, p, _, rfl, SqT.of hp, for_enumT (K := K) (a := p) (xs := ps.map vn) (fun i σ H2 => ∃ a b, σ = [some (.ref p), a, b] ∧ Same H H2) ⟨_, _, rfl, Same.refl H⟩
    (fun i σ H2 _ ⟨_, _, _, e⟩ => SqT.of (e _ _ hp)) ?_ ?_⟩
  · rintro i x σ H2 hx ⟨a, b, rfl, hS⟩ Tp hT
    have hi : i < ps.length := by
      have := (List.getElem?_eq_some_iff.mp hx).1
      rwa [List.length_map] at this
    obtain ⟨y, rfl, hy⟩ : ∃ y, x = vn y ∧ ps[i]? = some y := by
      rw [List.getElem?_map] at hx
      cases e : ps[i]? with
      | none => rw [e] at hx; cases hx
      | some u => rw [e] at hx; exact ⟨u, (Option.some.inj hx).symm, rfl⟩
    have y9 := hP.nine y (List.mem_of_getElem? hy)
    have hS2 : Same H (upd H2 Tp (.tup [vnI i, vn y])) := Same.upd2 hT hS
    refine ⟨Tp, _, rfl, SqT.of upd_same, rfl, _, _, rfl, _, _, rfl, rfl, ?_⟩
    refine ⟨_, rfl, rfl, _, rfl, ?_⟩
    refine ite2 (fun c => ?_) (fun _ => ?_)
    · exfalso
      have e : V.int (i : Int) = V.int 12 := of_decide_eq_true c
      have e2 : (i : Int) = 12 := by injection e
      have := hP.len
      omega
    refine ⟨_, rfl, vn y, 0, 9, rfl, .int _, true, by rw [inB_in (by omega) (by omega)], ?_⟩
    exact ⟨_, _, rfl, hS2⟩
  · rintro σ H2 ⟨a, b, rfl, hS⟩
    exact k H2 hS
theorem ok_check_pattern (T : Txt K mg) : OkF P w K mg base 3 (He.ga K "check_pattern") ["part", "pattern"] spChk := by
  have G_first_invalid_item : OkF P w K mg base 2 (He.ga K "first_invalid_item") ["pattern"] spFii := ok_first_invalid_item T
  refine FnP.okF T.f_check_pattern sc_check_pattern (fun _ _ _ _ _ _ us hl => match us, hl with | [_, _], _ => rfl) (fun vs H Q E h => ?_) (fun cdv A outer s H vs Q E hr h => ?_)
  · obtain ⟨v, p, ps, rfl, _⟩ := h
    rfl
  obtain ⟨v, p, ps, rfl, hp, hP, k⟩ := h
  refine ⟨_, (pss_cons (ps_set (i := 2) sc_check_pattern.nd rfl (Or.inl rfl) (pe_call G_first_invalid_item.one (hr.mono (by decide)) (by rfl) T.g_first_invalid_item G_first_invalid_item.kp G_first_invalid_item.two .nil passL (pa_cons (pv 1) pa_nil)))
    (pss_one (ps_if (pt_cmpR (show OpR _ (compareOp .IsNot) Rd.rNotN from op_notN) (pv 2) pe_non (nomark _)) (pss_one ps_never) pss_nil))), ?_⟩
  refine ⟨_, rfl, p, ps, rfl, hp, hP, fun H' hS => ?_⟩
  refine ⟨_, rfl, rfl, _, rfl, ?_⟩
  exact k H' hS
theorem ok_check_hall (T : Txt K mg) : OkF P w K mg base 4 (He.ga K "check_hall") ["modulus", "takes", "calls", "lateness"] spChall := by
  have G_is_integer_within : OkF P w K mg base 1 (He.ga K "is_integer_within") ["value", "low", "high"] spWithin := ok_is_integer_within T
  have G_check_pattern : OkF P w K mg base 3 (He.ga K "check_pattern") ["part", "pattern"] spChk := ok_check_pattern T
  refine FnP.okF T.f_check_hall sc_check_hall (fun _ _ _ _ _ _ us hl => match us, hl with | [_, _, _, _], _ => rfl) (fun vs H Q E h => ?_) (fun cdv A outer s H vs Q E hr h => ?_)
  · obtain ⟨tp, cp, m, lt, tk, cl, rfl, _⟩ := h
    rfl
  obtain ⟨tp, cp, m, lt, tk, cl, rfl, htp, hcp, hP, k⟩ := h
  refine ⟨_, (pss_cons (ps_if (pt_not (pt_val (pe_call G_is_integer_within.one (hr.mono (by decide)) (by rfl) T.g_is_integer_within G_is_integer_within.kp G_is_integer_within.two .nil passL (pa_cons (pv 0) (pa_cons (pe_gint (by rfl) T.c_LEAST_MODULUS) (pa_cons (pe_gint (by rfl) T.c_GREATEST_MODULUS) pa_nil)))))) (pss_one ps_never) pss_nil)
    (pss_cons (ps_expr (pe_call G_check_pattern.one (hr.mono (by decide)) (by rfl) T.g_check_pattern G_check_pattern.kp G_check_pattern.two .nil passL (pa_cons pe_str (pa_cons (pv 1) pa_nil))))
    (pss_cons (ps_expr (pe_call G_check_pattern.one (hr.mono (by decide)) (by rfl) T.g_check_pattern G_check_pattern.kp G_check_pattern.two .nil passL (pa_cons pe_str (pa_cons (pv 2) pa_nil))))
    (pss_one (ps_if (pt_not (pt_val (pe_call G_is_integer_within.one (hr.mono (by decide)) (by rfl) T.g_is_integer_within G_is_integer_within.kp G_is_integer_within.two .nil passL (pa_cons (pv 3) (pa_cons pe_int (pa_cons (pe_gint (by rfl) T.c_GREATEST_LATENESS) pa_nil)))))) (pss_one ps_never) pss_nil))))), ?_⟩
  have m2 := hP.m2
  have m4 := hP.m4
  have l9 := hP.l99
  refine ⟨_, rfl, vn m, 2, 10000, rfl, .int _, true, by rw [inB_in (by omega) (by omega)], ?_⟩
  refine ⟨_, rfl, _, tp, tk, rfl, htp, hP.tkP, fun H1 S1 => ?_⟩
  refine ⟨_, rfl, _, cp, cl, rfl, S1 _ _ hcp, hP.clP, fun H2 S2 => ?_⟩
  refine ⟨_, rfl, vn lt, 0, 99, rfl, .int _, true, by rw [inB_in (by omega) (by omega)], ?_⟩
  exact k H2 (S1.trans S2)
end
end Tk

/-! ### The hall -/
namespace Tk
open PySem PySem.Spec PyProof.Rows L2 Mm
def calV (tk cl : List Nat) (n : Nat) : List V := (List.range (n + 1)).map fun t => vn (cal tk cl t)
theorem calV_len {tk cl : List Nat} {n : Nat} : (calV tk cl n).length = n + 1 := by unfold calV; simp
theorem calV_at {tk cl : List Nat} {n t : Nat} (h : t ≤ n) : (calV tk cl n)[t]? = some (vn (cal tk cl t)) := by
  unfold calV
  rw [List.getElem?_map, List.getElem?_range (by omega)]
  rfl
theorem calV_succ {tk cl : List Nat} {n : Nat} : calV tk cl (n + 1) = calV tk cl n ++ [vn (cal tk cl (n + 1))] := by
  unfold calV
  rw [List.range_succ, List.map_append]
  rfl
theorem pat_at {ps : List Nat} (h : 0 < ps.length) {z : Int} {i : Nat} (e : z = (i : Int)) : atI (ps.map vn) (z % ((ps.map vn).length : Int)) = some (vn (atp ps i)) := by
  subst e
  rw [List.length_map, show (i : Int) % (ps.length : Int) = ((i % ps.length : Nat) : Int) from (Int.natCast_emod _ _).symm]
  refine atn ?_
  have lt := Nat.mod_lt i h
  rw [List.getElem?_map]
  unfold atp
  rw [List.getD_eq_getElem?_getD, List.getElem?_eq_getElem lt]
  rfl
def hfs (m : Nat) (tp cp : Addr) (lt : Nat) (lp : Addr) : List (Str × V) := putF "_called" (.ref lp) (putF "lateness" (vn lt) (putF "calls" (.ref cp) (putF "takes" (.ref tp) (putF "modulus" (vn m) []))))
theorem hfs_no {m : Nat} {tp cp : Addr} {lt : Nat} {lp : Addr} {x : Str} (h1 : ¬ x = "_called") (h2 : ¬ x = "lateness") (h3 : ¬ x = "calls") (h4 : ¬ x = "takes") (h5 : ¬ x = "modulus") : (hfs m tp cp lt lp).lookup x = none := by
  unfold hfs
  rw [lookup_putF, if_neg h1, lookup_putF, if_neg h2, lookup_putF, if_neg h3, lookup_putF, if_neg h4, lookup_putF, if_neg h5]
  rfl
theorem hfs_takes {m : Nat} {tp cp : Addr} {lt : Nat} {lp : Addr} : (hfs m tp cp lt lp).lookup ("takes" : Str) = some (.ref tp) := by
  unfold hfs
  rw [lookup_putF, if_neg (by decide +kernel), lookup_putF, if_neg (by decide +kernel), lookup_putF, if_neg (by decide +kernel), lookup_putF, if_pos rfl]
theorem hfs_calls {m : Nat} {tp cp : Addr} {lt : Nat} {lp : Addr} : (hfs m tp cp lt lp).lookup ("calls" : Str) = some (.ref cp) := by
  unfold hfs
  rw [lookup_putF, if_neg (by decide +kernel), lookup_putF, if_neg (by decide +kernel), lookup_putF, if_pos rfl]
theorem hfs_lateness {m : Nat} {tp cp : Addr} {lt : Nat} {lp : Addr} : (hfs m tp cp lt lp).lookup ("lateness" : Str) = some (vn lt) := by
  unfold hfs
  rw [lookup_putF, if_neg (by decide +kernel), lookup_putF, if_pos rfl]
theorem hfs_called {m : Nat} {tp cp : Addr} {lt : Nat} {lp : Addr} : (hfs m tp cp lt lp).lookup ("_called" : Str) = some (.ref lp) := by
  unfold hfs
  rw [lookup_putF, if_pos rfl]
theorem hfs_modulus {m : Nat} {tp cp : Addr} {lt : Nat} {lp : Addr} : (hfs m tp cp lt lp).lookup ("modulus" : Str) = some (vn m) := by
  unfold hfs
  rw [lookup_putF, if_neg (by decide +kernel), lookup_putF, if_neg (by decide +kernel), lookup_putF, if_neg (by decide +kernel), lookup_putF, if_neg (by decide +kernel), lookup_putF, if_pos rfl]
/-- a hall at h, its numbers of calls at lp -/
structure HallAt (C : Addr) (H : Hp) (h : Addr) (m : Nat) (tk cl : List Nat) (lt : Nat) (lp : Addr) : Prop where
  ex : ∃ dx tp cp, H h = some (.ins C dx (hfs m tp cp lt lp)) ∧ H tp = some (.tup (tk.map vn)) ∧ H cp = some (.tup (cl.map vn))
  lst : H lp = some (.lst (calV tk cl (2 * per tk cl)))
  ok : Parts m tk cl lt
theorem HallAt.but {C d h lp : Addr} {H H' : Hp} {m lt : Nat} {tk cl : List Nat} {cs : List V} (p : HallAt C H h m tk cl lt lp) (b : But d H H') (hd : H d = some (.lst cs)) (n : lp ≠ d) : HallAt C H' h m tk cl lt lp := by
  obtain ⟨dx, tp, cp, h1, h2, h3⟩ := p.ex
  exact ⟨⟨dx, tp, cp, b _ _ (ne_of h1 hd (fun q => by cases q)) h1, b _ _ (ne_of h2 hd (fun q => by cases q)) h2, b _ _ (ne_of h3 hd (fun q => by cases q)) h3⟩, b _ _ n p.lst, p.ok⟩
theorem HallAt.same {C h lp : Addr} {H H' : Hp} {m lt : Nat} {tk cl : List Nat} (p : HallAt C H h m tk cl lt lp) (b : Same H H') : HallAt C H' h m tk cl lt lp := by
  obtain ⟨dx, tp, cp, h1, h2, h3⟩ := p.ex
  exact ⟨⟨dx, tp, cp, b _ _ h1, b _ _ h2, b _ _ h3⟩, b _ _ p.lst, p.ok⟩
def spCount : Sp := fun vs H Q _ => ∃ (tp cp : Addr) (tk cl : List Nat) (n : Nat), vs = [.ref tp, .ref cp, vn n] ∧ H tp = some (.tup (tk.map vn)) ∧ H cp = some (.tup (cl.map vn)) ∧ Pat tk ∧ Pat cl ∧ n ≤ 1000 ∧
  ∀ l H', H l = none → Same H H' → H' l = some (.lst (calV tk cl n)) → Q (.ref l) H'
def spPeriod (C : Addr) : Sp := fun vs H Q _ => ∃ (h dx tp cp : Addr) (fs : List (Str × V)) (tk cl : List Nat), vs = [.ref h] ∧ H h = some (.ins C dx fs) ∧ fs.lookup ("takes" : Str) = some (.ref tp) ∧ fs.lookup ("calls" : Str) = some (.ref cp) ∧
  H tp = some (.tup (tk.map vn)) ∧ H cp = some (.tup (cl.map vn)) ∧ Pat tk ∧ Pat cl ∧ Q (vn (per tk cl)) H
def spInit (C : Addr) : Sp := fun vs H Q _ => ∃ (x dx tp cp : Addr) (m lt : Nat) (tk cl : List Nat), vs = [.ref x, vn m, .ref tp, .ref cp, vn lt] ∧ H x = some (.ins C dx []) ∧ H tp = some (.tup (tk.map vn)) ∧ H cp = some (.tup (cl.map vn)) ∧ Parts m tk cl lt ∧
  ∀ H' lp, But x H H' → H lp = none → HallAt C H' x m tk cl lt lp → Q .non H'
theorem per_144 {tk cl : List Nat} (h1 : Pat tk) (h2 : Pat cl) : per tk cl ≤ 144 := by
  have := per_le (tk := tk) (cl := cl)
  have a := Nat.mul_le_mul h1.len h2.len
  omega
theorem vn_int {z : Int} {n : Nat} (h : z = (n : Int)) : V.int z = vn n := by rw [h]
section
variable {P : Program} {w : World} {K : PySem.W.Frag} {mg : Str → Option Value} {base : Heap}
theorem ok_count_calls (T : Txt K mg) : OkF P w K mg base 1 (He.ga K "count_calls") ["takes", "calls", "ticks"] spCount := by
  refine FnP.okF T.f_count_calls sc_count_calls (fun _ _ _ _ _ _ us hl => match us, hl with | [_, _, _], _ => rfl) (fun vs H Q E h => ?_) (fun cdv A outer s H vs Q E hr h => ?_)
  · obtain ⟨tp, cp, tk, cl, n, rfl, _⟩ := h
    rfl
  obtain ⟨tp, cp, tk, cl, n, rfl, htp, hcp, hT, hC, hn, k⟩ := h
  refine ⟨_, (pss_cons (ps_set (i := 3) sc_count_calls.nd rfl (Or.inl rfl) (pe_lst (pa_cons pe_int pa_nil)))
    (pss_cons (ps_set (i := 4) sc_count_calls.nd rfl (Or.inl rfl) pe_int)
    (pss_cons (ps_for own_cx rfl (pi_range1 (by rfl) T.g_range (pa_cons (pv 2) pa_nil)) (pg_name (i := 5) sc_count_calls.nd rfl (Or.inl rfl))
      (pss_cons (ps_aug (i := 4) sc_count_calls.nd rfl (Or.inl rfl) (pe_ix (ixTK (K := K)) (pv 0) (pe_op op_mod (pv 5) (pe_callB (lenK (K := K)) (by rfl) T.g_len (by decide +kernel) (pa_cons (pv 0) pa_nil))) (fun _ _ => rfl)) ip_add)
    (pss_cons (ps_set (i := 6) sc_count_calls.nd rfl (Or.inl rfl) (pe_callB (show CallR _ (.builtin "min") Rd.rMin2 from call_min2 (by rfl)) (by rfl) T.g_min (by decide +kernel) (pa_cons (pv 4) (pa_cons (pe_ix (ixTK (K := K)) (pv 1) (pe_op op_mod (pv 5) (pe_callB (lenK (K := K)) (by rfl) T.g_len (by decide +kernel) (pa_cons (pv 1) pa_nil))) (fun _ _ => rfl)) pa_nil))))
    (pss_cons (ps_aug (i := 4) sc_count_calls.nd rfl (Or.inl rfl) (pv 6) ip_sub)
    (pss_one (ps_expr (pe_bm PySem.F.plainAttrs_list PySem.F.slot_list_append PySem.F.type_list_append mt_append (pv 3) (pa_cons (pe_op op_add (pe_ix (ixLK (K := K)) (pv 3) (pv 5) (fun _ _ => rfl)) (pv 6)) pa_nil))))))))
    (pss_one (ps_ret (pv 3)))))), ?_⟩
  refine ⟨(by show 1 ≤ sizeLine; decide), fun l hl => ?_⟩
  have nl : ∀ {q : Addr} {o : HO}, H q = some o → q ≠ l := fun e => ne_of_none e hl
  refine ⟨_, rfl, (n : Int), rfl, by omega, by omega, for_range (lo := 0) (n := ((n : Int)).toNat) (fun i σ H2 => ∃ a b, σ = [some (.ref tp), some (.ref cp), some (vn n), some (.ref l), some (vn (wt tk cl i)), a, b] ∧ H2 = upd H l (.lst (calV tk cl i)))
    ⟨_, _, rfl, rfl⟩ ?_ ?_⟩
  · rintro i σ H2 hi ⟨a, b, rfl, rfl⟩
    have hi2 : i < n := by simpa using hi
    have t1 : upd H l (.lst (calV tk cl i)) tp = some (.tup (tk.map vn)) := by rw [upd_ne (nl htp)]; exact htp
    have t2 : upd H l (.lst (calV tk cl i)) cp = some (.tup (cl.map vn)) := by rw [upd_ne (nl hcp)]; exact hcp
    have L1 := hT.pos
    have L2 := hC.pos
    -- waiting += takes[tick % len(takes)]
    refine ⟨_, rfl, _, rfl, _, rfl, _, rfl, tp, _, rfl, .inr (SqT.of t1), _, _, rfl, rfl, (by show (0 : Int) < ((tk.map vn).length : Int); rw [List.length_map]; omega), tp, _, _, _, rfl, rfl, SqT.of t1, pat_at L1 (Int.zero_add _), _, _, rfl, rfl, ?_⟩
    -- now = min(waiting, calls[tick % len(calls)])
    refine ⟨_, rfl, _, rfl, _, rfl, _, rfl, cp, _, rfl, .inr (SqT.of t2), _, _, rfl, rfl, (by show (0 : Int) < ((cl.map vn).length : Int); rw [List.length_map]; omega), cp, _, _, _, rfl, rfl, SqT.of t2, pat_at L2 (Int.zero_add _), _, _, rfl, ?_⟩
    have em : V.int (if (atp cl i : Int) < ((wt tk cl i : Int) + (atp tk i : Int)) then (atp cl i : Int) else ((wt tk cl i : Int) + (atp tk i : Int))) = vn (min (wt tk cl i + atp tk i) (atp cl i)) := by
      refine vn_int ?_
      split <;> omega
    rw [em]
    -- waiting -= now
    refine ⟨_, rfl, _, rfl, _, _, rfl, rfl, ?_⟩
    -- called.append(called[tick] + now)
    refine ⟨_, rfl, .inl ⟨rfl, _, SqL.of upd_same⟩, _, rfl, _, rfl, l, _, _, _, rfl, rfl, SqL.of upd_same, (show atI (calV tk cl i) ((0 : Int) + (i : Int)) = some (vn (cal tk cl i)) by rw [Int.zero_add]; exact atn (calV_at (Nat.le_refl i))), _, rfl, _, _, rfl, rfl, ?_⟩
    refine ⟨l, _, _, rfl, rfl, upd_same, small1000 (by rw [calV_len]; omega), some (.int (0 + (i : Int))), some (vn (min (wt tk cl i + atp tk i) (atp cl i))), ?_, ?_⟩
    · have e1 : V.int ((wt tk cl i : Int) + (atp tk i : Int) - ((min (wt tk cl i + atp tk i) (atp cl i) : Nat) : Int)) = vn (wt tk cl (i + 1)) := vn_int (by rw [wt_succ]; omega)
      rw [← e1]
      rfl
    · rw [upd_upd, calV_succ]
      have e2 : V.int ((cal tk cl i : Int) + ((min (wt tk cl i + atp tk i) (atp cl i) : Nat) : Int)) = vn (cal tk cl (i + 1)) := vn_int (by rw [cal_succ]; omega)
      rw [← e2]
  · rintro σ H2 ⟨a, b, rfl, rfl⟩
    refine ⟨_, rfl, k l _ hl (Same.new hl) ?_⟩
    rw [upd_same]
    simp
theorem ok_period (T : Txt K mg) : OkF P w K mg base 1 (getAt K (He.ga K "Hall") "period") ["self"] (spPeriod (He.ga K "Hall")) := by
  refine FnP.okF T.f_period sc_period (fun _ _ _ _ _ _ us hl => match us, hl with | [_], _ => rfl) (fun vs H Q E h => ?_) (fun cdv A outer s H vs Q E hr h => ?_)
  · obtain ⟨h, _, _, _, _, _, _, rfl, _⟩ := h
    rfl
  obtain ⟨h, dx, tp, cp, fs, tk, cl, rfl, hh, f1, f2, htp, hcp, hT, hC, k⟩ := h
  refine ⟨_, (pss_one (ps_ret (pfun cr_lcm (by rfl) T.g_lcm (pa_cons (pe_callB (lenK (K := K)) (by rfl) T.g_len (by decide +kernel) (pa_cons (pe_fld (pv 0) rfl) pa_nil)) (pa_cons (pe_callB (lenK (K := K)) (by rfl) T.g_len (by decide +kernel) (pa_cons (pe_fld (pv 0) rfl) pa_nil)) pa_nil))))), ?_⟩
  have a1 := hT.len
  have a2 := hC.len
  refine ⟨_, rfl, h, _, dx, fs, _, rfl, hh, T.cl_Hall, T.n_takes, f1, tp, _, rfl, .inr (SqT.of htp), ?_⟩
  refine ⟨_, rfl, h, _, dx, fs, _, rfl, hh, T.cl_Hall, T.n_calls, f2, cp, _, rfl, .inr (SqT.of hcp), ?_⟩
  refine ⟨_, _, rfl, by rw [List.length_map]; omega, by rw [List.length_map]; omega, ?_⟩
  rw [List.length_map, List.length_map]
  exact k
theorem ok_init (T : Txt K mg) : OkF P w K mg base 5 (He.ma K (He.ga K "Hall") "__init__") ["self", "modulus", "takes", "calls", "lateness"] (spInit (He.ga K "Hall")) := by
  have G_check_hall : OkF P w K mg base 4 (He.ga K "check_hall") ["modulus", "takes", "calls", "lateness"] spChall := ok_check_hall T
  have G_count_calls : OkF P w K mg base 1 (He.ga K "count_calls") ["takes", "calls", "ticks"] spCount := ok_count_calls T
  have G_period : OkF P w K mg base 1 (getAt K (He.ga K "Hall") "period") ["self"] (spPeriod (He.ga K "Hall")) := ok_period T
  refine FnP.okF T.f_init sc_init (fun _ _ _ _ _ _ us hl => match us, hl with | [_, _, _, _, _], _ => rfl) (fun vs H Q E h => ?_) (fun cdv A outer s H vs Q E hr h => ?_)
  · obtain ⟨x, _, _, _, _, _, _, _, rfl, _⟩ := h
    rfl
  obtain ⟨x, dx, tp, cp, m, lt, tk, cl, rfl, hx, htp, hcp, hP, k⟩ := h
  refine ⟨_, (pss_cons (ps_expr (pe_call G_check_hall.one (hr.mono (by decide)) (by rfl) T.g_check_hall G_check_hall.kp G_check_hall.two .nil passL (pa_cons (pv 1) (pa_cons (pv 2) (pa_cons (pv 3) (pa_cons (pv 4) pa_nil))))))
    (pss_cons (ps_fld (pv 0) (pv 1) rfl)
    (pss_cons (ps_fld (pv 0) (pv 2) rfl)
    (pss_cons (ps_fld (pv 0) (pv 3) rfl)
    (pss_cons (ps_fld (pv 0) (pv 4) rfl)
    (pss_one (ps_fld (pv 0) (pe_call G_count_calls.one (hr.mono (by decide)) (by rfl) T.g_count_calls G_count_calls.kp G_count_calls.two .nil passL (pa_cons (pv 2) (pa_cons (pv 3) (pa_cons (pe_op op_mul pe_int (pe_prop (pv 0) T.cl_Hall T.p_period G_period.one (hr.mono (by decide)) G_period.two .nil passL (by rfl))) pa_nil)))) rfl))))))), ?_⟩
  refine ⟨_, rfl, _, rfl, _, rfl, _, rfl, tp, cp, m, lt, tk, cl, rfl, htp, hcp, hP, fun H1 S1 => ?_⟩
  have x1 := S1 _ _ hx
  have n1 : tp ≠ x := ne_of htp hx (fun q => by cases q)
  have n2 : cp ≠ x := ne_of hcp hx (fun q => by cases q)
  have len1 : ∀ (f : Str) (v : V) (fs : List (Str × V)) (n : Nat), fs.length ≤ n → (putF f v fs).length ≤ n + 1 := fun f v fs n h => Nat.le_trans (length_putF f v fs) (Nat.succ_le_succ h)
  refine ⟨_, rfl, _, rfl, x, _, dx, _, rfl, x1, T.cl_Hall, T.n_modulus, (by decide), ?_⟩
  refine ⟨_, rfl, _, rfl, x, _, dx, _, rfl, upd_same, T.cl_Hall, T.n_takes, Nat.lt_of_le_of_lt (len1 _ _ _ 0 (Nat.le_refl 0)) (by decide), ?_⟩
  refine ⟨_, rfl, _, rfl, x, _, dx, _, rfl, upd_same, T.cl_Hall, T.n_calls, Nat.lt_of_le_of_lt (len1 _ _ _ 1 (len1 _ _ _ 0 (Nat.le_refl 0))) (by decide), ?_⟩
  refine ⟨_, rfl, _, rfl, x, _, dx, _, rfl, upd_same, T.cl_Hall, T.n_lateness, Nat.lt_of_le_of_lt (len1 _ _ _ 2 (len1 _ _ _ 1 (len1 _ _ _ 0 (Nat.le_refl 0)))) (by decide), ?_⟩
  rw [upd_upd, upd_upd, upd_upd]
  have t1 : ∀ o, upd H1 x o tp = some (.tup (tk.map vn)) := fun o => by rw [upd_ne n1]; exact S1 _ _ htp
  have t2 : ∀ o, upd H1 x o cp = some (.tup (cl.map vn)) := fun o => by rw [upd_ne n2]; exact S1 _ _ hcp
  have p144 := per_144 hP.tkP hP.clP
  -- self._called = count_calls(takes, calls, 2 * self.period)
  refine ⟨_, rfl, _, rfl, _, rfl, x, dx, _, rfl, upd_same, x, dx, tp, cp, _, tk, cl, rfl, upd_same, ?_, ?_, t1 _, t2 _, hP.tkP, hP.clP, ?_⟩
  · rw [lookup_putF, if_neg (by decide +kernel), lookup_putF, if_neg (by decide +kernel), lookup_putF, if_pos rfl]
  · rw [lookup_putF, if_neg (by decide +kernel), lookup_putF, if_pos rfl]
  refine ⟨2, _, rfl, rfl, .inl ⟨by decide, by decide⟩, tp, cp, tk, cl, 2 * per tk cl, by simp, t1 _, t2 _, hP.tkP, hP.clP, by omega, fun lp H2 n3 S2 h2 => ?_⟩
  have nx : x ≠ lp := fun e => by rw [e, upd_same] at n3; cases n3
  have n4 : H lp = none := by
    rw [upd_ne (Ne.symm nx)] at n3
    exact S1.free n3
  refine ⟨_, rfl, x, _, dx, _, rfl, S2 _ _ upd_same, T.cl_Hall, T.n__called, Nat.lt_of_le_of_lt (len1 _ _ _ 3 (len1 _ _ _ 2 (len1 _ _ _ 1 (len1 _ _ _ 0 (Nat.le_refl 0))))) (by decide), ?_⟩
  refine k _ lp (fun b o nb e => ?_) n4 ⟨⟨dx, tp, cp, upd_same, ?_, ?_⟩, ?_, hP⟩
  · rw [upd_ne nb]
    exact S2 _ _ (by rw [upd_ne nb]; exact S1 _ _ e)
  · rw [upd_ne n1]
    exact S2 _ _ (t1 _)
  · rw [upd_ne n2]
    exact S2 _ _ (t2 _)
  · rw [upd_ne (Ne.symm nx)]
    exact h2
end
end Tk

/-! ### The hall's methods -/
namespace Tk
open PySem PySem.Spec PyProof.Rows L2 Mm
def spTaken (C : Addr) : Sp := fun vs H Q _ => ∃ (h lp : Addr) (z : Int) (m lt : Nat) (tk cl : List Nat), vs = [.ref h, .int z] ∧ HallAt C H h m tk cl lt lp ∧ ∀ H', Same H H' → Q (vn (tak tk z.toNat)) H'
def spCalled (C : Addr) : Sp := fun vs H Q _ => ∃ (h lp : Addr) (z : Int) (m lt : Nat) (tk cl : List Nat), vs = [.ref h, .int z] ∧ HallAt C H h m tk cl lt lp ∧ Q (vn (cal tk cl z.toNat)) H
def spWaiting (C : Addr) : Sp := fun vs H Q _ => ∃ (h lp : Addr) (n : Nat) (m lt : Nat) (tk cl : List Nat), vs = [.ref h, vn n] ∧ n ≤ 1000000000000000000 ∧ HallAt C H h m tk cl lt lp ∧ ∀ H', Same H H' → Q (vn (wt tk cl (n + 1))) H'
def grow (tk cl : List Nat) : Nat := wt tk cl (2 * per tk cl + 1) - wt tk cl (per tk cl + 1)
def spGrowth (C : Addr) : Sp := fun vs H Q _ => ∃ (h lp : Addr) (m lt : Nat) (tk cl : List Nat), vs = [.ref h] ∧ HallAt C H h m tk cl lt lp ∧ ∀ H', Same H H' → Q (vn (grow tk cl)) H'
theorem map_vn (tk : List Nat) : (tk.map (fun n : Nat => (n : Int))).map V.int = tk.map vn := by rw [List.map_map]; rfl
theorem sum_cast (tk : List Nat) : (tk.map (fun n : Nat => (n : Int))).sum = ((tk.sum : Nat) : Int) := by
  induction tk with
  | nil => rfl
  | cons a r ih => rw [List.map_cons, List.sum_cons, List.sum_cons, ih]; omega
theorem max0 (z : Int) : (if (0 : Int) > z then (0 : Int) else z) = ((z.toNat : Nat) : Int) := by split <;> omega
section
variable {P : Program} {w : World} {K : PySem.W.Frag} {mg : Str → Option Value} {base : Heap}
theorem ok_called (T : Txt K mg) : OkF P w K mg base 3 (He.ma K (He.ga K "Hall") "called") ["self", "tick"] (spCalled (He.ga K "Hall")) := by
  have G_period : OkF P w K mg base 1 (getAt K (He.ga K "Hall") "period") ["self"] (spPeriod (He.ga K "Hall")) := ok_period T
  refine FnP.okF T.f_called sc_called (fun _ _ _ _ _ _ us hl => match us, hl with | [_, _], _ => rfl) (fun vs H Q E h => ?_) (fun cdv A outer s H vs Q E hr h => ?_)
  · obtain ⟨h, _, _, _, _, _, _, rfl, _⟩ := h
    rfl
  obtain ⟨h, lp, z, m, lt, tk, cl, rfl, hA, k⟩ := h
  obtain ⟨dx, tp, cp, hh, htp, hcp⟩ := hA.ex
  have p0 := per_pos hA.ok.tkP.pos hA.ok.clP.pos
  have p144 := per_144 hA.ok.tkP hA.ok.clP
  have ht := per_tk (tk := tk) (cl := cl)
  have hc := per_cl (tk := tk) (cl := cl)
  generalize hp : per tk cl = p at *
  have hL : SqL K H lp (calV tk cl (2 * p)) := SqL.of (by rw [← hp]; exact hA.lst)
  refine ⟨_, (pss_cons (ps_set (i := 2) sc_called.nd rfl (Or.inl rfl) (pe_prop (pv 0) T.cl_Hall T.p_period G_period.one (hr.mono (by decide)) G_period.two .nil passL (by rfl)))
    (pss_cons (ps_set (i := 3) sc_called.nd rfl (Or.inl rfl) (pe_callB (show CallR _ (.builtin "max") Rd.rMax2 from call_max2 (by rfl)) (by rfl) T.g_max (by decide +kernel) (pa_cons (pe_op op_sub (pe_op op_fdiv (pv 1) (pv 2)) pe_int) (pa_cons pe_int pa_nil))))
    (pss_cons (ps_set (i := 4) sc_called.nd rfl (Or.inl rfl) (pe_op op_sub (pe_ix (ixLK (K := K)) (pe_fld (pv 0) rfl) (pe_op op_mul pe_int (pv 2)) (fun _ _ => rfl)) (pe_ix (ixLK (K := K)) (pe_fld (pv 0) rfl) (pv 2) (fun _ _ => rfl))))
    (pss_one (ps_ret (pe_op op_add (pe_op op_mul (pv 3) (pv 4)) (pe_ix (ixLK (K := K)) (pe_fld (pv 0) rfl) (pe_op op_sub (pe_callB (show CallR _ (.builtin "max") Rd.rMax2 from call_max2 (by rfl)) (by rfl) T.g_max (by decide +kernel) (pa_cons (pv 1) (pa_cons pe_int pa_nil))) (pe_op op_mul (pv 3) (pv 2))) (fun _ _ => rfl)))))))), ?_⟩
  refine ⟨_, rfl, h, dx, _, rfl, hh, h, dx, tp, cp, _, tk, cl, rfl, hh, hfs_takes, hfs_calls, htp, hcp, hA.ok.tkP, hA.ok.clP, ?_⟩
  rw [hp]
  -- skipped
  refine ⟨_, rfl, _, rfl, _, _, rfl, rfl, ⟨by omega, by omega⟩, _, _, rfl, rfl, _, _, rfl, ?_⟩
  have es : (if (0 : Int) > z / (p : Int) - 1 then (0 : Int) else z / (p : Int) - 1) = ((z.toNat / p - 1 : Nat) : Int) := by
    rcases Int.lt_or_le z 0 with n | n
    · have h1 : z / (p : Int) < 0 := Int.ediv_lt_of_lt_mul (by omega) (by omega)
      have h2 : z.toNat = 0 := by omega
      rw [h2, Nat.zero_div]
      split <;> omega
    · obtain ⟨q, rfl⟩ : ∃ q : Nat, z = (q : Int) := ⟨z.toNat, by omega⟩
      have h1 : (q : Int) / (p : Int) = ((q / p : Nat) : Int) := (Int.natCast_ediv _ _).symm
      rw [h1, Int.toNat_natCast]
      split <;> omega
  rw [es]
  generalize hs : z.toNat / p - 1 = sk
  -- in_period
  have mono := cal_mono (tk := tk) (cl := cl) (show p ≤ 2 * p by omega)
  have a1 : atI (calV tk cl (2 * p)) ((2 : Int) * (p : Int)) = some (vn (cal tk cl (2 * p))) := by
    rw [show (2 : Int) * (p : Int) = ((2 * p : Nat) : Int) by omega]
    exact atn (calV_at (Nat.le_refl _))
  have a2 : atI (calV tk cl (2 * p)) (p : Int) = some (vn (cal tk cl p)) := atn (calV_at (by omega))
  refine ⟨_, rfl, h, _, dx, _, _, rfl, hh, T.cl_Hall, T.n__called, hfs_called, _, rfl, _, _, rfl, rfl, .inl ⟨by decide, by decide⟩, lp, _, _, _, rfl, rfl, hL, a1, ?_⟩
  refine ⟨_, rfl, h, _, dx, _, _, rfl, hh, T.cl_Hall, T.n__called, hfs_called, _, rfl, lp, _, _, _, rfl, rfl, hL, a2, _, _, rfl, rfl, ?_⟩
  -- the end
  have small : cal tk cl (2 * p) - cal tk cl p ≤ 100000 := by
    have := cal_le (tk := tk) (cl := cl) (2 * p)
    have := tak_le hA.ok.tkP.nine (2 * p)
    omega
  refine ⟨_, rfl, _, rfl, _, _, rfl, rfl, .inr ⟨by omega, by omega⟩, ?_⟩
  refine ⟨_, rfl, h, _, dx, _, _, rfl, hh, T.cl_Hall, T.n__called, hfs_called, _, rfl, _, _, rfl, ?_⟩
  rw [max0]
  refine ⟨_, rfl, _, rfl, _, _, rfl, rfl, .inr ⟨by omega, by omega⟩, _, _, rfl, rfl, ?_⟩
  have sk_le : sk * p ≤ z.toNat := by
    rw [← hs]
    have := Nat.div_mul_le_self z.toNat p
    have := Nat.mul_le_mul_right p (Nat.sub_le (z.toNat / p) 1)
    omega
  have a3 : atI (calV tk cl (2 * p)) ((z.toNat : Int) - (sk : Int) * (p : Int)) = some (vn (cal tk cl (z.toNat - sk * p))) := by
    rw [show (z.toNat : Int) - (sk : Int) * (p : Int) = ((z.toNat - sk * p : Nat) : Int) by rw [Int.ofNat_sub sk_le, Int.natCast_mul]]
    refine atn (calV_at ?_)
    have := rest_lt p0 z.toNat
    rw [hs] at this
    omega
  refine ⟨lp, _, _, _, rfl, rfl, hL, a3, _, _, rfl, rfl, ?_⟩
  have e := cal_is p0 ht hc z.toNat
  rw [hs] at e
  have ev : V.int ((sk : Int) * ((cal tk cl (2 * p) : Int) - (cal tk cl p : Int)) + (cal tk cl (z.toNat - sk * p) : Int)) = vn (cal tk cl z.toNat) := by
    refine vn_int ?_
    rw [e, Int.natCast_add, Int.natCast_mul, Int.ofNat_sub mono]
  show Q (V.int ((sk : Int) * ((cal tk cl (2 * p) : Int) - (cal tk cl p : Int)) + (cal tk cl (z.toNat - sk * p) : Int))) H
  rw [ev]
  exact k
theorem ok_taken (T : Txt K mg) : OkF P w K mg base 1 (He.ma K (He.ga K "Hall") "taken") ["self", "tick"] (spTaken (He.ga K "Hall")) := by
  refine FnP.okF T.f_taken sc_taken (fun _ _ _ _ _ _ us hl => match us, hl with | [_, _], _ => rfl) (fun vs H Q E h => ?_) (fun cdv A outer s H vs Q E hr h => ?_)
  · obtain ⟨h, _, _, _, _, _, _, rfl, _⟩ := h
    rfl
  obtain ⟨h, lp, z, m, lt, tk, cl, rfl, hA, k⟩ := h
  obtain ⟨dx, tp, cp, hh, htp, hcp⟩ := hA.ex
  have n0 := hA.ok.tkP.pos
  have n12 := hA.ok.tkP.len
  refine ⟨_, (pss_cons (ps_asg (pe_callB call_divmod (by rfl) T.g_divmod (by decide +kernel) (pa_cons (pe_callB (show CallR _ (.builtin "max") Rd.rMax2 from call_max2 (by rfl)) (by rfl) T.g_max (by decide +kernel) (pa_cons (pv 1) (pa_cons pe_int pa_nil))) (pa_cons (pe_callB (lenK (K := K)) (by rfl) T.g_len (by decide +kernel) (pa_cons (pe_fld (pv 0) rfl) pa_nil)) pa_nil))) (pg_tup rfl (pgs_cons (pg_name (i := 2) sc_taken.nd rfl (Or.inl rfl)) (pgs_cons (pg_name (i := 3) sc_taken.nd rfl (Or.inl rfl)) pgs_nil))))
    (pss_one (ps_ret (pe_op op_add (pe_op op_mul (pv 2) (pe_callB (sumTK (K := K)) (by rfl) T.g_sum (by decide +kernel) (pa_cons (pe_fld (pv 0) rfl) pa_nil))) (pe_callB (sumTK (K := K)) (by rfl) T.g_sum (by decide +kernel) (pa_cons (pe_slice (slAK (K := K)) (pe_fld (pv 0) rfl) po_none (po_some (pv 3))) pa_nil)))))), ?_⟩
  -- rounds, rest = divmod(max(tick, 0), len(self.takes))
  refine ⟨_, rfl, _, _, rfl, ?_⟩
  rw [max0]
  refine ⟨_, rfl, h, _, dx, _, _, rfl, hh, T.cl_Hall, T.n_takes, hfs_takes, tp, _, rfl, .inr (SqT.of htp), _, _, rfl, ⟨by rw [List.length_map]; omega, by rw [List.length_map]; omega⟩, fun d hd => ?_⟩
  rw [List.length_map, show (z.toNat : Int) / (tk.length : Int) = ((z.toNat / tk.length : Nat) : Int) from (Int.natCast_ediv _ _).symm, show (z.toNat : Int) % (tk.length : Int) = ((z.toNat % tk.length : Nat) : Int) from (Int.natCast_emod _ _).symm]
  have rl := Nat.mod_lt z.toNat n0
  have S1 : Same H (upd H d (.tup [vn (z.toNat / tk.length), vn (z.toNat % tk.length)])) := Same.new hd
  generalize hH1 : upd H d (.tup [vn (z.toNat / tk.length), vn (z.toNat % tk.length)]) = H1 at S1
  refine ⟨d, _, rfl, SqT.of (by rw [← hH1]; exact upd_same), rfl, _, _, rfl, _, _, rfl, rfl, ?_⟩
  -- rounds * sum(self.takes) + sum(self.takes[:rest])
  have sm : ∀ x ∈ tk, x ≤ 9 := hA.ok.tkP.nine
  have s108 : tk.sum ≤ 108 := by
    have h1 := take_sum tk tk.length (Nat.le_refl _)
    have h2 := tak_le sm tk.length
    rw [List.take_length] at h1
    omega
  refine ⟨_, rfl, _, rfl, h, _, dx, _, _, rfl, S1 _ _ hh, T.cl_Hall, T.n_takes, hfs_takes, tp, tk.map (fun n : Nat => (n : Int)), rfl, by rw [map_vn]; exact SqT.of (S1 _ _ htp), _, _, rfl, rfl, .inr (by rw [sum_cast]; omega), ?_⟩
  have T1 : SqT K H1 tp (tk.map vn) := SqT.of (S1 _ _ htp)
  refine ⟨_, rfl, h, _, dx, _, _, rfl, S1 _ _ hh, T.cl_Hall, T.n_takes, hfs_takes, _, rfl, _, rfl, tp, _, rfl, T1, fun c => ?_, fun _ t ht => ?_⟩
  · exfalso
    have c2 := c.2
    rw [HT.sIx_nat, List.length_map] at c2
    omega
  have S2 : Same H (upd H1 t (.tup (cutV (tk.map vn) none (some ((z.toNat % tk.length : Nat) : Int))))) := S1.trans (Same.new ht)
  have ec : cutV (tk.map vn) none (some ((z.toNat % tk.length : Nat) : Int)) = (tk.take (z.toNat % tk.length)).map vn := by
    unfold cutV
    rw [HT.sIx_none, HT.sIx_nat, List.drop_zero, List.length_map, Nat.sub_zero, Nat.min_eq_left (Nat.le_of_lt rl), List.map_take]
  refine ⟨t, (tk.take (z.toNat % tk.length)).map (fun n : Nat => (n : Int)), rfl, by rw [map_vn, ec]; exact SqT.of upd_same, _, _, rfl, rfl, ?_⟩
  have ev : V.int (((z.toNat / tk.length : Nat) : Int) * (tk.map (fun n : Nat => (n : Int))).sum + ((tk.take (z.toNat % tk.length)).map (fun n : Nat => (n : Int))).sum) = vn (tak tk z.toNat) := by
    refine vn_int ?_
    rw [sum_cast, sum_cast, tak_is tk n0 z.toNat, Int.natCast_add, Int.natCast_mul]
  have q := k _ S2
  rw [← ev] at q
  exact q
theorem ok_waiting (T : Txt K mg) : OkF P w K mg base 4 (He.ma K (He.ga K "Hall") "waiting") ["self", "tick"] (spWaiting (He.ga K "Hall")) := by
  have G_check_tick : OkF P w K mg base 2 (He.ga K "check_tick") ["tick"] spTick := ok_check_tick T
  have G_taken : OkF P w K mg base 1 (He.ma K (He.ga K "Hall") "taken") ["self", "tick"] (spTaken (He.ga K "Hall")) := ok_taken T
  have G_called : OkF P w K mg base 3 (He.ma K (He.ga K "Hall") "called") ["self", "tick"] (spCalled (He.ga K "Hall")) := ok_called T
  refine FnP.okF T.f_waiting sc_waiting (fun _ _ _ _ _ _ us hl => match us, hl with | [_, _], _ => rfl) (fun vs H Q E h => ?_) (fun cdv A outer s H vs Q E hr h => ?_)
  · obtain ⟨h, _, _, _, _, _, _, rfl, _⟩ := h
    rfl
  obtain ⟨h, lp, n, m, lt, tk, cl, rfl, hn, hA, k⟩ := h
  obtain ⟨dx, tp, cp, hh, htp, hcp⟩ := hA.ex
  refine ⟨_, (pss_cons (ps_expr (pe_call G_check_tick.one (hr.mono (by decide)) (by rfl) T.g_check_tick G_check_tick.kp G_check_tick.two .nil passL (pa_cons (pv 1) pa_nil)))
    (pss_one (ps_ret (pe_op op_sub (pe_meth (pv 0) T.cl_Hall T.m_taken G_taken.one (hr.mono (by decide)) G_taken.two .nil passL (pa_cons (pe_op op_add (pv 1) pe_int) pa_nil)) (pe_meth (pv 0) T.cl_Hall T.m_called G_called.one (hr.mono (by decide)) G_called.two .nil passL (pa_cons (pe_op op_add (pv 1) pe_int) pa_nil)))))), ?_⟩
  refine ⟨_, rfl, (n : Int), rfl, by omega, by omega, ?_⟩
  refine ⟨_, rfl, h, dx, _, rfl, hh, hfs_no (by decide +kernel) (by decide +kernel) (by decide +kernel) (by decide +kernel) (by decide +kernel), _, rfl, _, _, rfl, rfl, h, lp, (n : Int) + 1, m, lt, tk, cl, rfl, hA, fun H1 S1 => ?_⟩
  refine ⟨_, rfl, h, dx, _, rfl, S1 _ _ hh, hfs_no (by decide +kernel) (by decide +kernel) (by decide +kernel) (by decide +kernel) (by decide +kernel), _, rfl, _, _, rfl, rfl, h, lp, (n : Int) + 1, m, lt, tk, cl, rfl, hA.same S1, ?_⟩
  refine ⟨_, _, rfl, rfl, ?_⟩
  have e : ((n : Int) + 1).toNat = n + 1 := by omega
  rw [e]
  have c := cal_le (tk := tk) (cl := cl) (n + 1)
  have ev : V.int ((tak tk (n + 1) : Int) - (cal tk cl (n + 1) : Int)) = vn (wt tk cl (n + 1)) := vn_int (by unfold wt; omega)
  have q := k H1 S1
  rw [← ev] at q
  exact q
theorem ok_growth (T : Txt K mg) : OkF P w K mg base 5 (getAt K (He.ga K "Hall") "growth") ["self"] (spGrowth (He.ga K "Hall")) := by
  have G_period : OkF P w K mg base 1 (getAt K (He.ga K "Hall") "period") ["self"] (spPeriod (He.ga K "Hall")) := ok_period T
  have G_waiting : OkF P w K mg base 4 (He.ma K (He.ga K "Hall") "waiting") ["self", "tick"] (spWaiting (He.ga K "Hall")) := ok_waiting T
  refine FnP.okF T.f_growth sc_growth (fun _ _ _ _ _ _ us hl => match us, hl with | [_], _ => rfl) (fun vs H Q E h => ?_) (fun cdv A outer s H vs Q E hr h => ?_)
  · obtain ⟨h, _, _, _, _, _, rfl, _⟩ := h
    rfl
  obtain ⟨h, lp, m, lt, tk, cl, rfl, hA, k⟩ := h
  obtain ⟨dx, tp, cp, hh, htp, hcp⟩ := hA.ex
  have p144 := per_144 hA.ok.tkP hA.ok.clP
  refine ⟨_, (pss_one (ps_ret (pe_op op_sub (pe_meth (pv 0) T.cl_Hall T.m_waiting G_waiting.one (hr.mono (by decide)) G_waiting.two .nil passL (pa_cons (pe_op op_mul pe_int (pe_prop (pv 0) T.cl_Hall T.p_period G_period.one (hr.mono (by decide)) G_period.two .nil passL (by rfl))) pa_nil)) (pe_meth (pv 0) T.cl_Hall T.m_waiting G_waiting.one (hr.mono (by decide)) G_waiting.two .nil passL (pa_cons (pe_prop (pv 0) T.cl_Hall T.p_period G_period.one (hr.mono (by decide)) G_period.two .nil passL (by rfl)) pa_nil))))), ?_⟩
  have no : (hfs m tp cp lt lp).lookup ("waiting" : Str) = none := hfs_no (by decide +kernel) (by decide +kernel) (by decide +kernel) (by decide +kernel) (by decide +kernel)
  refine ⟨_, rfl, h, dx, _, rfl, hh, no, _, rfl, h, dx, _, rfl, hh, h, dx, tp, cp, _, tk, cl, rfl, hh, hfs_takes, hfs_calls, htp, hcp, hA.ok.tkP, hA.ok.clP, _, _, rfl, rfl, .inl ⟨by decide, by decide⟩, h, lp, 2 * per tk cl, m, lt, tk, cl, by simp, by omega, hA, fun H1 S1 => ?_⟩
  refine ⟨_, rfl, h, dx, _, rfl, S1 _ _ hh, no, _, rfl, h, dx, _, rfl, S1 _ _ hh, h, dx, tp, cp, _, tk, cl, rfl, S1 _ _ hh, hfs_takes, hfs_calls, S1 _ _ htp, S1 _ _ hcp, hA.ok.tkP, hA.ok.clP, h, lp, per tk cl, m, lt, tk, cl, rfl, by omega, hA.same S1, fun H2 S2 => ?_⟩
  refine ⟨_, _, rfl, rfl, ?_⟩
  have u := wt_up (tk := tk) (cl := cl) per_tk per_cl (per tk cl + 1)
  have e2 : per tk cl + 1 + per tk cl = 2 * per tk cl + 1 := by omega
  rw [e2] at u
  have ev : V.int ((wt tk cl (2 * per tk cl + 1) : Int) - (wt tk cl (per tk cl + 1) : Int)) = vn (grow tk cl) := vn_int (by unfold grow; omega)
  have q := k H2 (S1.trans S2)
  rw [← ev] at q
  exact q
end
end Tk

/-! ### The law's own defs: hall, length, counts -/
namespace Tk
open PySem PySem.Spec PyProof.Rows L2 Mm
def fV (f : Nat → Nat) (n : Nat) : List V := (List.range (n + 1)).map fun t => vn (f t)
theorem fV_len {f : Nat → Nat} {n : Nat} : (fV f n).length = n + 1 := by unfold fV; simp
theorem fV_at {f : Nat → Nat} {n t : Nat} (h : t ≤ n) : (fV f n)[t]? = some (vn (f t)) := by
  unfold fV
  rw [List.getElem?_map, List.getElem?_range (by omega)]
  rfl
theorem fV_succ {f : Nat → Nat} {n : Nat} : fV f (n + 1) = fV f n ++ [vn (f (n + 1))] := by
  unfold fV
  rw [List.range_succ, List.map_append]
  rfl
theorem at_last {xs : List V} {n : Nat} {x : V} (hl : xs.length = n + 1) (h : xs[n]? = some x) : atI xs (-(1 : Int)) = some x := by
  unfold atI ixN
  rw [hl, if_neg (by omega), if_pos (by omega)]
  show xs[(-(1 : Int) + ((n + 1 : Nat) : Int)).toNat]? = some x
  rw [show (-(1 : Int) + ((n + 1 : Nat) : Int)).toNat = n by omega]
  exact h
def spLHall (C : Addr) : Sp := fun vs H Q _ => ∃ (t tp cp : Addr) (m lt : Nat) (tk cl : List Nat), vs = [.ref t] ∧ PartsAt H t m tp tk cp cl lt ∧
  ∀ h lp H', H h = none → H lp = none → Same H H' → HallAt C H' h m tk cl lt lp → Q (.ref h) H'
def spLength : Sp := fun vs H Q _ => ∃ (t tp cp : Addr) (m lt : Nat) (tk cl : List Nat), vs = [.ref t] ∧ PartsAt H t m tp tk cp cl lt ∧ Q (vn (per tk cl)) H
def spCounts : Sp := fun vs H Q _ => ∃ (t tp cp : Addr) (m lt : Nat) (tk cl : List Nat) (n : Nat), vs = [.ref t, vn n] ∧ PartsAt H t m tp tk cp cl lt ∧ n ≤ 1000 ∧
  ∀ r a b H', H r = none → H a = none → H b = none → a ≠ b → Same H H' → H' r = some (.tup [.ref a, .ref b]) → H' a = some (.lst (fV (tak tk) n)) → H' b = some (.lst (fV (cal tk cl) n)) → Q (.ref r) H'
theorem at3 {a b c d : V} {j : Nat} {x : V} (h : [a, b, c, d][j]? = some x) : atI [a, b, c, d] (j : Int) = some x := atn h
/-- the least multiple of n that c divides -/
theorem least_lcm {n c k : Nat} (hk : 0 < k) (h : c ∣ k * n) (no : ∀ j, 0 < j → j < k → ¬ c ∣ j * n) (hn : 0 < n) (hc : 0 < c) : k * n = Nat.lcm n c := by
  have d1 : Nat.lcm n c ∣ k * n := Nat.lcm_dvd (Nat.dvd_mul_left n k) h
  obtain ⟨j, hj⟩ := Nat.dvd_lcm_left n c
  have hp : 0 < Nat.lcm n c := Nat.lcm_pos hn hc
  have j0 : 0 < j := by
    rcases Nat.eq_zero_or_pos j with e | e
    · rw [e] at hj
      omega
    · exact e
  have e2 : Nat.lcm n c = j * n := by rw [hj, Nat.mul_comm]
  rcases Nat.lt_or_ge j k with lt | ge
  · exact absurd (by rw [← e2]; exact Nat.dvd_lcm_right n c) (no j j0 lt)
  · have h1 := Nat.le_of_dvd (Nat.mul_pos hk hn) d1
    have h2 := Nat.mul_le_mul_right n ge
    omega
theorem below_lcm {n c k : Nat} (no : ∀ j, 0 < j → j < k → ¬ c ∣ j * n) (hn : 0 < n) (hc : 0 < c) : k * n ≤ Nat.lcm n c := by
  obtain ⟨j, hj⟩ := Nat.dvd_lcm_left n c
  have hp : 0 < Nat.lcm n c := Nat.lcm_pos hn hc
  have e2 : Nat.lcm n c = j * n := by rw [hj, Nat.mul_comm]
  have j0 : 0 < j := by
    rcases Nat.eq_zero_or_pos j with e | e
    · rw [e] at hj
      omega
    · exact e
  rcases Nat.lt_or_ge j k with lt | ge
  · exact absurd (by rw [← e2]; exact Nat.dvd_lcm_right n c) (no j j0 lt)
  · rw [e2]
    exact Nat.mul_le_mul_right n ge
section
variable {P : Program} {w : World} {K : PySem.W.Frag} {mg : Str → Option Value} {base : Heap}
theorem ok__law_hall (T : Txt K mg) : OkF P w K mg base 7 (He.ga K "_law_hall") ["_law_parts"] (spLHall (He.ga K "Hall")) := by
  have G_init : OkF P w K mg base 5 (He.ma K (He.ga K "Hall") "__init__") ["self", "modulus", "takes", "calls", "lateness"] (spInit (He.ga K "Hall")) := ok_init T
  refine FnP.okF T.f__law_hall sc__law_hall (fun _ _ _ _ _ _ us hl => match us, hl with | [_], _ => rfl) (fun vs H Q E h => ?_) (fun cdv A outer s H vs Q E hr h => ?_)
  · obtain ⟨t, _, _, _, _, _, _, rfl, _⟩ := h
    rfl
  obtain ⟨t, tp, cp, m, lt, tk, cl, rfl, hP, k⟩ := h
  refine ⟨_, (pss_one (ps_ret (pe_make T.mk_Hall G_init.one (hr.mono (by decide)) (by rfl) T.g_Hall G_init.two .nil passL (pa_cons (pe_ix (ixTK (K := K)) (pv 0) pe_int (fun _ _ => rfl)) (pa_cons (pe_ix (ixTK (K := K)) (pv 0) pe_int (fun _ _ => rfl)) (pa_cons (pe_ix (ixTK (K := K)) (pv 0) pe_int (fun _ _ => rfl)) (pa_cons (pe_ix (ixTK (K := K)) (pv 0) pe_int (fun _ _ => rfl)) pa_nil))))))), ?_⟩
  have S := SqT.of (K := K) hP.at_
  refine ⟨_, rfl, t, _, 0, _, rfl, rfl, S, at3 (j := 0) rfl, _, rfl, t, _, 1, _, rfl, rfl, S, at3 (j := 1) rfl, _, rfl, t, _, 2, _, rfl, rfl, S, at3 (j := 2) rfl, _, rfl, t, _, 3, _, rfl, rfl, S, at3 (j := 3) rfl, fun x dx nx ndx nex => ?_⟩
  have S1 : Same H (upd (upd H dx (.own x)) x (.ins (He.ga K "Hall") dx [])) := fun b o e => by
    rw [upd_ne (ne_of_none e nx), upd_ne (ne_of_none e ndx)]
    exact e
  refine ⟨x, dx, tp, cp, m, lt, tk, cl, rfl, upd_same, S1 _ _ hP.tkA, S1 _ _ hP.clA, hP.ok, fun H' lp B n hA => ⟨rfl, ?_⟩⟩
  refine k x lp H' nx (S1.free n) (fun b o e => ?_) hA
  exact B b o (ne_of_none e nx) (S1 b o e)
theorem ok__law_length (T : Txt K mg) : OkF P w K mg base 1 (He.ga K "_law_length") ["_law_parts"] spLength := by
  refine FnP.okF T.f__law_length sc__law_length (fun _ _ _ _ _ _ us hl => match us, hl with | [_], _ => rfl) (fun vs H Q E h => ?_) (fun cdv A outer s H vs Q E hr h => ?_)
  · obtain ⟨t, _, _, _, _, _, _, rfl, _⟩ := h
    rfl
  obtain ⟨t, tp, cp, m, lt, tk, cl, rfl, hP, k⟩ := h
  have n0 := hP.ok.tkP.pos
  have c0 := hP.ok.clP.pos
  have p144 := per_144 hP.ok.tkP hP.ok.clP
  refine ⟨_, (pss_cons (ps_set (i := 1) sc__law_length.nd rfl (Or.inl rfl) (pe_callB (lenK (K := K)) (by rfl) T.g_len (by decide +kernel) (pa_cons (pe_ix (ixTK (K := K)) (pv 0) pe_int (fun _ _ => rfl)) pa_nil)))
    (pss_cons (ps_while own_cx (pt_cmpR op_gt (pe_op op_mod (pv 1) (pe_callB (lenK (K := K)) (by rfl) T.g_len (by decide +kernel) (pa_cons (pe_ix (ixTK (K := K)) (pv 0) pe_int (fun _ _ => rfl)) pa_nil))) pe_int (nomark _))
      (pss_one (ps_set (i := 1) sc__law_length.nd rfl (Or.inl rfl) (pe_op op_add (pv 1) (pe_callB (lenK (K := K)) (by rfl) T.g_len (by decide +kernel) (pa_cons (pe_ix (ixTK (K := K)) (pv 0) pe_int (fun _ _ => rfl)) pa_nil))))))
    (pss_one (ps_ret (pv 1))))), ?_⟩
  have S := SqT.of (K := K) hP.at_
  have St := SqT.of (K := K) hP.tkA
  have Sc := SqT.of (K := K) hP.clA
  refine ⟨_, rfl, t, _, 1, _, rfl, rfl, S, at3 (j := 1) rfl, tp, _, rfl, .inr St, ?_⟩
  refine ⟨fun mm σ H2 => ∃ q : Nat, 0 < q ∧ (∀ j, 0 < j → j < q → ¬ cl.length ∣ j * tk.length) ∧ σ = [some (.ref t), some (vn (q * tk.length))] ∧ H2 = H ∧ mm = 300 - q * tk.length, ⟨_, 1, by omega, fun j h1 h2 => by omega, ?_, rfl, rfl⟩, ?_⟩
  · rw [Nat.one_mul, List.length_map]
    rfl
  · rintro mm σ H2 ⟨q, q0, no, rfl, rfl, rfl⟩
    have le := below_lcm (c := cl.length) no n0 c0
    have le2 : q * tk.length ≤ 144 := Nat.le_trans le p144
    refine ⟨_, rfl, _, rfl, t, _, 2, _, rfl, rfl, S, at3 (j := 2) rfl, cp, _, rfl, .inr Sc, _, _, rfl, rfl, (by show (0 : Int) < ((cl.map vn).length : Int); rw [List.length_map]; omega), _, _, rfl, rfl, _, rfl, ?_⟩
    have em : ((q * tk.length : Nat) : Int) % ((cl.map vn).length : Int) = ((q * tk.length % cl.length : Nat) : Int) := by rw [List.length_map]; exact (Int.natCast_emod _ _).symm
    rw [em]
    refine ite2 (fun c => ?_) (fun c => ?_)
    · have c2 : (0 : Int) < ((q * tk.length % cl.length : Nat) : Int) := of_decide_eq_true c
      refine ⟨_, fun σ' H' z => z, ?_⟩
      refine ⟨_, rfl, _, rfl, t, _, 1, _, rfl, rfl, S, at3 (j := 1) rfl, tp, _, rfl, .inr St, _, _, rfl, rfl, ?_⟩
      refine ⟨300 - (q + 1) * tk.length, by rw [Nat.succ_mul]; omega, q + 1, by omega, fun j j0 jq => ?_, ?_, rfl, rfl⟩
      · rcases Nat.lt_or_ge j q with lt | ge
        · exact no j j0 lt
        · obtain rfl : j = q := by omega
          intro d
          have := Nat.mod_eq_zero_of_dvd d
          omega
      · rw [List.length_map, Nat.succ_mul]
        have e : V.int (((q * tk.length : Nat) : Int) + ((tk.length : Nat) : Int)) = vn (q * tk.length + tk.length) := vn_int (Int.natCast_add _ _).symm
        rw [← e]
        rfl
    · have c2 : ¬ (0 : Int) < ((q * tk.length % cl.length : Nat) : Int) := fun h => c (decide_eq_true h)
      have d : cl.length ∣ q * tk.length := Nat.dvd_of_mod_eq_zero (by omega)
      have e := least_lcm q0 d no n0 c0
      refine ⟨_, rfl, ?_⟩
      show Q (vn (q * tk.length)) _
      rw [e]
      exact k
theorem ok__law_counts (T : Txt K mg) : OkF P w K mg base 1 (He.ga K "_law_counts") ["_law_parts", "_law_ticks"] spCounts := by
  refine FnP.okF T.f__law_counts sc__law_counts (fun _ _ _ _ _ _ us hl => match us, hl with | [_, _], _ => rfl) (fun vs H Q E h => ?_) (fun cdv A outer s H vs Q E hr h => ?_)
  · obtain ⟨t, _, _, _, _, _, _, _, rfl, _⟩ := h
    rfl
  obtain ⟨t, tp, cp, m, lt, tk, cl, n, rfl, hP, hn, k⟩ := h
  have n0 := hP.ok.tkP.pos
  have c0 := hP.ok.clP.pos
  refine ⟨_, (pss_cons (ps_par (i := 2) (j := 3) (by rfl) sc__law_counts.nd rfl rfl (by decide) rfl rfl (pa_cons (pe_lst (pa_cons pe_int pa_nil)) (pa_cons (pe_lst (pa_cons pe_int pa_nil)) pa_nil)) (by rfl))
    (pss_cons (ps_for own_cx rfl (pi_range1 (by rfl) T.g_range (pa_cons (pv 1) pa_nil)) (pg_name (i := 4) sc__law_counts.nd rfl (Or.inl rfl))
      (pss_cons (ps_expr (pe_bm PySem.F.plainAttrs_list PySem.F.slot_list_append PySem.F.type_list_append mt_append (pv 2) (pa_cons (pe_op op_add (pe_ix (ixLK (K := K)) (pv 2) (pe_un un_neg pe_int) (fun _ _ => rfl)) (pe_ix (ixTK (K := K)) (pe_ix (ixTK (K := K)) (pv 0) pe_int (fun _ _ => rfl)) (pe_op op_mod (pv 4) (pe_callB (lenK (K := K)) (by rfl) T.g_len (by decide +kernel) (pa_cons (pe_ix (ixTK (K := K)) (pv 0) pe_int (fun _ _ => rfl)) pa_nil))) (fun _ _ => rfl))) pa_nil)))
    (pss_one (ps_expr (pe_bm PySem.F.plainAttrs_list PySem.F.slot_list_append PySem.F.type_list_append mt_append (pv 3) (pa_cons (pe_callB (show CallR _ (.builtin "min") Rd.rMin2 from call_min2 (by rfl)) (by rfl) T.g_min (by decide +kernel) (pa_cons (pe_ix (ixLK (K := K)) (pv 2) (pe_un un_neg pe_int) (fun _ _ => rfl)) (pa_cons (pe_op op_add (pe_ix (ixLK (K := K)) (pv 3) (pe_un un_neg pe_int) (fun _ _ => rfl)) (pe_ix (ixTK (K := K)) (pe_ix (ixTK (K := K)) (pv 0) pe_int (fun _ _ => rfl)) (pe_op op_mod (pv 4) (pe_callB (lenK (K := K)) (by rfl) T.g_len (by decide +kernel) (pa_cons (pe_ix (ixTK (K := K)) (pv 0) pe_int (fun _ _ => rfl)) pa_nil))) (fun _ _ => rfl))) pa_nil))) pa_nil))))))
    (pss_one (ps_ret (pe_tup (pa_cons (pv 2) (pa_cons (pv 3) pa_nil))))))), ?_⟩
  refine ⟨(by show 1 ≤ sizeLine; decide), fun a ha => ⟨(by show 1 ≤ sizeLine; decide), fun b hb => ⟨_, _, rfl, ?_⟩⟩⟩
  have nab : a ≠ b := fun e => by rw [← e, upd_same] at hb; cases hb
  have hb0 : H b = none := by rw [upd_ne nab.symm] at hb; exact hb
  have Sab : ∀ x y, Same H (upd (upd H a x) b y) := fun x y q o e => by
    rw [upd_ne (ne_of_none e hb0), upd_ne (ne_of_none e ha)]
    exact e
  refine ⟨_, rfl, (n : Int), rfl, by omega, by omega, for_range (lo := 0) (n := ((n : Int)).toNat) (fun i σ H2 => ∃ v, σ = [some (.ref t), some (vn n), some (.ref a), some (.ref b), v] ∧ H2 = upd (upd H a (.lst (fV (tak tk) i))) b (.lst (fV (cal tk cl) i)))
    ⟨_, rfl, rfl⟩ ?_ ?_⟩
  · rintro i σ H2 hi ⟨v, rfl, rfl⟩
    have hi2 : i < n := by simpa using hi
    have P2 : ∀ x y, PartsAt (upd (upd H a x) b y) t m tp tk cp cl lt := fun x y => hP.same (Sab x y)
    generalize hX : HO.lst (fV (tak tk) i) = X
    have hA : ∀ y, upd (upd H a X) b y a = some X := fun y => by rw [upd_ne nab]; exact upd_same
    have La : ∀ y, SqL K (upd (upd H a X) b y) a (fV (tak tk) i) := fun y => SqL.of (by rw [hA, hX])
    have St := fun x y => SqT.of (K := K) (P2 x y).at_
    have last1 : atI (fV (tak tk) i) (-(1 : Int)) = some (vn (tak tk i)) := at_last fV_len (fV_at (Nat.le_refl i))
    -- taken.append(taken[-1] + takes[tick % n])
    refine ⟨_, rfl, .inl ⟨rfl, _, La _⟩, _, rfl, 1, rfl, a, _, _, _, rfl, rfl, La _, last1, _, rfl, t, _, 1, _, rfl, rfl, St _ _, at3 (j := 1) rfl, _, rfl, _, rfl, t, _, 1, _, rfl, rfl, St _ _, at3 (j := 1) rfl, tp, _, rfl, .inr (SqT.of (P2 _ _).tkA), _, _, rfl, rfl,
      (by show (0 : Int) < ((tk.map vn).length : Int); rw [List.length_map]; omega), tp, _, _, _, rfl, rfl, SqT.of (P2 _ _).tkA, pat_at n0 (Int.zero_add _), _, _, rfl, rfl, ?_⟩
    refine ⟨a, _, _, rfl, rfl, by rw [hA, hX], small1000 (by rw [fV_len]; omega), ?_⟩
    have e1 : fV (tak tk) i ++ [V.int ((tak tk i : Int) + (atp tk i : Int))] = fV (tak tk) (i + 1) := by
      rw [fV_succ]
      rfl
    rw [e1]
    have sw : upd (upd (upd H a X) b (.lst (fV (cal tk cl) i))) a (.lst (fV (tak tk) (i + 1))) = upd (upd H a (.lst (fV (tak tk) (i + 1)))) b (.lst (fV (cal tk cl) i)) := by
      funext q
      unfold upd
      by_cases h1 : q = a
      · rw [if_pos h1, if_neg (by rw [h1]; exact nab), if_pos h1]
      · rw [if_neg h1, if_neg h1]
        by_cases h2 : q = b
        · rw [if_pos h2, if_pos h2]
        · rw [if_neg h2, if_neg h2, if_neg h1]
    rw [sw]
    have La2 : SqL K (upd (upd H a (.lst (fV (tak tk) (i + 1)))) b (.lst (fV (cal tk cl) i))) a (fV (tak tk) (i + 1)) := SqL.of (by rw [upd_ne nab]; exact upd_same)
    have Lb2 : SqL K (upd (upd H a (.lst (fV (tak tk) (i + 1)))) b (.lst (fV (cal tk cl) i))) b (fV (cal tk cl) i) := SqL.of upd_same
    have last2 : atI (fV (tak tk) (i + 1)) (-(1 : Int)) = some (vn (tak tk (i + 1))) := at_last fV_len (fV_at (Nat.le_refl (i + 1)))
    have last3 : atI (fV (cal tk cl) i) (-(1 : Int)) = some (vn (cal tk cl i)) := at_last fV_len (fV_at (Nat.le_refl i))
    -- called.append(min(taken[-1], called[-1] + calls[tick % n]))
    refine ⟨_, rfl, .inl ⟨rfl, _, Lb2⟩, _, rfl, 1, rfl, a, _, _, _, rfl, rfl, La2, last2, _, rfl, 1, rfl, b, _, _, _, rfl, rfl, Lb2, last3, _, rfl, t, _, 2, _, rfl, rfl, St _ _, at3 (j := 2) rfl, _, rfl, _, rfl, t, _, 2, _, rfl, rfl, St _ _, at3 (j := 2) rfl, cp, _, rfl, .inr (SqT.of (P2 _ _).clA), _, _, rfl, rfl,
      (by show (0 : Int) < ((cl.map vn).length : Int); rw [List.length_map]; omega), cp, _, _, _, rfl, rfl, SqT.of (P2 _ _).clA, pat_at c0 (Int.zero_add _), _, _, rfl, rfl, _, _, rfl, ?_⟩
    refine ⟨b, _, _, rfl, rfl, upd_same, small1000 (by rw [fV_len]; omega), _, rfl, ?_⟩
    rw [upd_upd, fV_succ (f := cal tk cl)]
    have e2 : V.int (if ((cal tk cl i : Int) + (atp cl i : Int)) < (tak tk (i + 1) : Int) then ((cal tk cl i : Int) + (atp cl i : Int)) else (tak tk (i + 1) : Int)) = vn (cal tk cl (i + 1)) := by
      refine vn_int ?_
      have : cal tk cl (i + 1) = min (tak tk (i + 1)) (cal tk cl i + atp cl i) := rfl
      rw [this]
      split <;> omega
    rw [← e2]
  · rintro σ H2 ⟨v, rfl, rfl⟩
    have en : ((n : Int)).toNat = n := by simp
    rw [en]
    refine ⟨_, rfl, _, rfl, (by show 2 ≤ sizeLine; decide), fun r hr' => ?_⟩
    have nra : r ≠ a := fun e => by rw [e, upd_ne nab, upd_same] at hr'; cases hr'
    have nrb : r ≠ b := fun e => by rw [e, upd_same] at hr'; cases hr'
    have hr0 : H r = none := by rw [upd_ne nrb, upd_ne nra] at hr'; exact hr'
    refine k r a b _ hr0 ha hb0 nab ((Sab _ _).trans (Same.new hr')) upd_same (by rw [upd_ne nra.symm, upd_ne nab]; exact upd_same) (by rw [upd_ne nrb.symm]; exact upd_same)
end
end Tk

/-! ### Counts that repeat -/
namespace Tk
open PySem PySem.Spec PyProof.Rows L2 Mm
structure Per (p : Nat) (f : Nat → Nat) : Prop where
  p0 : 0 < p
  p144 : p ≤ 144
  step : ∀ t, p ≤ t → f (t + p) + f p = f t + f (2 * p)
  up : f p ≤ f (2 * p)
  bd : f (2 * p) ≤ 100000
theorem Per.far {p : Nat} {f : Nat → Nat} (h : Per p f) {t : Nat} (ht : p ≤ t) : ∀ k, f (t + k * p) = f t + k * (f (2 * p) - f p)
  | 0 => by simp
  | k + 1 => by
    have ih := h.far ht k
    have q := h.step (t + k * p) (by omega)
    have u := h.up
    rw [Nat.succ_mul, Nat.succ_mul, ← Nat.add_assoc]
    omega
theorem tak_per (p : Nat) {tk : List Nat} (h : tk.length ∣ p) (h0 : 0 < p) (h144 : p ≤ 144) (h9 : ∀ x ∈ tk, x ≤ 9) : Per p (tak tk) where
  p0 := h0
  p144 := h144
  step := fun t ht => by
    have h1 := tak_add (tk := tk) p h t
    have h2 := tak_add (tk := tk) p h p
    rw [show p + p = 2 * p by omega] at h2
    omega
  up := tak_mono (by omega)
  bd := by
    have := tak_le h9 (2 * p)
    omega
theorem cal_Per {tk cl : List Nat} (h1 : Pat tk) (h2 : Pat cl) : Per (per tk cl) (cal tk cl) where
  p0 := per_pos h1.pos h2.pos
  p144 := per_144 h1 h2
  step := fun t ht => cal_per (per_pos h1.pos h2.pos) per_tk per_cl ht
  up := cal_mono (by omega)
  bd := by
    have a := tak_le h1.nine (2 * per tk cl)
    have b := cal_le (tk := tk) (cl := cl) (2 * per tk cl)
    have c := per_144 h1 h2
    omega
end Tk

/-! ### tick_of, by what its function counts -/
namespace Tk
open PySem PySem.Spec PyProof.Rows L2 Mm LamX
/-- what tick_of answers: F counts, p is the period -/
inductive TickIs (F : Nat → Nat) (p n : Nat) : V → Prop where
  | no (h1 : F p ≤ n) (h2 : F (2 * p) = F p) : TickIs F p n .non
  | at_ (T : Nat) (h1 : F T ≤ n) (h2 : n < F (T + 1)) (h3 : n < F p ∨ F (2 * p) ≠ F p) : TickIs F p n (vn T)
theorem bd_tick_of : ∀ (kV doc pm : Value) (an : Option Addr) (cdv ct : Value) (us : List Value), us.length = (["before", "period", "number"] : List Str).length → bindArgs (PySem.W.fnOf "tick_of" "tick_of" (defArgs s_tick_of) (defBody s_tick_of) (defScope s_tick_of) .none kV doc pm an cdv ct) ⟨us, []⟩ = pure ((["before", "period", "number"] : List Str).zip us) :=
  fun _ _ _ _ _ _ us hl => match us, hl with | [_, _, _], _ => rfl
section
variable {X : Cx}
def TTick (c' : Addr) (q : Str) (tl : V → Hp → VK → Prop) (ys : List V) (H : Hp) (Q : VK) : Prop := ∃ (p n : Nat) (F : Nat → Nat), ys = [vn p, vn n] ∧ H c' = some (CodeO c' q) ∧ Per p F ∧ (∀ t, F t ≤ F (t + 1)) ∧ F 0 = 0 ∧
  (∀ (z : Nat) H1 Q1, Same H H1 → (∀ H', Same H1 H' → Q1 (vn (F z)) H') → tl (vn z) H1 Q1) ∧ ∀ v H', Same H H' → TickIs F p n v → Q v H'
theorem gv_tick_of {q : Str} {g : Addr} (cdg : Value) (f c' : Addr) (s : Shared) (H : Hp) (ys : List V) (Q : VK) (tl : V → Hp → VK → Prop) (act : Acts (cxG X N_tick_of "tick_of" s_tick_of g cdg s H) "before" f c' q tl) (h : TTick c' q tl ys H Q) :
    ∃ t, PSs (cxG X N_tick_of "tick_of" s_tick_of g cdg s H) (defBody s_tick_of) t ∧ t { nx := fun _ H' => Q .non H', rt := Q } (L2.start N_tick_of (.ref f :: ys)) H := by
  obtain ⟨p, n, F, rfl, hc, hP, up, h0, sem, k⟩ := h
  have p0 := hP.p0
  have p144 := hP.p144
  refine ⟨_, (pss_cons (ps_set (i := 3) sc_tick_of.nd rfl (Or.inl rfl) (act _ _ _ _ (pa_cons (pv 1) pa_nil) rfl))
    (pss_cons (ps_set (i := 4) sc_tick_of.nd rfl (Or.inl rfl) (pe_op op_sub (act _ _ _ _ (pa_cons (pe_op op_mul pe_int (pv 1)) pa_nil) rfl) (pv 3)))
    (pss_cons (ps_set (i := 5) sc_tick_of.nd rfl (Or.inl rfl) pe_int)
    (Evl.pss_cut (ps_if (pt_cmpR op_ge (pv 2) (pv 3) (nomark _)) (pss_cons (ps_if (pt_cmpR op_eq (pv 4) pe_int (nomark _)) (pss_one (ps_ret pe_non)) pss_nil)
    (pss_one (ps_set (i := 5) sc_tick_of.nd rfl (Or.inl rfl) (pe_op op_fdiv (pe_op op_sub (pv 2) (pv 3)) (pv 4))))) pss_nil)
    (pss_cons (ps_set (i := 6) sc_tick_of.nd rfl (Or.inl rfl) pe_int)
    (pss_cons (ps_while own_cx (pt_cmpR op_le (pe_op op_add (act _ _ _ _ (pa_cons (pe_op op_add (pv 6) pe_int) pa_nil) rfl) (pe_op op_mul (pv 5) (pv 4))) (pv 2) (nomark _))
      (pss_one (ps_aug (i := 6) sc_tick_of.nd rfl (Or.inl rfl) pe_int ip_add)))
    (pss_one (ps_ret (pe_op op_add (pv 6) (pe_op op_mul (pv 5) (pv 1))))))))))), ?_⟩
  have semI : ∀ (y : V) (z : Nat), y = vn z → ∀ H1 Q1, Same H H1 → (∀ H', Same H1 H' → Q1 (vn (F z)) H') → tl y H1 Q1 := fun y z e H1 Q1 => by
    rw [e]
    exact sem z H1 Q1
  have cod : ∀ {H1 : Hp}, Same H H1 → H1 c' = some (CodeO c' q) := fun S => S _ _ hc
  have mono : ∀ {a b : Nat}, a ≤ b → F a ≤ F b := fun {a b} hab => by
    induction hab with
    | refl => exact Nat.le_refl _
    | step _ ih => exact Nat.le_trans ih (up _)
  have upp := hP.up
  have bd := hP.bd
  -- first, growth
  refine ⟨rfl, _, rfl, _, rfl, cod (fun _ _ e => e), semI _ p rfl H _ (fun _ _ e => e) fun H1 S1 => ?_⟩
  refine ⟨rfl, _, rfl, _, _, rfl, rfl, .inl ⟨by decide, by decide⟩, _, rfl, cod S1, semI _ (2 * p) (vn_int (by omega)) H1 _ S1 fun H2 S2 => ?_⟩
  refine ⟨_, rfl, _, _, rfl, rfl, ?_⟩
  have S12 := S1.trans S2
  -- skipped
  refine ⟨fun σ H3 => ∃ sk : Nat, σ = [some (.ref f), some (vn p), some (vn n), some (vn (F p)), some (.int ((F (2 * p) : Int) - (F p : Int))), some (vn sk), none] ∧ Same H H3 ∧
    ((n < F p ∧ sk = 0) ∨ (F p ≤ n ∧ F p < F (2 * p) ∧ sk = (n - F p) / (F (2 * p) - F p))), ?_, ?_⟩
  · refine ⟨_, rfl, _, rfl, _, _, rfl, rfl, _, rfl, ite2 (fun c => ?_) (fun c => ?_)⟩
    · have c1 : (F p : Int) ≤ (n : Int) := of_decide_eq_true c
      refine ⟨_, rfl, rfl, _, rfl, ?_⟩
      refine ite2 (fun c => ?_) (fun c => ?_)
      · have c2 : (F (2 * p) : Int) - (F p : Int) = 0 := by simpa using c
        exact k _ _ S12 (.no (by omega) (by omega))
      · have c2 : ¬ (F (2 * p) : Int) - (F p : Int) = 0 := by simpa using c
        refine ⟨_, rfl, _, rfl, _, _, rfl, rfl, _, rfl, _, _, rfl, rfl, ⟨by omega, by omega⟩, ?_⟩
        refine ⟨(n - F p) / (F (2 * p) - F p), ?_, S12, .inr ⟨by omega, by omega, rfl⟩⟩
        have e : V.int (((n : Int) - (F p : Int)) / ((F (2 * p) : Int) - (F p : Int))) = vn ((n - F p) / (F (2 * p) - F p)) := by
          refine vn_int ?_
          rw [show (n : Int) - (F p : Int) = ((n - F p : Nat) : Int) by omega, show (F (2 * p) : Int) - (F p : Int) = ((F (2 * p) - F p : Nat) : Int) by omega, ← Int.natCast_ediv]
        rw [← e]
        rfl
    · have c1 : ¬ (F p : Int) ≤ (n : Int) := fun h => c (decide_eq_true h)
      exact ⟨0, rfl, S12, .inl ⟨by omega, rfl⟩⟩
  · rintro σ H3 ⟨sk, rfl, S3, C⟩
    generalize hg : F (2 * p) - F p = g' at C
    have hgI : (F (2 * p) : Int) - (F p : Int) = (g' : Int) := by omega
    rw [hgI]
    have C1 : F p ≤ n ∧ F p < F (2 * p) → F p ≤ n - sk * g' ∧ n - sk * g' < F (2 * p) ∧ sk * g' ≤ n := fun h => by
      rcases C with ⟨c1, c2⟩ | ⟨c1, c2, c3⟩
      · omega
      · have d1 := Nat.div_add_mod (n - F p) g'
        have d2 := Nat.mod_lt (n - F p) (show 0 < g' by omega)
        rw [← c3, Nat.mul_comm] at d1
        omega
    have C2 : n - sk * g' < F (2 * p) ∧ sk * g' ≤ n := by
      rcases C with ⟨c1, c2⟩ | ⟨c1, c2, c3⟩
      · rw [c2, Nat.zero_mul]
        omega
      · exact ⟨(C1 ⟨c1, c2⟩).2.1, (C1 ⟨c1, c2⟩).2.2⟩
    clear hg
    refine ⟨fun m σ H4 => ∃ t : Nat, σ = [some (.ref f), some (vn p), some (vn n), some (vn (F p)), some (.int (g' : Int)), some (vn sk), some (vn t)] ∧ Same H H4 ∧ F t + sk * g' ≤ n ∧ t ≤ 2 * p ∧ m = 2 * p - t, ⟨_, 0, rfl, S3, by rw [h0]; omega, by omega, rfl⟩, ?_⟩
    rintro m σ H4 ⟨t, rfl, S4, le, t2, rfl⟩
    refine ⟨rfl, _, rfl, _, _, rfl, rfl, _, rfl, cod S4, semI _ (t + 1) (vn_int (by omega)) H4 _ S4 fun H5 S5 => ?_⟩
    refine ⟨_, rfl, _, rfl, _, _, rfl, rfl, .inr ⟨by omega, by omega⟩, _, _, rfl, rfl, _, rfl, _, _, rfl, rfl, _, rfl, ?_⟩
    have S45 := S4.trans S5
    have em : (sk : Int) * (g' : Int) = ((sk * g' : Nat) : Int) := (Int.natCast_mul _ _).symm
    rw [em]
    refine ite2 (fun c => ?_) (fun c => ?_)
    · have c1 : (F (t + 1) : Int) + ((sk * g' : Nat) : Int) ≤ (n : Int) := of_decide_eq_true c
      have lt : t + 1 < 2 * p := by
        rcases Nat.lt_or_ge (t + 1) (2 * p) with z | z
        · exact z
        · have := mono z
          omega
      refine ⟨_, fun σ' H' z => z, ?_⟩
      exact ⟨_, rfl, _, _, rfl, rfl, _, by omega, t + 1, rfl, S45, by omega, by omega, rfl⟩
    · have c1 : ¬ (F (t + 1) : Int) + ((sk * g' : Nat) : Int) ≤ (n : Int) := fun h => c (decide_eq_true h)
      refine ⟨_, rfl, _, rfl, _, rfl, _, _, rfl, rfl, .inr ⟨by omega, by omega⟩, _, _, rfl, rfl, ?_⟩
      have ev : V.int ((t : Int) + (sk : Int) * (p : Int)) = vn (t + sk * p) := vn_int (by rw [Int.natCast_add, Int.natCast_mul])
      show Q (V.int ((t : Int) + (sk : Int) * (p : Int))) H5
      rw [ev]
      refine k _ _ S45 ?_
      rcases C with ⟨c3, c4⟩ | ⟨c3, c4, c5⟩
      · subst c4
        rw [Nat.zero_mul] at le c1 ⊢
        rw [Nat.add_zero]
        exact .at_ _ (by omega) (by omega) (.inl c3)
      · obtain ⟨a1, a2, a3⟩ := C1 ⟨c3, c4⟩
        have tp : p ≤ t := by
          rcases Nat.lt_or_ge t p with z | z
          · have := mono (show t + 1 ≤ p by omega)
            omega
          · exact z
        have f1 := hP.far tp sk
        have f2 := hP.far (t := t + 1) (by omega) sk
        rw [show t + 1 + sk * p = t + sk * p + 1 by omega] at f2
        have hgN : F (2 * p) - F p = g' := by omega
        rw [hgN] at f1 f2
        exact .at_ _ (by omega) (by omega) (.inr (by omega))
end
end Tk

/-! ### Tables of code objects along the way -/
namespace Tk
open PySem PySem.Spec PyProof.Rows L2 Mm LamX
/-- the name of a function that the def x makes -/
def qnm (x : Str) : Str := (x ++ ".<locals>.") ++ "<lambda>"
/-- the tables and the names of what they tell -/
def TT (K : PySem.W.Frag) : List (Addr × Str) := mkl.map fun p => ((ctAt K (p.1 K)).2, qnm p.2)
structure Tbs (K : PySem.W.Frag) (mg : Str → Option Value) (base : Heap) : Prop where
  all : ∀ p ∈ mkl, TabB base mg (ctAt K (p.1 K)).1 (ctAt K (p.1 K)).2
  apart : (mkl.map fun p => (ctAt K (p.1 K)).2).Nodup
theorem uniq1 : ∀ {l : List (Addr × Str)}, (l.map (·.1)).Nodup → ∀ {x : Addr × Str}, x ∈ l → ∀ p ∈ l, p.1 = x.1 → p.2 = x.2
  | [], _, _, h, _, _, _ => by cases h
  | a :: l, nd, x, hx, p, hp, e => by
    obtain ⟨n1, n2⟩ := List.nodup_cons.mp (show (a.1 :: l.map (·.1)).Nodup from nd)
    rcases List.mem_cons.mp hx with e1 | e1 <;> rcases List.mem_cons.mp hp with e2 | e2
    · rw [e1, e2]
    · subst e1
      exact absurd (List.mem_map.mpr ⟨p, e2, e⟩) n1
    · subst e2
      exact absurd (List.mem_map.mpr ⟨x, e1, e.symm⟩) n1
    · exact uniq1 n2 e1 p e2 e
theorem Tbs.x {K : PySem.W.Frag} {mg : Str → Option Value} {base : Heap} (t : Tbs K mg base) {p : Mk_ × Str} (hp : p ∈ mkl) : ∀ y ∈ TT K, y.1 = (ctAt K (p.1 K)).2 → y.2 = qnm p.2 := fun y hy e => by
  refine uniq1 (l := TT K) (x := ((ctAt K (p.1 K)).2, qnm p.2)) ?_ (List.mem_map.mpr ⟨p, hp, rfl⟩) y hy e
  show ((mkl.map fun p => ((ctAt K (p.1 K)).2, qnm p.2)).map (·.1)).Nodup
  rw [List.map_map]
  exact t.apart
theorem Tbs.tx {P : Program} {w : World} {K : PySem.W.Frag} {mg : Str → Option Value} {base : Heap} {N : List Str} {scope : Scope} {f : Addr} {A : Around} {outer : List Env} {s : Shared} {H : Hp} {E : XK} {CX : CXT} (t : Tbs K mg base) {p : Mk_ × Str} (hp : p ∈ mkl) {cdv : Value} (hc : cdv = .ref (codeAt K (p.1 K))) :
    TabX (cxOf CX P w K mg base N p.2 scope f cdv A outer s H E) (TT K) :=
  ⟨(ctAt K (p.1 K)).1, (ctAt K (p.1 K)).2, t.all p hp, hc, List.mem_map.mpr ⟨p, hp, rfl⟩, t.x hp⟩
/-- all but tables stays, the tables tell what they should -/
def Ext (K : PySem.W.Frag) (H H' : Hp) : Prop := ExtN H H' ∧ Tabs (TT K) H'
section
variable {K : PySem.W.Frag} {H H1 H2 : Hp}
theorem extn_same (a : Same H H1) : ExtN H H1 := fun b o e _ => a b o e
theorem Ext.trans (a : Ext K H H1) (b : Ext K H1 H2) : Ext K H H2 := ⟨a.1.trans b.1, b.2⟩
theorem Ext.of (t : Tabs (TT K) H) (a : Same H H1) : Ext K H H1 := ⟨extn_same a, t.ext a⟩
theorem Ext.same (a : Ext K H H1) (b : Same H1 H2) : Ext K H H2 := a.trans (.of a.2 b)
theorem Ext.lst (a : Ext K H H1) {b : Addr} {xs : List V} (e : H b = some (.lst xs)) : H1 b = some (.lst xs) := a.1 _ _ e fun _ z => by cases z
theorem Ext.tup (a : Ext K H H1) {b : Addr} {xs : List V} (e : H b = some (.tup xs)) : H1 b = some (.tup xs) := a.1 _ _ e fun _ z => by cases z
theorem Ext.ins (a : Ext K H H1) {b c d : Addr} {xs : List (Str × V)} (e : H b = some (.ins c d xs)) : H1 b = some (.ins c d xs) := a.1 _ _ e fun _ z => by cases z
theorem HallAt.ext {C h lp : Addr} {m lt : Nat} {tk cl : List Nat} (p : HallAt C H h m tk cl lt lp) (b : Ext K H H1) : HallAt C H1 h m tk cl lt lp := by
  obtain ⟨dx, tp, cp, h1, h2, h3⟩ := p.ex
  exact ⟨⟨dx, tp, cp, b.ins h1, b.tup h2, b.tup h3⟩, b.lst p.lst, p.ok⟩
theorem PartsAt.ext {t tp cp : Addr} {m lt : Nat} {tk cl : List Nat} (p : PartsAt H t m tp tk cp cl lt) (b : Ext K H H1) : PartsAt H1 t m tp tk cp cl lt :=
  ⟨b.tup p.at_, b.tup p.tkA, b.tup p.clA, p.ok⟩
/-- the tables bear a change of the list at d -/
theorem tabs_but {d : Addr} {cs : List V} {T : List (Addr × Str)} (t : Tabs T H) (hd : H d = some (.lst cs)) (b : But d H H1) : Tabs T H1 := fun p hp => by
  obtain ⟨ps, h1, h2, h3⟩ := t p hp
  refine ⟨ps, b _ _ (fun z => by rw [z, hd] at h1; cases h1) h1, h2, fun pos cv hc => ?_⟩
  obtain ⟨c, e1, e2⟩ := h3 pos cv hc
  refine ⟨c, e1, b _ _ (fun z => ?_) e2⟩
  rw [z, hd] at e2
  have := Option.some.inj e2
  unfold CodeO at this
  cases this
theorem tabs_nil {T : List (Addr × Str)} (h : ∀ p ∈ T, H p.1 = some (.tbl #[])) : Tabs T H := fun p hp => TabS.nil (h p hp)
end
end Tk

/-! ### tick_of_take, tick_of_call, ticket_times, display -/
namespace Tk
open PySem PySem.Spec PyProof.Rows L2 Mm LamX
def spTickOf (K : PySem.W.Frag) (C : Addr) (F : List Nat → List Nat → Nat → Nat) : Sp := fun vs H Q _ => ∃ (h lp : Addr) (n m lt : Nat) (tk cl : List Nat), vs = [.ref h, vn n] ∧ HallAt C H h m tk cl lt lp ∧ Tabs (TT K) H ∧
  ∀ v H', Ext K H H' → TickIs (F tk cl) (per tk cl) n v → Q v H'
section
variable {P : Program} {w : World} {K : PySem.W.Frag} {mg : Str → Option Value} {base : Heap}
theorem ok_tick_of_take (T : Txt K mg) (B : Tbs K mg base) : OkF P w K mg base 6 (He.ga K "tick_of_take") ["hall", "number"] (spTickOf K (He.ga K "Hall") fun tk _ => tak tk) := by
  have G_taken : OkF P w K mg base 1 (He.ma K (He.ga K "Hall") "taken") ["self", "tick"] (spTaken (He.ga K "Hall")) := ok_taken T
  have G_period : OkF P w K mg base 1 (getAt K (He.ga K "Hall") "period") ["self"] (spPeriod (He.ga K "Hall")) := ok_period T
  refine FnP.okFc T.f_tick_of_take sc_tick_of_take (fun _ _ _ _ _ _ us hl => match us, hl with | [_, _], _ => rfl) (fun vs H Q E h => ?_) (fun cdv A outer s H vs Q E hcd hr h => ?_)
  · obtain ⟨h, _, _, _, _, _, _, rfl, _⟩ := h
    rfl
  obtain ⟨h, lp, n, m, lt, tk, cl, rfl, hA, hT, k⟩ := h
  have tx : TabX (cxOf (L2.CX P w) P w K mg base N_tick_of_take "tick_of_take" (defScope s_tick_of_take) (He.ga K "tick_of_take") cdv A outer s H E) (TT K) := B.tx (p := (fun K => He.ga K "tick_of_take", "tick_of_take")) (by simp [mkl]) hcd
  refine ⟨_, (pss_one (ps_ret (pe_lamcallN (k := 3) (by rfl) T.g_tick_of T.f_tick_of sc_tick_of bd_tick_of gv_tick_of tx (hr.mono (by decide)) (show LamP (defScope s_tick_of_take) _ "tick" from lamP_by (by decide +kernel)) (show ("tick" : PySem.Str) ∉ N_tick_of_take from by decide +kernel) rfl (fun _ _ _ _ _ _ => rfl) (fun A outer s H f c' hr => (pe_meth (pv 0) T.cl_Hall T.m_taken G_taken.one (hr.mono (by decide)) G_taken.two .nil passL (pa_cons (pv 2) pa_nil))) (pa_cons (pe_prop (pv 0) T.cl_Hall T.p_period G_period.one (hr.mono (by decide)) G_period.two .nil passL (by rfl)) (pa_cons (pv 1) pa_nil))))), ?_⟩
  refine ⟨hT, fun c' H1 eN T1 hc => ?_⟩
  have E1 : Ext K H H1 := ⟨eN, T1⟩
  have hA1 := hA.ext E1
  obtain ⟨dx, tp, cp, hh, htp, hcp⟩ := hA1.ex
  have PT := tak_per (per tk cl) (tk := tk) per_tk (per_pos hA.ok.tkP.pos hA.ok.clP.pos) (per_144 hA.ok.tkP hA.ok.clP) hA.ok.tkP.nine
  refine ⟨_, rfl, h, dx, _, rfl, hh, h, dx, tp, cp, _, tk, cl, rfl, hh, hfs_takes, hfs_calls, htp, hcp, hA.ok.tkP, hA.ok.clP, _, rfl, rfl, ?_⟩
  refine ⟨per tk cl, n, tak tk, rfl, hc, PT, fun t => tak_mono (by omega), rfl, fun z H2 Q2 S2 k2 => ?_, fun v H2 S2 ht => k v H2 (E1.same S2) ht⟩
  refine ⟨_, rfl, h, dx, _, rfl, S2 _ _ hh, hfs_no (by decide +kernel) (by decide +kernel) (by decide +kernel) (by decide +kernel) (by decide +kernel), _, rfl, h, lp, (z : Int), m, lt, tk, cl, rfl, hA1.same S2, fun H3 S3 => ?_⟩
  rw [Int.toNat_natCast]
  exact k2 H3 S3
theorem ok_tick_of_call (T : Txt K mg) (B : Tbs K mg base) : OkF P w K mg base 7 (He.ga K "tick_of_call") ["hall", "number"] (spTickOf K (He.ga K "Hall") fun tk cl => cal tk cl) := by
  have G_called : OkF P w K mg base 3 (He.ma K (He.ga K "Hall") "called") ["self", "tick"] (spCalled (He.ga K "Hall")) := ok_called T
  have G_period : OkF P w K mg base 1 (getAt K (He.ga K "Hall") "period") ["self"] (spPeriod (He.ga K "Hall")) := ok_period T
  refine FnP.okFc T.f_tick_of_call sc_tick_of_call (fun _ _ _ _ _ _ us hl => match us, hl with | [_, _], _ => rfl) (fun vs H Q E h => ?_) (fun cdv A outer s H vs Q E hcd hr h => ?_)
  · obtain ⟨h, _, _, _, _, _, _, rfl, _⟩ := h
    rfl
  obtain ⟨h, lp, n, m, lt, tk, cl, rfl, hA, hT, k⟩ := h
  have tx : TabX (cxOf (L2.CX P w) P w K mg base N_tick_of_call "tick_of_call" (defScope s_tick_of_call) (He.ga K "tick_of_call") cdv A outer s H E) (TT K) := B.tx (p := (fun K => He.ga K "tick_of_call", "tick_of_call")) (by simp [mkl]) hcd
  refine ⟨_, (pss_one (ps_ret (pe_lamcallN (k := 4) (by rfl) T.g_tick_of T.f_tick_of sc_tick_of bd_tick_of gv_tick_of tx (hr.mono (by decide)) (show LamP (defScope s_tick_of_call) _ "tick" from lamP_by (by decide +kernel)) (show ("tick" : PySem.Str) ∉ N_tick_of_call from by decide +kernel) rfl (fun _ _ _ _ _ _ => rfl) (fun A outer s H f c' hr => (pe_meth (pv 0) T.cl_Hall T.m_called G_called.one (hr.mono (by decide)) G_called.two .nil passL (pa_cons (pv 2) pa_nil))) (pa_cons (pe_prop (pv 0) T.cl_Hall T.p_period G_period.one (hr.mono (by decide)) G_period.two .nil passL (by rfl)) (pa_cons (pv 1) pa_nil))))), ?_⟩
  refine ⟨hT, fun c' H1 eN T1 hc => ?_⟩
  have E1 : Ext K H H1 := ⟨eN, T1⟩
  have hA1 := hA.ext E1
  obtain ⟨dx, tp, cp, hh, htp, hcp⟩ := hA1.ex
  have PT := cal_Per hA.ok.tkP hA.ok.clP
  refine ⟨_, rfl, h, dx, _, rfl, hh, h, dx, tp, cp, _, tk, cl, rfl, hh, hfs_takes, hfs_calls, htp, hcp, hA.ok.tkP, hA.ok.clP, _, rfl, rfl, ?_⟩
  refine ⟨per tk cl, n, cal tk cl, rfl, hc, PT, fun t => cal_mono (by omega), rfl, fun z H2 Q2 S2 k2 => ?_, fun v H2 S2 ht => k v H2 (E1.same S2) ht⟩
  refine ⟨_, rfl, h, dx, _, rfl, S2 _ _ hh, hfs_no (by decide +kernel) (by decide +kernel) (by decide +kernel) (by decide +kernel) (by decide +kernel), _, rfl, h, lp, (z : Int), m, lt, tk, cl, rfl, hA1.same S2, ?_⟩
  rw [Int.toNat_natCast]
  exact k2 H2 (Same.refl _)

/-- what ticket_times answers -/
inductive TimesIs (tk cl : List Nat) (n : Nat) (H : Hp) : V → Prop where
  | no (h : TickIs (tak tk) (per tk cl) n .non) : TimesIs tk cl n H .non
  | at_ (T : Nat) (v : V) (r : Addr) (hr : H r = some (.tup [vn T, v])) (h1 : TickIs (tak tk) (per tk cl) n (vn T)) (h2 : TickIs (cal tk cl) (per tk cl) n v) : TimesIs tk cl n H (.ref r)
def spTimes (K : PySem.W.Frag) (C : Addr) : Sp := fun vs H Q _ => ∃ (h lp : Addr) (n m lt : Nat) (tk cl : List Nat), vs = [.ref h, vn n] ∧ n ≤ 1000000000000000000 ∧ HallAt C H h m tk cl lt lp ∧ Tabs (TT K) H ∧
  ∀ v H', Ext K H H' → TimesIs tk cl n H' v → Q v H'
def dispV (m : Nat) (tk cl : List Nat) (t : Nat) : V := if cal tk cl (t + 1) = 0 then .non else vn ((cal tk cl (t + 1) - 1) % m)
def spDisplay (C : Addr) : Sp := fun vs H Q _ => ∃ (h lp : Addr) (t m lt : Nat) (tk cl : List Nat), vs = [.ref h, vn t] ∧ t ≤ 1000000000000000000 ∧ HallAt C H h m tk cl lt lp ∧ Q (dispV m tk cl t) H
theorem ok_ticket_times (T : Txt K mg) (B : Tbs K mg base) : OkF P w K mg base 8 (He.ga K "ticket_times") ["hall", "number"] (spTimes K (He.ga K "Hall")) := by
  have G_is_integer_within : OkF P w K mg base 1 (He.ga K "is_integer_within") ["value", "low", "high"] spWithin := ok_is_integer_within T
  have G_tick_of_take : OkF P w K mg base 6 (He.ga K "tick_of_take") ["hall", "number"] (spTickOf K (He.ga K "Hall") fun tk _ => tak tk) := ok_tick_of_take T B
  have G_tick_of_call : OkF P w K mg base 7 (He.ga K "tick_of_call") ["hall", "number"] (spTickOf K (He.ga K "Hall") fun tk cl => cal tk cl) := ok_tick_of_call T B
  refine FnP.okF T.f_ticket_times sc_ticket_times (fun _ _ _ _ _ _ us hl => match us, hl with | [_, _], _ => rfl) (fun vs H Q E h => ?_) (fun cdv A outer s H vs Q E hr h => ?_)
  · obtain ⟨h, _, _, _, _, _, _, rfl, _⟩ := h
    rfl
  obtain ⟨h, lp, n, m, lt, tk, cl, rfl, hn, hA, hT, k⟩ := h
  refine ⟨_, (pss_cons (ps_if (pt_not (pt_val (pe_call G_is_integer_within.one (hr.mono (by decide)) (by rfl) T.g_is_integer_within G_is_integer_within.kp G_is_integer_within.two .nil passL (pa_cons (pv 1) (pa_cons pe_int (pa_cons (pe_gint (by rfl) T.c_LAST_NUMBER) pa_nil)))))) (pss_one ps_never) pss_nil)
    (pss_cons (ps_set (i := 2) sc_ticket_times.nd rfl (Or.inl rfl) (pe_call G_tick_of_take.one (hr.mono (by decide)) (by rfl) T.g_tick_of_take G_tick_of_take.kp G_tick_of_take.two .nil passL (pa_cons (pv 0) (pa_cons (pv 1) pa_nil))))
    (pss_cons (ps_if (pt_cmpR (show OpR _ (compareOp .Is) Rd.rIsN from op_isN) (pv 2) pe_non (nomark _)) (pss_one (ps_ret pe_non)) pss_nil)
    (pss_one (ps_ret (pe_tup (pa_cons (pv 2) (pa_cons (pe_call G_tick_of_call.one (hr.mono (by decide)) (by rfl) T.g_tick_of_call G_tick_of_call.kp G_tick_of_call.two .nil passL (pa_cons (pv 0) (pa_cons (pv 1) pa_nil))) pa_nil)))))))), ?_⟩
  refine ⟨_, rfl, .int (n : Int), 0, 1000000000000000000, rfl, .int _, true, by rw [inB_in (by omega) (by omega)], ?_⟩
  refine ⟨_, rfl, _, rfl, h, lp, n, m, lt, tk, cl, rfl, hA, hT, fun v H1 E1 t1 => ?_⟩
  refine ⟨_, rfl, rfl, _, rfl, ?_⟩
  cases t1 with
  | no h1 h2 => exact k _ H1 E1 (.no (.no h1 h2))
  | at_ T0 h1 h2 h3 =>
    refine ⟨_, rfl, _, rfl, _, rfl, h, lp, n, m, lt, tk, cl, rfl, hA.ext E1, E1.2, fun v H2 E2 t2 => ?_⟩
    refine ⟨(by show 2 ≤ sizeLine; decide), fun r hr0 => ?_⟩
    exact k _ _ ((E1.trans E2).same (Same.new hr0)) (.at_ T0 v r upd_same (.at_ T0 h1 h2 h3) t2)
theorem ok_display (T : Txt K mg) : OkF P w K mg base 4 (He.ga K "display") ["hall", "tick"] (spDisplay (He.ga K "Hall")) := by
  have G_check_tick : OkF P w K mg base 2 (He.ga K "check_tick") ["tick"] spTick := ok_check_tick T
  have G_called : OkF P w K mg base 3 (He.ma K (He.ga K "Hall") "called") ["self", "tick"] (spCalled (He.ga K "Hall")) := ok_called T
  refine FnP.okF T.f_display sc_display (fun _ _ _ _ _ _ us hl => match us, hl with | [_, _], _ => rfl) (fun vs H Q E h => ?_) (fun cdv A outer s H vs Q E hr h => ?_)
  · obtain ⟨h, _, _, _, _, _, _, rfl, _⟩ := h
    rfl
  obtain ⟨h, lp, t, m, lt, tk, cl, rfl, ht, hA, k⟩ := h
  refine ⟨_, (pss_cons (ps_expr (pe_call G_check_tick.one (hr.mono (by decide)) (by rfl) T.g_check_tick G_check_tick.kp G_check_tick.two .nil passL (pa_cons (pv 1) pa_nil)))
    (pss_cons (ps_set (i := 2) sc_display.nd rfl (Or.inl rfl) (pe_meth (pv 0) T.cl_Hall T.m_called G_called.one (hr.mono (by decide)) G_called.two .nil passL (pa_cons (pe_op op_add (pv 1) pe_int) pa_nil)))
    (pss_cons (ps_if (pt_cmpR op_eq (pv 2) pe_int (nomark _)) (pss_one (ps_ret pe_non)) pss_nil)
    (pss_one (ps_ret (pe_op op_mod (pe_op op_sub (pv 2) pe_int) (pe_fld (pv 0) rfl))))))), ?_⟩
  obtain ⟨dx, tp, cp, hh, htp, hcp⟩ := hA.ex
  refine ⟨_, rfl, (t : Int), rfl, by omega, by omega, ?_⟩
  refine ⟨_, rfl, h, dx, _, rfl, hh, hfs_no (by decide +kernel) (by decide +kernel) (by decide +kernel) (by decide +kernel) (by decide +kernel), _, rfl, _, _, rfl, rfl, h, lp, (t : Int) + 1, m, lt, tk, cl, rfl, hA, ?_⟩
  rw [show ((t : Int) + 1).toNat = t + 1 by omega]
  have m2 := hA.ok.m2
  unfold dispV at k
  refine ⟨_, rfl, rfl, _, rfl, ite2 (fun c => ?_) (fun c => ?_)⟩
  · have c1 : cal tk cl (t + 1) = 0 := by
      have e : V.int ((cal tk cl (t + 1) : Nat) : Int) = V.int 0 := of_decide_eq_true c
      injection e
      omega
    rw [if_pos c1] at k
    exact k
  · have c1 : ¬ cal tk cl (t + 1) = 0 := fun e => c (decide_eq_true (by rw [e]; rfl))
    rw [if_neg c1] at k
    refine ⟨_, rfl, _, _, rfl, rfl, _, rfl, h, _, dx, _, _, rfl, hh, T.cl_Hall, T.n_modulus, hfs_modulus, _, _, rfl, rfl, (by show (0 : Int) < (m : Int); omega), ?_⟩
    have ev : V.int ((((cal tk cl (t + 1) : Nat) : Int) - 1) % (m : Int)) = vn ((cal tk cl (t + 1) - 1) % m) := by
      refine vn_int ?_
      rw [show ((cal tk cl (t + 1) : Nat) : Int) - 1 = ((cal tk cl (t + 1) - 1 : Nat) : Int) by omega, Int.natCast_emod]
    rw [← ev] at k
    exact k
end
end Tk

/-! ### Waits -/
namespace Mm
section
variable {tk cl : List Nat} {p : Nat}
/-- the tick in which n is reached -/
def Tk (F : Nat → Nat) (n T : Nat) : Prop := F T ≤ n ∧ n < F (T + 1)
theorem Tk.uniq {F : Nat → Nat} (mono : ∀ {a b : Nat}, a ≤ b → F a ≤ F b) {n T T' : Nat} (h : Tk F n T) (h' : Tk F n T') : T = T' := by
  rcases Nat.lt_trichotomy T T' with z | z | z
  · have := mono (show T + 1 ≤ T' by omega)
    have := h.2
    have := h'.1
    omega
  · exact z
  · have := mono (show T' + 1 ≤ T by omega)
    have := h'.2
    have := h.1
    omega
theorem Tk.le {F : Nat → Nat} (mono : ∀ {a b : Nat}, a ≤ b → F a ≤ F b) {n T t : Nat} (h : Tk F n T) (h' : n < F (t + 1)) : T ≤ t := by
  rcases Nat.lt_or_ge t T with z | z
  · have := mono (show t + 1 ≤ T by omega)
    have := h.1
    omega
  · exact z
theorem Tk.ge {F : Nat → Nat} (mono : ∀ {a b : Nat}, a ≤ b → F a ≤ F b) {n T t : Nat} (h : Tk F n T) (h' : F t ≤ n) : t ≤ T := by
  rcases Nat.lt_or_ge T t with z | z
  · have := mono (show T + 1 ≤ t by omega)
    have := h.2
    omega
  · exact z
/-- the first tick below b in which more than n are reached -/
theorem Tk.ex {F : Nat → Nat} (h0 : F 0 = 0) {n : Nat} : ∀ {b : Nat}, n < F b → ∃ T, T < b ∧ Tk F n T
  | 0, h => by omega
  | b + 1, h => by
    by_cases q : n < F b
    · obtain ⟨T, h1, h2⟩ := Tk.ex h0 q
      exact ⟨T, by omega, h2⟩
    · exact ⟨b, by omega, by omega, h⟩
variable (hp : 0 < p) (ht : tk.length ∣ p) (hc : cl.length ∣ p)
include ht hc in
theorem cal_up (t : Nat) : cal tk cl (t + p) ≤ cal tk cl t + tak tk p := by
  have h1 := wt_up (tk := tk) (cl := cl) ht hc t
  have h2 := wt_cal (tk := tk) (cl := cl) t
  have h3 := wt_cal (tk := tk) (cl := cl) (t + p)
  have h4 := tak_add p ht t
  omega
include ht hc in
theorem cal_same (gz : wt tk cl (p + 1) = wt tk cl (p + 1 + p)) {t : Nat} (h : p + 1 ≤ t) : cal tk cl (t + p) = cal tk cl t + tak tk p := by
  have h1 := wt_same ht hc gz t h
  have h2 := wt_cal (tk := tk) (cl := cl) t
  have h3 := wt_cal (tk := tk) (cl := cl) (t + p)
  have h4 := tak_add p ht t
  omega
include ht hc in
theorem cal_same_k (gz : wt tk cl (p + 1) = wt tk cl (p + 1 + p)) : ∀ k, cal tk cl (p + 1 + k * p) = cal tk cl (p + 1) + k * tak tk p
  | 0 => by simp
  | k + 1 => by
    have ih := cal_same_k gz k
    have h := cal_same ht hc gz (t := p + 1 + k * p) (by omega)
    rw [Nat.succ_mul, Nat.succ_mul, ← Nat.add_assoc, h, ih]
    omega
include ht hc in
theorem per_calls (gz : wt tk cl (p + 1) = wt tk cl (p + 1 + p)) (hp : 0 < p) : cal tk cl (2 * p) = cal tk cl p + tak tk p := by
  have h1 := cal_same ht hc gz (t := p + 1) (Nat.le_refl _)
  have h2 := cal_per hp ht hc (t := p + 1) (by omega)
  omega
/-- W is the longest wait -/
structure Long (tk cl : List Nat) (p W : Nat) : Prop where
  up : ∀ t, p ≤ t → t < 2 * p → tak tk t < tak tk (t + 1) → ∃ T, Tk (cal tk cl) (tak tk (t + 1) - 1) T ∧ T - t ≤ W
  at_ : W = 0 ∨ ∃ t T, p ≤ t ∧ t < 2 * p ∧ tak tk t < tak tk (t + 1) ∧ Tk (cal tk cl) (tak tk (t + 1) - 1) T ∧ W = T - t
theorem call_ge {n T0 T : Nat} (h1 : Tk (tak tk) n T0) (h2 : Tk (cal tk cl) n T) : T0 ≤ T := by
  have := cal_le (tk := tk) (cl := cl) (T + 1)
  have := h2.2
  exact Tk.le (fun h => tak_mono h) h1 (by omega)
include ht hc in
/-- each ticket of three periods waits no longer -/
theorem Long.all (gz : wt tk cl (p + 1) = wt tk cl (p + 1 + p)) {W : Nat} (L : Long tk cl p W) {n T0 T : Nat} (hn : n < tak tk (3 * p)) (h1 : Tk (tak tk) n T0) (h2 : Tk (cal tk cl) n T) : T - T0 ≤ W := by
  have monoT : ∀ {a b : Nat}, a ≤ b → tak tk a ≤ tak tk b := fun h => tak_mono h
  have monoC : ∀ {a b : Nat}, a ≤ b → cal tk cl a ≤ cal tk cl b := fun h => cal_mono h
  have lt3 : T0 < 3 * p := by
    rcases Nat.lt_or_ge T0 (3 * p) with z | z
    · exact z
    · have := monoT z
      have := h1.1
      omega
  have some1 : tak tk T0 < tak tk (T0 + 1) := Nat.lt_of_le_of_lt h1.1 h1.2
  -- n is called no later than the last ticket of its tick
  have key : ∀ S, Tk (cal tk cl) (tak tk (T0 + 1) - 1) S → T ≤ S := fun S hS => Tk.le monoC h2 (Nat.lt_of_le_of_lt (by have := h1.2; omega) hS.2)
  by_cases c1 : T0 < p
  · have a1 := tak_add p ht T0
    have a2 := tak_add p ht (T0 + 1)
    rw [show T0 + 1 + p = T0 + p + 1 by omega] at a2
    obtain ⟨S, hS, hW⟩ := L.up (T0 + p) (by omega) (by omega) (by omega)
    have hSp : T0 + p ≤ S := by
      have := cal_le (tk := tk) (cl := cl) (S + 1)
      have := hS.2
      have z : tak tk (T0 + p) < tak tk (S + 1) := by omega
      rcases Nat.lt_or_ge S (T0 + p) with q | q
      · have := monoT (show S + 1 ≤ T0 + p by omega)
        omega
      · exact q
    have up := cal_up ht hc (tk := tk) (cl := cl) (S + 1 - p)
    rw [show S + 1 - p + p = S + 1 by omega] at up
    have := hS.2
    have le : T ≤ S - p := Tk.le monoC h2 (by
      rw [show S - p + 1 = S + 1 - p by omega]
      have := h1.2
      omega)
    omega
  · by_cases c2 : T0 < 2 * p
    · obtain ⟨S, hS, hW⟩ := L.up T0 (by omega) c2 some1
      have := key S hS
      omega
    · obtain ⟨u, rfl⟩ : ∃ u, T0 = u + p := ⟨T0 - p, by omega⟩
      have a1 := tak_add p ht u
      have a2 := tak_add p ht (u + 1)
      rw [show u + 1 + p = u + p + 1 by omega] at a2
      obtain ⟨S, hS, hW⟩ := L.up u (by omega) (by omega) (by omega)
      have hSu : u ≤ S := by
        have := cal_le (tk := tk) (cl := cl) (S + 1)
        have := hS.2
        rcases Nat.lt_or_ge S u with q | q
        · have := monoT (show S + 1 ≤ u by omega)
          omega
        · exact q
      have sm := cal_same ht hc gz (t := S + 1) (by omega)
      have := hS.2
      have le : T ≤ S + p := Tk.le monoC h2 (by
        rw [show S + p + 1 = S + 1 + p by omega]
        have := h1.2
        omega)
      omega
include hp ht hc in
/-- all tickets of three periods are called within four and a tick -/
theorem called_all (gz : wt tk cl (p + 1) = wt tk cl (p + 1 + p)) {n : Nat} (hn : n < tak tk (3 * p)) : ∃ T, T < 4 * p + 1 ∧ Tk (cal tk cl) n T := by
  refine Tk.ex rfl ?_
  have h := cal_same_k ht hc gz 3
  have a1 := tak_add p ht p
  have a2 := tak_add p ht (2 * p)
  rw [show p + p = 2 * p by omega] at a1
  rw [show 2 * p + p = 3 * p by omega] at a2
  rw [show 4 * p + 1 = p + 1 + 3 * p by omega, h]
  omega
/-- what is called in a stretch without an empty room -/
theorem full_calls {a : Nat} : ∀ k, (∀ t, a < t → t ≤ a + k → 0 < wt tk cl t) → cal tk cl (a + k) + tak cl a = cal tk cl a + tak cl (a + k)
  | 0, _ => by simp
  | k + 1, h => by
    have ih := full_calls (a := a) k fun t h1 h2 => h t h1 (by omega)
    have w := h (a + k + 1) (by omega) (by omega)
    rw [wt_succ] at w
    have c := cal_succ (tk := tk) (cl := cl) (a + k)
    have e : tak cl (a + k + 1) = tak cl (a + k) + atp cl (a + k) := rfl
    rw [show a + (k + 1) = a + k + 1 by omega, c, e]
    omega
theorem some_calls {a : Nat} : ∀ k, cal tk cl (a + k) + tak cl a ≤ cal tk cl a + tak cl (a + k)
  | 0 => by simp
  | k + 1 => by
    have ih := some_calls (a := a) k
    have c := cal_succ (tk := tk) (cl := cl) (a + k)
    have e : tak cl (a + k + 1) = tak cl (a + k) + atp cl (a + k) := rfl
    rw [show a + (k + 1) = a + k + 1 by omega, c, e]
    omega
include hp ht hc in
/-- nobody more waits after a period iff no more are taken than can be called -/
theorem grow_iff : wt tk cl (p + 1) = wt tk cl (p + 1 + p) ↔ tak tk p ≤ tak cl p := by
  have a1 := tak_add p ht (p + 1)
  have a2 := tak_add (tk := cl) p hc (p + 1)
  have w1 := wt_cal (tk := tk) (cl := cl) (p + 1)
  have w2 := wt_cal (tk := tk) (cl := cl) (p + 1 + p)
  constructor
  · intro h
    have s := some_calls (tk := tk) (cl := cl) (a := p + 1) p
    omega
  · intro h
    by_cases z : ∀ t, p + 1 < t → t ≤ p + 1 + p → 0 < wt tk cl t
    · have f := full_calls (tk := tk) (cl := cl) (a := p + 1) p z
      have u := wt_up (tk := tk) (cl := cl) ht hc (p + 1)
      omega
    · obtain ⟨t, h1, h2, h3⟩ : ∃ t, p + 1 < t ∧ t ≤ p + 1 + p ∧ wt tk cl t = 0 := by
        refine Classical.byContradiction fun q => z fun t h1 h2 => ?_
        rcases Nat.eq_zero_or_pos (wt tk cl t) with e | e
        · exact absurd ⟨t, h1, h2, e⟩ q
        · exact e
      have u := wt_up (tk := tk) (cl := cl) ht hc (t - p)
      rw [show t - p + p = t by omega, h3] at u
      refine wt_same ht hc (s := t - p) ?_ (p + 1) (by omega)
      rw [show t - p + p = t by omega, h3]
      omega
end
end Mm

/-! ### longest_wait -/
namespace Tk
open PySem PySem.Spec PyProof.Rows L2 Mm LamX
def LongV (tk cl : List Nat) (v : V) : Prop := (0 < grow tk cl ∧ v = .non) ∨ (grow tk cl = 0 ∧ ∃ W : Nat, v = vn W ∧ Long tk cl (per tk cl) W)
theorem grow_zero {tk cl : List Nat} : grow tk cl = 0 ↔ wt tk cl (per tk cl + 1) = wt tk cl (per tk cl + 1 + per tk cl) := by
  have u := wt_up (tk := tk) (cl := cl) per_tk per_cl (per tk cl + 1)
  unfold grow
  rw [show 2 * per tk cl + 1 = per tk cl + 1 + per tk cl by omega]
  omega
def spLongest (K : PySem.W.Frag) (C : Addr) : Sp := fun vs H Q _ => ∃ (h lp : Addr) (m lt : Nat) (tk cl : List Nat), vs = [.ref h] ∧ HallAt C H h m tk cl lt lp ∧ Tabs (TT K) H ∧ ∀ v H', Ext K H H' → LongV tk cl v → Q v H'
section
variable {P : Program} {w : World} {K : PySem.W.Frag} {mg : Str → Option Value} {base : Heap}
theorem ok_longest_wait (T : Txt K mg) (B : Tbs K mg base) : OkF P w K mg base 8 (He.ga K "longest_wait") ["hall"] (spLongest K (He.ga K "Hall")) := by
  have G_growth : OkF P w K mg base 5 (getAt K (He.ga K "Hall") "growth") ["self"] (spGrowth (He.ga K "Hall")) := ok_growth T
  have G_period : OkF P w K mg base 1 (getAt K (He.ga K "Hall") "period") ["self"] (spPeriod (He.ga K "Hall")) := ok_period T
  have G_taken : OkF P w K mg base 1 (He.ma K (He.ga K "Hall") "taken") ["self", "tick"] (spTaken (He.ga K "Hall")) := ok_taken T
  have G_tick_of_call : OkF P w K mg base 7 (He.ga K "tick_of_call") ["hall", "number"] (spTickOf K (He.ga K "Hall") fun tk cl => cal tk cl) := ok_tick_of_call T B
  refine FnP.okF T.f_longest_wait sc_longest_wait (fun _ _ _ _ _ _ us hl => match us, hl with | [_], _ => rfl) (fun vs H Q E h => ?_) (fun cdv A outer s H vs Q E hr h => ?_)
  · obtain ⟨h, _, _, _, _, _, rfl, _⟩ := h
    rfl
  obtain ⟨h, lp, m, lt, tk, cl, rfl, hA, hT, k⟩ := h
  have p0 := per_pos hA.ok.tkP.pos hA.ok.clP.pos
  have p144 := per_144 hA.ok.tkP hA.ok.clP
  have noT : ∀ {tp cp : Addr}, (hfs m tp cp lt lp).lookup ("taken" : Str) = none := hfs_no (by decide +kernel) (by decide +kernel) (by decide +kernel) (by decide +kernel) (by decide +kernel)
  obtain ⟨dx, tp, cp, hh, htp, hcp⟩ := hA.ex
  refine ⟨_, (pss_cons (ps_if (pt_cmpR op_gt (pe_prop (pv 0) T.cl_Hall T.p_growth G_growth.one (hr.mono (by decide)) G_growth.two .nil passL (by rfl)) pe_int (nomark _)) (pss_one (ps_ret pe_non)) pss_nil)
    (pss_cons (ps_set (i := 1) sc_longest_wait.nd rfl (Or.inl rfl) pe_int)
    (pss_cons (ps_for own_cx rfl (pi_range2 (by rfl) T.g_range (pa_cons (pe_prop (pv 0) T.cl_Hall T.p_period G_period.one (hr.mono (by decide)) G_period.two .nil passL (by rfl)) (pa_cons (pe_op op_mul pe_int (pe_prop (pv 0) T.cl_Hall T.p_period G_period.one (hr.mono (by decide)) G_period.two .nil passL (by rfl))) pa_nil))) (pg_name (i := 2) sc_longest_wait.nd rfl (Or.inl rfl))
      (pss_cons (ps_set (i := 3) sc_longest_wait.nd rfl (Or.inl rfl) (pe_meth (pv 0) T.cl_Hall T.m_taken G_taken.one (hr.mono (by decide)) G_taken.two .nil passL (pa_cons (pe_op op_add (pv 2) pe_int) pa_nil)))
    (pss_one (ps_if (pt_cmpR op_gt (pv 3) (pe_meth (pv 0) T.cl_Hall T.m_taken G_taken.one (hr.mono (by decide)) G_taken.two .nil passL (pa_cons (pv 2) pa_nil)) (nomark _)) (pss_one (ps_set (i := 1) sc_longest_wait.nd rfl (Or.inl rfl) (pe_callB (show CallR _ (.builtin "max") Rd.rMax2 from call_max2 (by rfl)) (by rfl) T.g_max (by decide +kernel) (pa_cons (pv 1) (pa_cons (pe_op op_sub (pe_call G_tick_of_call.one (hr.mono (by decide)) (by rfl) T.g_tick_of_call G_tick_of_call.kp G_tick_of_call.two .nil passL (pa_cons (pv 0) (pa_cons (pe_op op_sub (pv 3) pe_int) pa_nil))) (pv 2)) pa_nil))))) pss_nil))))
    (pss_one (ps_ret (pv 1)))))), ?_⟩
  refine ⟨_, rfl, h, dx, _, rfl, hh, h, lp, m, lt, tk, cl, rfl, hA, fun H1 S1 => ?_⟩
  have E1 : Ext K H H1 := .of hT S1
  refine ⟨_, _, rfl, rfl, _, rfl, ite2 (fun c => ?_) (fun c => ?_)⟩
  · have c1 : (0 : Int) < ((grow tk cl : Nat) : Int) := of_decide_eq_true c
    exact k _ _ E1 (.inl ⟨by omega, rfl⟩)
  have c1 : ¬ (0 : Int) < ((grow tk cl : Nat) : Int) := fun q => c (decide_eq_true q)
  have g0 : grow tk cl = 0 := by omega
  have gz := grow_zero.mp g0
  have pc := per_calls per_tk per_cl gz p0
  clear c c1
  obtain ⟨dx, tp, cp, hh, htp, hcp⟩ := (hA.ext E1).ex
  refine ⟨_, rfl, h, dx, _, rfl, hh, h, dx, tp, cp, _, tk, cl, rfl, hh, hfs_takes, hfs_calls, htp, hcp, hA.ok.tkP, hA.ok.clP, ?_⟩
  refine ⟨_, rfl, h, dx, _, rfl, hh, h, dx, tp, cp, _, tk, cl, rfl, hh, hfs_takes, hfs_calls, htp, hcp, hA.ok.tkP, hA.ok.clP, _, _, rfl, rfl, .inl ⟨by decide, by decide⟩, ?_⟩
  generalize hp : per tk cl = p at *
  have tp0 : tak tk (p + p) = tak tk p + tak tk p := tak_add p (by rw [← hp]; exact per_tk) p
  refine ⟨(p : Int), 2 * (p : Int), rfl, ⟨by omega, by omega, by omega, by omega⟩, for_range (lo := (p : Int)) (n := (2 * (p : Int) - (p : Int)).toNat) (fun i σ H2 => ∃ (W : Nat) (v2 v3 : Option V), σ = [some (.ref h), some (vn W), v2, v3] ∧ Ext K H H2 ∧
    (∀ t, p ≤ t → t < p + i → tak tk t < tak tk (t + 1) → ∃ T, Tk (cal tk cl) (tak tk (t + 1) - 1) T ∧ T - t ≤ W) ∧
    (W = 0 ∨ ∃ t T, p ≤ t ∧ t < p + i ∧ tak tk t < tak tk (t + 1) ∧ Tk (cal tk cl) (tak tk (t + 1) - 1) T ∧ W = T - t))
    ⟨0, _, _, rfl, E1, fun t h1 h2 => by omega, .inl rfl⟩ ?_ ?_⟩
  · rintro i σ H2 hi ⟨W, v2, v3, rfl, E2, up, at_⟩
    have hi2 : i < p := by omega
    have hA2 := hA.ext E2
    obtain ⟨dx, tp, cp, hh, htp, hcp⟩ := hA2.ex
    refine ⟨_, rfl, h, dx, _, rfl, hh, noT, _, rfl, _, _, rfl, rfl, h, lp, (p : Int) + (i : Int) + 1, m, lt, tk, cl, rfl, hA2, fun H3 S3 => ?_⟩
    rw [show ((p : Int) + (i : Int) + 1).toNat = p + i + 1 by omega]
    refine ⟨_, rfl, _, rfl, h, dx, _, rfl, S3 _ _ hh, noT, _, rfl, h, lp, (p : Int) + (i : Int), m, lt, tk, cl, rfl, hA2.same S3, fun H4 S4 => ?_⟩
    rw [show ((p : Int) + (i : Int)).toNat = p + i by omega]
    have E4 := (E2.same S3).same S4
    refine ⟨_, _, rfl, rfl, _, rfl, ite2 (fun c => ?_) (fun c => ?_)⟩
    · have c1 : ((tak tk (p + i) : Nat) : Int) < ((tak tk (p + i + 1) : Nat) : Int) := of_decide_eq_true c
      refine ⟨_, rfl, _, rfl, _, rfl, _, _, rfl, rfl, h, lp, tak tk (p + i + 1) - 1, m, lt, tk, cl, ?_, hA.ext E4, E4.2, fun v H5 E5 tv => ?_⟩
      · have e : V.int (((tak tk (p + i + 1) : Nat) : Int) - 1) = vn (tak tk (p + i + 1) - 1) := vn_int (by omega)
        rw [← e]
        rfl
      · rw [hp] at tv
        dsimp only at tv
        cases tv with
        | no b1 b2 =>
          exfalso
          have := tak_mono (tk := tk) (show p + i + 1 ≤ p + p by omega)
          omega
        | at_ T b1 b2 b3 =>
          have TT1 : Tk (cal tk cl) (tak tk (p + i + 1) - 1) T := ⟨b1, b2⟩
          have ge : p + i ≤ T := by
            have q1 := cal_le (tk := tk) (cl := cl) (T + 1)
            rcases Nat.lt_or_ge T (p + i) with z | z
            · have := tak_mono (tk := tk) (show T + 1 ≤ p + i by omega)
              omega
            · exact z
          refine ⟨_, rfl, _, _, rfl, rfl, _, _, rfl, ?_⟩
          refine ⟨max W (T - (p + i)), some (.int ((p : Int) + (i : Int))), some (vn (tak tk (p + i + 1))), ?_, E4.trans E5, fun t h1 h2 h3 => ?_, ?_⟩
          · have e : V.int (if (T : Int) - ((p : Int) + (i : Int)) > (W : Int) then (T : Int) - ((p : Int) + (i : Int)) else (W : Int)) = vn (max W (T - (p + i))) := vn_int (by split <;> omega)
            rw [← e]
            rfl
          · rcases Nat.lt_or_ge t (p + i) with z | z
            · obtain ⟨T1, g1, g2⟩ := up t h1 z h3
              exact ⟨T1, g1, by omega⟩
            · obtain rfl : t = p + i := by omega
              exact ⟨T, TT1, by omega⟩
          · by_cases q : W ≤ T - (p + i)
            · exact .inr ⟨p + i, T, by omega, by omega, by omega, TT1, by omega⟩
            · rcases at_ with z | ⟨t, T1, g1, g2, g3, g4, g5⟩
              · omega
              · exact .inr ⟨t, T1, g1, by omega, g3, g4, by omega⟩
    · have c1 : ¬ ((tak tk (p + i) : Nat) : Int) < ((tak tk (p + i + 1) : Nat) : Int) := fun q => c (decide_eq_true q)
      refine ⟨W, _, _, rfl, E4, fun t h1 h2 h3 => ?_, ?_⟩
      · rcases Nat.lt_or_ge t (p + i) with z | z
        · exact up t h1 z h3
        · obtain rfl : t = p + i := by omega
          omega
      · rcases at_ with z | ⟨t, T1, g1, g2, g3, g4, g5⟩
        · exact .inl z
        · exact .inr ⟨t, T1, g1, by omega, g3, g4, g5⟩
  · rintro σ H2 ⟨W, v2, v3, rfl, E2, up, at_⟩
    have e : p + (2 * (p : Int) - (p : Int)).toNat = 2 * p := by omega
    rw [e] at up at_
    exact ⟨_, rfl, k _ _ E2 (.inr ⟨g0, W, rfl, by rw [hp]; exact ⟨up, at_⟩⟩)⟩
end
end Tk

/-! ### The law's open tickets and their greatest number -/
namespace Tk
open PySem PySem.Spec PyProof.Rows L2 Mm
def spOpens : Sp := fun vs H Q _ => ∃ (t tp cp : Addr) (m lt : Nat) (tk cl : List Nat) (n : Nat), vs = [.ref t, vn n] ∧ PartsAt H t m tp tk cp cl lt ∧ n ≤ 900 ∧
  ∀ (l : Addr) (rs : List Addr) H', Same H H' → H' l = some (.lst (rs.map V.ref)) → rs.length = n → (∀ r ∈ rs, ∃ a b : Nat, H' r = some (.tup [vn a, vn b])) → Q (.ref l) H'
def spMost : Sp := fun vs H Q _ => ∃ (t tp cp : Addr) (m lt : Nat) (tk cl : List Nat), vs = [.ref t] ∧ PartsAt H t m tp tk cp cl lt ∧
  ∀ v H', Same H H' → ((tak cl (per tk cl) < tak tk (per tk cl) ∧ v = .non) ∨ (tak tk (per tk cl) ≤ tak cl (per tk cl) ∧ ∃ z : Int, v = .int z)) → Q v H'
theorem sum_per (tk : List Nat) (h : 0 < tk.length) (q : Nat) : tak tk (q * tk.length) = q * tk.sum := by
  have z := tak_mul tk q 0
  rw [Nat.zero_add] at z
  rw [z]
  rfl
theorem cmp_sums {tk cl : List Nat} (n0 : 0 < tk.length) (c0 : 0 < cl.length) : (cl.sum * tk.length < tk.sum * cl.length) ↔ (tak cl (per tk cl) < tak tk (per tk cl)) := by
  have p0 := per_pos n0 c0
  obtain ⟨a, ha⟩ := per_tk (tk := tk) (cl := cl)
  obtain ⟨b, hb⟩ := per_cl (tk := tk) (cl := cl)
  have e1 : tak tk (per tk cl) = a * tk.sum := by rw [ha, Nat.mul_comm]; exact sum_per tk n0 a
  have e2 : tak cl (per tk cl) = b * cl.sum := by rw [hb, Nat.mul_comm]; exact sum_per cl c0 b
  rw [e1, e2]
  -- times the period
  have f1 : per tk cl * (cl.sum * tk.length) = (b * cl.sum) * (cl.length * tk.length) := by
    rw [hb]
    simp only [Nat.mul_comm, Nat.mul_left_comm, Nat.mul_assoc]
  have f2 : per tk cl * (tk.sum * cl.length) = (a * tk.sum) * (cl.length * tk.length) := by
    rw [ha]
    simp only [Nat.mul_comm, Nat.mul_left_comm, Nat.mul_assoc]
  have pl : 0 < cl.length * tk.length := Nat.mul_pos c0 n0
  constructor
  · intro h
    have := Nat.mul_lt_mul_of_pos_left h p0
    rw [f1, f2] at this
    exact Nat.lt_of_mul_lt_mul_right this
  · intro h
    have := Nat.mul_lt_mul_of_pos_right h pl
    rw [← f1, ← f2] at this
    exact Nat.lt_of_mul_lt_mul_left this
section
variable {P : Program} {w : World} {K : PySem.W.Frag} {mg : Str → Option Value} {base : Heap}
theorem ok__law_opens (T : Txt K mg) : OkF P w K mg base 2 (He.ga K "_law_opens") ["_law_parts", "_law_ticks"] spOpens := by
  have G__law_counts : OkF P w K mg base 1 (He.ga K "_law_counts") ["_law_parts", "_law_ticks"] spCounts := ok__law_counts T
  refine FnP.okF T.f__law_opens sc__law_opens (fun _ _ _ _ _ _ us hl => match us, hl with | [_, _], _ => rfl) (fun vs H Q E h => ?_) (fun cdv A outer s H vs Q E hr h => ?_)
  · obtain ⟨t, _, _, _, _, _, _, _, rfl, _⟩ := h
    rfl
  obtain ⟨t, tp, cp, m, lt, tk, cl, n, rfl, hP, hn, k⟩ := h
  refine ⟨_, (pss_cons (ps_asg (pe_call G__law_counts.one (hr.mono (by decide)) (by rfl) T.g__law_counts G__law_counts.kp G__law_counts.two .nil passL (pa_cons (pv 0) (pa_cons (pv 1) pa_nil))) (pg_tup rfl (pgs_cons (pg_name (i := 2) sc__law_opens.nd rfl (Or.inr rfl)) (pgs_cons (pg_name (i := 3) sc__law_opens.nd rfl (Or.inr rfl)) pgs_nil))))
    (pss_one (ps_ret (pe_lc (own := [("_law_tick", 4)]) (g := gName 4) (tt := tYes) (by rfl) sc__law_opens.nd (pi_range1 (by rfl) T.g_range (pa_cons (pv 1) pa_nil)) (blkOk_by (own := [("_law_tick", 4)]) (N := N__law_opens) (sc := (defScope s__law_opens)) (by decide +kernel)) (fun _ _ _ _ _ => pg_name (i := 4) sc__law_opens.nd rfl (Or.inl rfl)) (fun _ _ _ _ _ => pts_nil) (fun _ _ _ _ _ => (pe_tup (pa_cons (pe_ix (ixLK (K := K)) (pv 3) (pe_callB (show CallR _ (.builtin "max") Rd.rMax2 from call_max2 (by rfl)) (by rfl) T.g_max (by decide +kernel) (pa_cons pe_int (pa_cons (pe_op op_sub (pv 4) (pe_ix (ixTK (K := K)) (pv 0) pe_int (fun _ _ => rfl))) pa_nil))) (fun _ _ => rfl)) (pa_cons (pe_ix (ixLK (K := K)) (pv 2) (pe_op op_add (pv 4) pe_int) (fun _ _ => rfl)) pa_nil)))))))), ?_⟩
  refine ⟨_, rfl, _, rfl, t, tp, cp, m, lt, tk, cl, n, rfl, hP, by omega, fun rr a1 b1 H5 _ na nb nab S5 h5 h5a h5b => ?_⟩
  refine ⟨rr, _, rfl, SqT.of h5, rfl, _, _, rfl, _, _, rfl, rfl, ?_⟩
  have hP5 := hP.same S5
  clear h5
  refine ⟨_, rfl, (n : Int), rfl, by omega, by omega, fun D hD => ?_⟩
  refine lc_range (lo := 0) (n := ((n : Int)).toNat) (fun i H6 => ∃ rs : List Addr, rs.length = i ∧ H6 D = some (.lst (rs.map V.ref)) ∧ Same H5 H6 ∧ ∀ r ∈ rs, ∃ a b : Nat, H6 r = some (.tup [vn a, vn b])) ⟨[], rfl, upd_same, Same.new hD, fun r h => by cases h⟩ ?_ ?_
  · rintro j H6 hj ⟨rs, hl, h6, S6, hr6⟩
    have hj2 : j < n := by omega
    have hP6 := hP5.same S6
    have St := SqT.of (K := K) hP6.at_
    have ei : (if (0 : Int) + (j : Int) - (lt : Int) > 0 then (0 : Int) + (j : Int) - (lt : Int) else 0) = ((j - lt : Nat) : Int) := by split <;> omega
    refine ⟨rfl, _, rfl, _, rfl, _, rfl, t, _, 3, _, rfl, rfl, St, at3 (j := 3) rfl, _, _, rfl, rfl, _, _, rfl, ?_⟩
    dsimp only
    rw [ei]
    refine ⟨b1, _, _, _, rfl, rfl, SqL.of (S6 _ _ h5b), atn (fV_at (by omega)), _, rfl, _, rfl, _, _, rfl, rfl, a1, _, _, _, rfl, rfl, SqL.of (S6 _ _ h5a), (show atI (fV (tak tk) n) ((0 : Int) + (j : Int) + 1) = some (vn (tak tk (j + 1))) by rw [show (0 : Int) + (j : Int) + 1 = ((j + 1 : Nat) : Int) by omega]; exact atn (fV_at (by omega))), ?_⟩
    refine ⟨(by show 2 ≤ sizeLine; decide), fun r hr0 => ?_⟩
    have nrD : r ≠ D := fun e => by rw [e, h6] at hr0; cases hr0
    refine ⟨_, by rw [upd_ne (ne_of_none h6 hr0)]; exact h6, Nat.lt_of_le_of_lt (m := 1000) (by simp; omega) (by decide), rs ++ [r], by simp [hl], ?_, ?_, fun q hq => ?_⟩
    · rw [upd_same, List.map_append]
      rfl
    · intro b o e
      have e6 := S6 _ _ e
      rw [upd_ne (ne_of_none e hD), upd_ne (ne_of_none e6 hr0)]
      exact e6
    · rcases List.mem_append.mp hq with z | z
      · obtain ⟨x, y, hxy⟩ := hr6 q z
        have nq : q ≠ D := fun e => by rw [e, h6] at hxy; cases hxy
        exact ⟨x, y, by rw [upd_ne nq, upd_ne (ne_of_none hxy hr0)]; exact hxy⟩
      · rw [List.mem_singleton.mp z]
        exact ⟨_, _, by rw [upd_ne nrD]; exact upd_same⟩
  · rintro H6 ⟨rs, hl, h6, S6, hr6⟩
    exact k D rs H6 (S5.trans S6) h6 (by omega) hr6
theorem ok__law_most (T : Txt K mg) : OkF P w K mg base 3 (He.ga K "_law_most") ["_law_parts"] spMost := by
  have G__law_length : OkF P w K mg base 1 (He.ga K "_law_length") ["_law_parts"] spLength := ok__law_length T
  have G__law_opens : OkF P w K mg base 2 (He.ga K "_law_opens") ["_law_parts", "_law_ticks"] spOpens := ok__law_opens T
  refine FnP.okF T.f__law_most sc__law_most (fun _ _ _ _ _ _ us hl => match us, hl with | [_], _ => rfl) (fun vs H Q E h => ?_) (fun cdv A outer s H vs Q E hr h => ?_)
  · obtain ⟨t, _, _, _, _, _, _, rfl, _⟩ := h
    rfl
  obtain ⟨t, tp, cp, m, lt, tk, cl, rfl, hP, k⟩ := h
  refine ⟨_, (pss_cons (ps_set (i := 1) sc__law_most.nd rfl (Or.inl rfl) (pe_call G__law_length.one (hr.mono (by decide)) (by rfl) T.g__law_length G__law_length.kp G__law_length.two .nil passL (pa_cons (pv 0) pa_nil)))
    (pss_cons (ps_if (pt_cmpR op_gt (pe_op op_mul (pe_callB (sumTK (K := K)) (by rfl) T.g_sum (by decide +kernel) (pa_cons (pe_ix (ixTK (K := K)) (pv 0) pe_int (fun _ _ => rfl)) pa_nil)) (pe_callB (lenK (K := K)) (by rfl) T.g_len (by decide +kernel) (pa_cons (pe_ix (ixTK (K := K)) (pv 0) pe_int (fun _ _ => rfl)) pa_nil))) (pe_op op_mul (pe_callB (sumTK (K := K)) (by rfl) T.g_sum (by decide +kernel) (pa_cons (pe_ix (ixTK (K := K)) (pv 0) pe_int (fun _ _ => rfl)) pa_nil)) (pe_callB (lenK (K := K)) (by rfl) T.g_len (by decide +kernel) (pa_cons (pe_ix (ixTK (K := K)) (pv 0) pe_int (fun _ _ => rfl)) pa_nil))) (nomark _)) (pss_one (ps_ret pe_non)) pss_nil)
    (pss_one (ps_ret (pe_callB (maxLK (K := K)) (by rfl) T.g_max (by decide +kernel) (pa_cons (pe_lc (own := [("_law_first", 2), ("_law_end", 3)]) (g := gTup K 2 (gCons (gName 2) (gCons (gName 3) gNil))) (tt := tYes) (by rfl) sc__law_most.nd (pi_listK (K := K) (pe_call G__law_opens.one (hr.mono (by decide)) (by rfl) T.g__law_opens G__law_opens.kp G__law_opens.two .nil passL (pa_cons (pv 0) (pa_cons (pe_op op_add (pe_op op_add (pe_op op_mul pe_int (pv 1)) (pe_ix (ixTK (K := K)) (pv 0) pe_int (fun _ _ => rfl))) pe_int) pa_nil)))) (blkOk_by (own := [("_law_first", 2), ("_law_end", 3)]) (N := N__law_most) (sc := (defScope s__law_most)) (by decide +kernel)) (fun _ _ _ _ _ => pg_tup rfl (pgs_cons (pg_name (i := 2) sc__law_most.nd rfl (Or.inl rfl) (by first | exact Or.inr rfl | exact Or.inl rfl)) (pgs_cons (pg_name (i := 3) sc__law_most.nd rfl (Or.inl rfl) (by first | exact Or.inr rfl | exact Or.inl rfl)) pgs_nil))) (fun _ _ _ _ _ => pts_nil) (fun _ _ _ _ _ => (pe_op op_sub (pv 3) (pv 2)))) pa_nil)))))), ?_⟩
  refine ⟨_, rfl, t, tp, cp, m, lt, tk, cl, rfl, hP, ?_⟩
  have St := SqT.of (K := K) hP.at_
  have n0 := hP.ok.tkP.pos
  have c0 := hP.ok.clP.pos
  have p144 := per_144 hP.ok.tkP hP.ok.clP
  have p0 := per_pos n0 c0
  refine ⟨_, rfl, t, _, 1, _, rfl, rfl, St, at3 (j := 1) rfl, tp, _, rfl, (by rw [map_vn]; exact SqT.of hP.tkA), _, rfl, t, _, 2, _, rfl, rfl, St, at3 (j := 2) rfl, cp, _, rfl, .inr (SqT.of hP.clA), _, _, rfl, rfl, .inr ⟨by simp; omega, by have := hP.ok.clP.len; simp; omega⟩, ?_⟩
  refine ⟨_, rfl, t, _, 2, _, rfl, rfl, St, at3 (j := 2) rfl, cp, _, rfl, (by rw [map_vn]; exact SqT.of hP.clA), _, rfl, t, _, 1, _, rfl, rfl, St, at3 (j := 1) rfl, tp, _, rfl, .inr (SqT.of hP.tkA), _, _, rfl, rfl, .inr ⟨by simp; omega, by have := hP.ok.tkP.len; simp; omega⟩, ?_⟩
  refine ⟨_, _, rfl, rfl, _, rfl, ?_⟩
  rw [sum_cast, sum_cast, List.length_map, List.length_map]
  have key := cmp_sums n0 c0
  refine ite2 (fun c => ?_) (fun c => ?_)
  · have c1 : ((cl.sum : Nat) : Int) * (tk.length : Int) < ((tk.sum : Nat) : Int) * (cl.length : Int) := of_decide_eq_true c
    rw [← Int.natCast_mul, ← Int.natCast_mul] at c1
    exact k _ _ (Same.refl _) (.inl ⟨by omega, rfl⟩)
  · have c1 : ¬ ((cl.sum : Nat) : Int) * (tk.length : Int) < ((tk.sum : Nat) : Int) * (cl.length : Int) := fun q => c (decide_eq_true q)
    rw [← Int.natCast_mul, ← Int.natCast_mul] at c1
    have lt99 := hP.ok.l99
    refine ⟨_, rfl, _, rfl, _, _, rfl, rfl, .inl ⟨by decide, by decide⟩, _, rfl, t, _, 3, _, rfl, rfl, St, at3 (j := 3) rfl, _, _, rfl, rfl, _, _, rfl, rfl, t, tp, cp, m, lt, tk, cl, 2 * per tk cl + lt + 1, ?_, hP, by omega, fun l rs H1 S1 hl hlen hr1 => ?_⟩
    · have e : V.int ((2 : Int) * ((per tk cl : Nat) : Int) + (lt : Int) + 1) = vn (2 * per tk cl + lt + 1) := vn_int (by omega)
      rw [← e]
      rfl
    refine ⟨l, rfl, ⟨_, SqL.of hl⟩, fun D hD => ?_⟩
    refine lc_list (K := K) (a := l) (xs := rs.map V.ref) (fun i H2 => ∃ ns : List Int, ns.length = i ∧ H2 D = some (.lst (ns.map V.int)) ∧ Same H1 H2) ⟨[], rfl, upd_same, Same.new hD⟩ (fun i H2 _ ⟨ns, _, _, S2⟩ => SqL.of (S2 _ _ hl)) ?_ ?_
    · rintro i x H2 hx ⟨ns, hns, h2, S2⟩
      rw [List.getElem?_map] at hx
      obtain ⟨r, hr2, rfl⟩ : ∃ r, rs[i]? = some r ∧ x = V.ref r := by
        cases q : rs[i]? with
        | none => rw [q] at hx; cases hx
        | some r => rw [q] at hx; exact ⟨r, rfl, (Option.some.inj hx).symm⟩
      have hi : i < rs.length := (List.getElem?_eq_some_iff.mp hr2).1
      obtain ⟨u, v, huv⟩ := hr1 r (List.mem_of_getElem? hr2)
      refine ⟨r, _, rfl, SqT.of (S2 _ _ huv), rfl, _, _, rfl, _, _, rfl, rfl, ?_⟩
      refine ⟨rfl, _, rfl, _, rfl, _, _, rfl, rfl, _, h2, Nat.lt_of_le_of_lt (m := 1000) (by rw [List.length_map]; omega) (by decide), ns ++ [(v : Int) - (u : Int)], by simp [hns], ?_, fun b o e => ?_⟩
      · rw [upd_same, List.map_append]
        rfl
      · rw [upd_ne (ne_of_none e hD)]
        exact S2 _ _ e
    · rintro H2 ⟨ns, hns, h2, S2⟩
      rw [List.length_map] at hns
      exact ⟨D, ns, rfl, SqL.of h2, by omega, fun z _ _ => k _ _ (S1.trans S2) (.inr ⟨by omega, z, rfl⟩)⟩
end
end Tk

/-! ### Equal data -/
namespace Tk
open PySem PySem.Spec PyProof.Rows L2
def flat : V → Bool
  | .non => true
  | .bl _ => true
  | .int _ => true
  | .str _ => true
  | _ => false
/-- one level of data -/
def Nx (K : PySem.W.Frag) (R : Hp → V → V → Prop) (H : Hp) (v u : V) : Prop :=
  (v = u ∧ flat v = true) ∨ (∃ a b xs ys, v = .ref a ∧ u = .ref b ∧ SqL K H a xs ∧ SqL K H b ys ∧ xs.length = ys.length ∧ xs.length ≤ 100000 ∧ ∀ (i : Nat) x y, xs[i]? = some x → ys[i]? = some y → R H x y) ∨
  (∃ a b xs ys, v = .ref a ∧ u = .ref b ∧ SqT K H a xs ∧ SqT K H b ys ∧ xs.length = ys.length ∧ xs.length ≤ 100000 ∧ ∀ (i : Nat) x y, xs[i]? = some x → ys[i]? = some y → R H x y)
/-- the same data, at most n deep -/
def Sm (K : PySem.W.Frag) : Nat → Hp → V → V → Prop
  | 0 => fun _ _ _ => False
  | n + 1 => Nx K (Sm K n)
def spEqOf (R : Hp → V → V → Prop) : Sp := fun vs H Q _ => ∃ v u, vs = [v, u] ∧ R H v u ∧ ∀ H', Same H H' → Q (.bl true) H'
theorem sqt_same {K : PySem.W.Frag} {H H' : Hp} {a : Addr} {xs : List V} (e : Same H H') (h : SqT K H a xs) : SqT K H' a xs := by
  rcases h with (h | ⟨o, h⟩) | h
  · exact .inl (.inl (e _ _ h))
  · exact .inl (.inr ⟨o, e _ _ h⟩)
  · exact .inr h
theorem Sm.same {K : PySem.W.Frag} {H H' : Hp} (e : Same H H') : ∀ {n : Nat} {v u : V}, Sm K n H v u → Sm K n H' v u
  | 0, _, _, h => h
  | n + 1, _, _, h => by
    rcases h with h | ⟨a, b, xs, ys, h1, h2, h3, h4, h5, h6, h7⟩ | ⟨a, b, xs, ys, h1, h2, h3, h4, h5, h6, h7⟩
    · exact .inl h
    · exact .inr (.inl ⟨a, b, xs, ys, h1, h2, e.seq h3, e.seq h4, h5, h6, fun i x y p q => Sm.same e (h7 i x y p q)⟩)
    · exact .inr (.inr ⟨a, b, xs, ys, h1, h2, sqt_same e h3, sqt_same e h4, h5, h6, fun i x y p q => Sm.same e (h7 i x y p q)⟩)
theorem tyx_l {K : PySem.W.Frag} {H : Hp} {a : Addr} {xs : List V} (h : SqL K H a xs) : TyX K H (.ref a) (.type "list") := by
  rcases h with (h | ⟨o, h⟩) | ⟨o, its, n, h1, h2, _⟩
  · exact .base (.lst h)
  · exact .base (.frz h)
  · exact .kList h1 h2
theorem tyx_t {K : PySem.W.Frag} {H : Hp} {a : Addr} {xs : List V} (h : SqT K H a xs) : TyX K H (.ref a) (.type "tuple") := by
  rcases h with (h | ⟨o, h⟩) | ⟨o, its, n, h1, h2, _⟩
  · exact .base (.tup h)
  · exact .fTuple h
  · exact .kTuple h1 h2
theorem rix {K : PySem.W.Frag} {H : Hp} {a : Addr} {xs : List V} {i : Int} {v : V} {Q : VK} (s : SqL K H a xs ∨ SqT K H a xs) (g : atI xs i = some v) (q : Q v H) : rIx K (.ref a) (.int i) H Q := by
  rcases s with s | s
  · exact .inl ⟨a, xs, i, v, rfl, rfl, s, g, q⟩
  · exact .inr (.inl ⟨a, xs, i, v, rfl, rfl, s, g, q⟩)
section
variable {P : Program} {w : World} {K : PySem.W.Frag} {mg : Str → Option Value} {base : Heap}
theorem eq_never (T : Txt K mg) : OkF P w K mg base 1 (He.ga K "_law_equal") ["_law_actual", "_law_expected"] (spEqOf fun _ _ _ => False) :=
  FnP.okF T.f__law_equal sc__law_equal (fun _ _ _ _ _ _ us hl => match us, hl with | [_, _], _ => rfl) (fun vs H Q E h => by obtain ⟨v, u, rfl, _⟩ := h; rfl) (fun cdv A outer s H vs Q E hr h => by obtain ⟨v, u, _, f, _⟩ := h; exact f.elim)
theorem eq_step {k : Nat} {R : Hp → V → V → Prop} (hR : ∀ H H' v u, Same H H' → R H v u → R H' v u) (T : Txt K mg) (G__law_equal : OkF P w K mg base k (He.ga K "_law_equal") ["_law_actual", "_law_expected"] (spEqOf R)) :
    OkF P w K mg base (k + 1) (He.ga K "_law_equal") ["_law_actual", "_law_expected"] (spEqOf (Nx K R)) := by
  refine FnP.okF T.f__law_equal sc__law_equal (fun _ _ _ _ _ _ us hl => match us, hl with | [_, _], _ => rfl) (fun vs H Q E h => ?_) (fun cdv A outer s H vs Q E hr h => ?_)
  · obtain ⟨v, u, rfl, _⟩ := h
    rfl
  obtain ⟨v, u, rfl, hS, q⟩ := h
  refine ⟨_, (pss_cons (ps_if (pt_cmpR (show OpR _ (compareOp .Is) Rd.rIsN from op_isN) (pv 1) pe_non (nomark _)) (pss_one (ps_ret (pe_cmpR (show OpR _ (compareOp .Is) Rd.rIsN from op_isN) (pv 0) pe_non (nomark _)))) pss_nil)
    (pss_cons (ps_if (pt_val (pe_callB (isiK (K := K)) (by rfl) T.g_isinstance (by decide +kernel) (pa_cons (pv 1) (pa_cons (pe_bltn (v := .ty "bool") (by rfl) T.g_bool boot_ty_bool rfl) pa_nil)))) (pss_one (ps_ret (pe_and (pe_callB (isiK (K := K)) (by rfl) T.g_isinstance (by decide +kernel) (pa_cons (pv 0) (pa_cons (pe_bltn (v := .ty "bool") (by rfl) T.g_bool boot_ty_bool rfl) pa_nil))) (pe_one (pe_cmpR op_eq (pv 0) (pv 1) (nomark _)))))) pss_nil)
    (pss_cons (ps_if (pt_val (pe_callB (isiK (K := K)) (by rfl) T.g_isinstance (by decide +kernel) (pa_cons (pv 1) (pa_cons (pe_bltn (v := .ty "int") (by rfl) T.g_int boot_ty_int rfl) pa_nil)))) (pss_one (ps_ret (pe_and (pe_callB (isiK (K := K)) (by rfl) T.g_isinstance (by decide +kernel) (pa_cons (pv 0) (pa_cons (pe_bltn (v := .ty "int") (by rfl) T.g_int boot_ty_int rfl) pa_nil))) (pe_and (pe_not (pe_callB (isiK (K := K)) (by rfl) T.g_isinstance (by decide +kernel) (pa_cons (pv 0) (pa_cons (pe_bltn (v := .ty "bool") (by rfl) T.g_bool boot_ty_bool rfl) pa_nil)))) (pe_one (pe_cmpR op_eq (pv 0) (pv 1) (nomark _))))))) pss_nil)
    (pss_cons (ps_if (pt_val (pe_callB (isiK (K := K)) (by rfl) T.g_isinstance (by decide +kernel) (pa_cons (pv 1) (pa_cons (pe_bltn (v := .ty "str") (by rfl) T.g_str boot_ty_str rfl) pa_nil)))) (pss_one (ps_ret (pe_and (pe_callB (isiK (K := K)) (by rfl) T.g_isinstance (by decide +kernel) (pa_cons (pv 0) (pa_cons (pe_bltn (v := .ty "str") (by rfl) T.g_str boot_ty_str rfl) pa_nil))) (pe_one (pe_cmpR op_eq (pv 0) (pv 1) (nomark _)))))) pss_nil)
    (pss_cons (ps_if (pt_cmpR op_ne (pe_callB (isiK (K := K)) (by rfl) T.g_isinstance (by decide +kernel) (pa_cons (pv 1) (pa_cons (pe_bltn (v := .ty "tuple") (by rfl) T.g_tuple boot_ty_tuple rfl) pa_nil))) (pe_callB (isiK (K := K)) (by rfl) T.g_isinstance (by decide +kernel) (pa_cons (pv 0) (pa_cons (pe_bltn (v := .ty "tuple") (by rfl) T.g_tuple boot_ty_tuple rfl) pa_nil))) (nomark _)) (pss_one (ps_ret pe_bl)) pss_nil)
    (pss_cons (ps_if (pt_cmpR op_ne (pe_callB (isiK (K := K)) (by rfl) T.g_isinstance (by decide +kernel) (pa_cons (pv 1) (pa_cons (pe_bltn (v := .ty "list") (by rfl) T.g_list boot_ty_list rfl) pa_nil))) (pe_callB (isiK (K := K)) (by rfl) T.g_isinstance (by decide +kernel) (pa_cons (pv 0) (pa_cons (pe_bltn (v := .ty "list") (by rfl) T.g_list boot_ty_list rfl) pa_nil))) (nomark _)) (pss_one (ps_ret pe_bl)) pss_nil)
    (pss_cons (ps_if (pt_cmpR op_ne (pe_callB (lenK (K := K)) (by rfl) T.g_len (by decide +kernel) (pa_cons (pv 0) pa_nil)) (pe_callB (lenK (K := K)) (by rfl) T.g_len (by decide +kernel) (pa_cons (pv 1) pa_nil)) (nomark _)) (pss_one (ps_ret pe_bl)) pss_nil)
    (pss_one (ps_ret (pe_callB (allLK (K := K)) (by rfl) T.g_all (by decide +kernel) (pa_cons (pe_lc (own := [("_law_k", 2)]) (g := gName 2) (tt := tYes) (by rfl) sc__law_equal.nd (pi_range1 (by rfl) T.g_range (pa_cons (pe_callB (lenK (K := K)) (by rfl) T.g_len (by decide +kernel) (pa_cons (pv 1) pa_nil)) pa_nil)) (blkOk_by (own := [("_law_k", 2)]) (N := N__law_equal) (sc := (defScope s__law_equal)) (by decide +kernel)) (fun _ _ _ _ _ => pg_name (i := 2) sc__law_equal.nd rfl (Or.inl rfl)) (fun _ _ _ _ _ => pts_nil) (fun _ _ _ _ _ => (pe_call G__law_equal.one hr (by rfl) T.g__law_equal G__law_equal.kp G__law_equal.two .nil passL (pa_cons (pe_ix (ixSK (K := K)) (pv 0) (pv 2) (fun _ _ => rfl)) (pa_cons (pe_ix (ixSK (K := K)) (pv 1) (pv 2) (fun _ _ => rfl)) pa_nil))))) pa_nil))))))))))), ?_⟩
  have q0 := q H (Same.refl H)
  -- isinstance(x, n)
  rcases hS with ⟨rfl, hf⟩ | hS
  · cases v with
    | non => exact ⟨_, rfl, rfl, _, rfl, _, rfl, rfl, q0⟩
    | bl x =>
      refine ⟨_, rfl, rfl, _, rfl, ?_⟩
      refine ⟨_, rfl, .bl x, .ty "bool", _, _, true, rfl, .ty "bool", .base (.bl x), kit_at (by decide +kernel), true, rfl, ?_⟩
      refine ⟨_, rfl, .bl x, .ty "bool", _, _, true, rfl, .ty "bool", .base (.bl x), kit_at (by decide +kernel), true, rfl, ?_⟩
      refine ⟨_, rfl, _, rfl, rfl, ?_⟩
      show Q (V.bl (decide (V.bl x = V.bl x))) H
      rw [decide_eq_true rfl]
      exact q0
    | int x =>
      refine ⟨_, rfl, rfl, _, rfl, ?_⟩
      refine ⟨_, rfl, .int x, .ty "bool", _, _, false, rfl, .ty "bool", .base (.int x), kit_at (by decide +kernel), false, rfl, ?_⟩
      refine ⟨_, rfl, .int x, .ty "int", _, _, true, rfl, .ty "int", .base (.int x), kit_at (by decide +kernel), true, rfl, ?_⟩
      refine ⟨_, rfl, .int x, .ty "int", _, _, true, rfl, .ty "int", .base (.int x), kit_at (by decide +kernel), true, rfl, ?_⟩
      refine ⟨_, rfl, .int x, .ty "bool", _, _, false, rfl, .ty "bool", .base (.int x), kit_at (by decide +kernel), false, rfl, true, rfl, ?_⟩
      refine ⟨_, rfl, _, rfl, rfl, ?_⟩
      show Q (V.bl (decide (V.int x = V.int x))) H
      rw [decide_eq_true rfl]
      exact q0
    | str x =>
      refine ⟨_, rfl, rfl, _, rfl, ?_⟩
      refine ⟨_, rfl, .str x, .ty "bool", _, _, false, rfl, .ty "bool", .base (.str x), kit_at (by decide +kernel), false, rfl, ?_⟩
      refine ⟨_, rfl, .str x, .ty "int", _, _, false, rfl, .ty "int", .base (.str x), kit_at (by decide +kernel), false, rfl, ?_⟩
      refine ⟨_, rfl, .str x, .ty "str", _, _, true, rfl, .ty "str", .base (.str x), kit_at (by decide +kernel), true, rfl, ?_⟩
      refine ⟨_, rfl, .str x, .ty "str", _, _, true, rfl, .ty "str", .base (.str x), kit_at (by decide +kernel), true, rfl, ?_⟩
      refine ⟨_, rfl, _, rfl, rfl, ?_⟩
      show Q (V.bl (decide (V.str x = V.str x))) H
      rw [decide_eq_true rfl]
      exact q0
    | _ => cases hf
  · -- two lists, two tuples: what both want
    obtain ⟨kind, a, b, xs, ys, tya, tyb, rfl, rfl, st, hl, hz, hi, ka, kb, kc, tt1, tl1⟩ : ∃ (kind : String) (a b : Addr) (xs ys : List V), TyX K H (.ref a) (.type kind) ∧ TyX K H (.ref b) (.type kind) ∧ v = .ref a ∧ u = .ref b ∧
        (∀ H', Same H H' → (SqL K H' a xs ∨ SqT K H' a xs) ∧ (SqL K H' b ys ∨ SqT K H' b ys)) ∧ xs.length = ys.length ∧ xs.length ≤ 100000 ∧ (∀ (i : Nat) x y, xs[i]? = some x → ys[i]? = some y → R H x y) ∧
        kitB kind "bool" = some false ∧ kitB kind "int" = some false ∧ kitB kind "str" = some false ∧ (∃ b, kitB kind "tuple" = some b) ∧ (∃ b, kitB kind "list" = some b) := by
      rcases hS with ⟨a, b, xs, ys, h1, h2, h3, h4, h5, h6, h7⟩ | ⟨a, b, xs, ys, h1, h2, h3, h4, h5, h6, h7⟩
      · exact ⟨"list", a, b, xs, ys, tyx_l h3, tyx_l h4, h1, h2, fun H' e => ⟨.inl (e.seq h3), .inl (e.seq h4)⟩, h5, h6, h7, by decide +kernel, by decide +kernel, by decide +kernel, ⟨false, by decide +kernel⟩, ⟨true, by decide +kernel⟩⟩
      · exact ⟨"tuple", a, b, xs, ys, tyx_t h3, tyx_t h4, h1, h2, fun H' e => ⟨.inr (sqt_same e h3), .inr (sqt_same e h4)⟩, h5, h6, h7, by decide +kernel, by decide +kernel, by decide +kernel, ⟨true, by decide +kernel⟩, ⟨false, by decide +kernel⟩⟩
    obtain ⟨tt, htt⟩ := tt1
    obtain ⟨tl, htl⟩ := tl1
    refine ⟨_, rfl, rfl, _, rfl, ?_⟩
    refine ⟨_, rfl, .ref b, .ty "bool", _, _, false, rfl, .ty "bool", tyb, kit_at ka, false, rfl, ?_⟩
    refine ⟨_, rfl, .ref b, .ty "int", _, _, false, rfl, .ty "int", tyb, kit_at kb, false, rfl, ?_⟩
    refine ⟨_, rfl, .ref b, .ty "str", _, _, false, rfl, .ty "str", tyb, kit_at kc, false, rfl, ?_⟩
    refine ⟨_, rfl, .ref b, .ty "tuple", _, _, tt, rfl, .ty "tuple", tyb, kit_at htt, _, rfl, .ref a, .ty "tuple", _, _, tt, rfl, .ty "tuple", tya, kit_at htt, (by cases tt <;> rfl), _, rfl, ?_⟩
    refine iteNS rfl ?_
    refine ⟨_, rfl, .ref b, .ty "list", _, _, tl, rfl, .ty "list", tyb, kit_at htl, _, rfl, .ref a, .ty "list", _, _, tl, rfl, .ty "list", tya, kit_at htl, (by cases tl <;> rfl), _, rfl, ?_⟩
    refine iteNS rfl ?_
    have s0 := st H (Same.refl H)
    refine ⟨_, rfl, a, xs, rfl, s0.1, _, rfl, b, ys, rfl, s0.2, rfl, _, rfl, ?_⟩
    refine iteNS (by rw [hl]) ?_
    -- all([..])
    refine ⟨_, rfl, b, ys, rfl, s0.2, _, rfl, by omega, by omega, fun D hD => ?_⟩
    refine lc_range (lo := 0) (n := ((ys.length : Int)).toNat) (fun i H2 => Same H H2 ∧ H2 D = some (.lst ((List.replicate i true).map V.bl))) ⟨Same.new hD, upd_same⟩ ?_ ?_
    · rintro i H2 hi2 ⟨S2, hD2⟩
      have iy : i < ys.length := by simpa using hi2
      have ix : i < xs.length := by omega
      have s2 := st H2 S2
      have gx : atI xs ((0 : Int) + (i : Int)) = some xs[i] := by rw [Int.zero_add]; exact atn (List.getElem?_eq_getElem ix)
      have gy : atI ys ((0 : Int) + (i : Int)) = some ys[i] := by rw [Int.zero_add]; exact atn (List.getElem?_eq_getElem iy)
      refine ⟨rfl, ?_⟩
      refine ⟨_, rfl, _, rfl, rix s2.1 gx ?_⟩
      refine ⟨_, rfl, _, rfl, rix s2.2 gy ?_⟩
      refine ⟨_, _, rfl, hR _ _ _ _ S2 (hi i _ _ (List.getElem?_eq_getElem ix) (List.getElem?_eq_getElem iy)), fun H3 S3 => ?_⟩
      refine ⟨(List.replicate i true).map V.bl, S3 _ _ hD2, Nat.lt_of_le_of_lt (m := 100000) (by simp; omega) (by decide), ?_, ?_⟩
      · intro b' o e
        rw [upd_ne (ne_of_none e hD)]
        exact S3 _ _ (S2 _ _ e)
      · rw [upd_same, List.replicate_succ', List.map_append]
        rfl
    · rintro H2 ⟨S2, hD2⟩
      refine ⟨D, _, rfl, SqL.of hD2, ?_⟩
      have e : (List.replicate ((ys.length : Int)).toNat true).all id = true := by simp
      rw [e]
      exact q H2 S2
theorem ok__law_equal (T : Txt K mg) : ∀ n : Nat, OkF P w K mg base (n + 1) (He.ga K "_law_equal") ["_law_actual", "_law_expected"] (spEqOf (Sm K n))
  | 0 => eq_never T
  | n + 1 => eq_step (fun H H' v u e h => Sm.same e h) T (ok__law_equal T n)
end
theorem Sm.flats {K : PySem.W.Frag} {n : Nat} {H : Hp} {a b : Addr} {xs : List V} (h1 : SqL K H a xs) (h2 : SqL K H b xs) (hl : xs.length ≤ 100000) (hf : ∀ x ∈ xs, flat x = true) : Sm K (n + 2) H (.ref a) (.ref b) :=
  .inr (.inl ⟨a, b, xs, xs, rfl, rfl, h1, h2, rfl, hl, fun i x y hx hy => .inl ⟨Option.some.inj (hx.symm.trans hy), hf x (List.mem_of_getElem? hx)⟩⟩)
theorem Sm.int {K : PySem.W.Frag} {n : Nat} {H : Hp} {i j : Int} (h : i = j) : Sm K (n + 1) H (.int i) (.int j) := .inl ⟨by rw [h], rfl⟩
end Tk

namespace Tk
open PySem PySem.Spec PyProof.Rows L2 Mm
/-- what a turn of a law holds: the hall, the counts up to n, away from d -/
structure EnvN (C : Addr) (H : Hp) (d hh a1 b1 : Addr) (m : Nat) (tk cl : List Nat) (lt : Nat) (lp : Addr) (n : Nat) : Prop where
  hall : HallAt C H hh m tk cl lt lp
  one : H a1 = some (.lst (fV (tak tk) n))
  two : H b1 = some (.lst (fV (cal tk cl) n))
  nl : lp ≠ d
  n1 : a1 ≠ d
  n2 : b1 ≠ d
theorem EnvN.but {C : Addr} {H H' : Hp} {d hh a1 b1 lp : Addr} {m lt n : Nat} {tk cl : List Nat} {cs : List V} (e : EnvN C H d hh a1 b1 m tk cl lt lp n) (b : But d H H') (hd : H d = some (.lst cs)) : EnvN C H' d hh a1 b1 m tk cl lt lp n :=
  ⟨e.hall.but b hd e.nl, b _ _ e.n1 e.one, b _ _ e.n2 e.two, e.nl, e.n1, e.n2⟩
theorem EnvN.same {C : Addr} {H H' : Hp} {d hh a1 b1 lp : Addr} {m lt n : Nat} {tk cl : List Nat} (e : EnvN C H d hh a1 b1 m tk cl lt lp n) (b : Same H H') : EnvN C H' d hh a1 b1 m tk cl lt lp n :=
  ⟨e.hall.same b, b _ _ e.one, b _ _ e.two, e.nl, e.n1, e.n2⟩
theorem hfs_meth {m : Nat} {tp cp : Addr} {lt : Nat} {lp : Addr} {x : Str} (h : (["_called", "lateness", "calls", "takes", "modulus"] : List Str).contains x = false) : (hfs m tp cp lt lp).lookup x = none := by
  simp only [List.contains_cons, Bool.or_eq_false_iff, beq_eq_false_iff_ne] at h
  obtain ⟨h1, h2, h3, h4, h5, _⟩ := h
  exact hfs_no h1 h2 h3 h4 h5
theorem Sm.flatsT {K : PySem.W.Frag} {n : Nat} {H : Hp} {a b : Addr} {xs : List V} (h1 : SqT K H a xs) (h2 : SqT K H b xs) (hl : xs.length ≤ 100000) (hf : ∀ x ∈ xs, flat x = true) : Sm K (n + 2) H (.ref a) (.ref b) :=
  .inr (.inr ⟨a, b, xs, xs, rfl, rfl, h1, h2, rfl, hl, fun i x y hx hy => .inl ⟨Option.some.inj (hx.symm.trans hy), hf x (List.mem_of_getElem? hx)⟩⟩)
theorem Sm.flat1 {K : PySem.W.Frag} {n : Nat} {H : Hp} {v : V} (h : flat v = true) : Sm K (n + 1) H v v := .inl ⟨rfl, h⟩
theorem flat_vn {ps : List Nat} : ∀ x ∈ ps.map vn, flat x = true := fun x hx => by
  obtain ⟨n, _, rfl⟩ := List.mem_map.mp hx
  rfl
end Tk

/-! ### Lists of ticks -/
namespace Mm
/-- the ticks below b after which more than n are reached -/
def hits (f : Nat → Nat) (n b : Nat) : List Nat := (List.range b).filter fun t => decide (n < f (t + 1))
theorem hits_succ {f : Nat → Nat} {n b : Nat} : hits f n (b + 1) = hits f n b ++ (if n < f (b + 1) then [b] else []) := by
  unfold hits
  rw [List.range_succ, List.filter_append]
  congr 1
  by_cases h : n < f (b + 1)
  · simp [h]
  · simp [h]
theorem hits_nil {f : Nat → Nat} (mono : ∀ {a b : Nat}, a ≤ b → f a ≤ f b) {n : Nat} : ∀ {b : Nat}, ¬ n < f b → hits f n b = []
  | 0, _ => rfl
  | b + 1, h => by
    rw [hits_succ, if_neg h, hits_nil mono (b := b) fun q => h (Nat.lt_of_lt_of_le q (mono (by omega)))]
    rfl
theorem hits_head {f : Nat → Nat} (mono : ∀ {a b : Nat}, a ≤ b → f a ≤ f b) {n T : Nat} (h : Tk f n T) : ∀ {b : Nat}, T < b → ∃ r, hits f n b = T :: r
  | 0, q => by omega
  | b + 1, q => by
    rw [hits_succ]
    by_cases e : T = b
    · subst e
      rw [hits_nil mono (by have := h.1; omega), if_pos h.2]
      exact ⟨[], rfl⟩
    · obtain ⟨r, hr⟩ := hits_head mono h (b := b) (by omega)
      rw [hr]
      exact ⟨_, rfl⟩
theorem hits_len {f : Nat → Nat} {n b : Nat} : (hits f n b).length ≤ b := by
  have := List.length_filter_le (fun t => decide (n < f (t + 1))) (List.range b)
  rw [List.length_range] at this
  exact this
end Mm
namespace Tk
open PySem PySem.Spec PyProof.Rows L2 Mm
section
variable {K : PySem.W.Frag}
theorem dp_ints {H : Hp} : ∀ l : List Nat, DpAll K H (l.map vn) ((l.map fun n : Nat => (n : Int)).map PyData.int)
  | [] => .nil
  | a :: l => .cons (.int _) (dp_ints l)
theorem eqv_nil (l : List Int) : PyData.eqv (.list (l.map PyData.int)) (.list []) = l.isEmpty := by
  cases l <;> simp [PyData.eqv, PyData.eqvAll]
theorem rEq_nil {H : Hp} {a b : Addr} {l : List Nat} {Q : VK} (ha : H a = some (.lst (l.map vn))) (hb : H b = some (.lst [])) (q : Q (.bl l.isEmpty) H) : rEqD K (.ref a) (.ref b) H Q := by
  refine ⟨_, .list [], .lst (SqL.of ha) (dp_ints l), .lst (SqL.of hb) .nil, PySem.W.ke_shaped_ints _, PySem.W.ke_shaped_ints [], ?_⟩
  rw [eqv_nil]
  simpa using q
theorem rNe_nil {H : Hp} {a b : Addr} {l : List Nat} {Q : VK} (ha : H a = some (.lst (l.map vn))) (hb : H b = some (.lst [])) (q : Q (.bl (!l.isEmpty)) H) : rNeD K (.ref a) (.ref b) H Q := by
  refine ⟨_, .list [], .lst (SqL.of ha) (dp_ints l), .lst (SqL.of hb) .nil, PySem.W.ke_shaped_ints _, PySem.W.ke_shaped_ints [], ?_⟩
  rw [eqv_nil]
  simpa using q
/-- [t for t in range(b) if counts[t + 1] > n] -/
theorem inner_hits {H : Hp} {Q : VK} {ct : Addr} {f : Nat → Nat} {n N : Nat} {z : Int} {b : Nat} {i8 i9 i15 : Nat} {σ : L2.St} {own : List Nat} (hz : z = (b : Int)) (hb : b ≤ N) (hN : N ≤ 1000) (ho : own = [i9]) (h8 : ∀ v : V, (((wipe σ [i9]).set i9 (some v))[i8]?) = some (some (vn n))) (h15 : ∀ v : V, (((wipe σ [i9]).set i9 (some v))[i15]?) = some (some (.ref ct)))
    (h9 : ∀ v : V, (((wipe σ [i9]).set i9 (some v))[i9]?) = some (some v)) (hw : ∀ v : V, wipe ((wipe σ [i9]).set i9 (some v)) [i9] = wipe σ [i9]) (hS : H ct = some (.lst (fV f N)))
    (k : ∀ D H', H D = none → Same H H' → H' D = some (.lst ((hits f n b).map vn)) → Q (.ref D) H') :
    tLc (iRng1 (tCons (tC (.int z)) tNil)) (gName i9) (tTest (tOp (rI0 fun i j => .bl (decide (j < i))) (tOp (rIxL K) (tVar i15) (tOp (rI0 fun i j => .int (i + j)) (tVar i9) (tC (.int 1)))) (tVar i8))) (tVar i9) own σ H Q := by
  subst hz ho
  refine ⟨(b : Int), rfl, by omega, by omega, fun D hD => ?_⟩
  refine lc_range (lo := 0) (n := ((b : Int)).toNat) (fun i H2 => Same H H2 ∧ H2 D = some (.lst ((hits f n i).map vn))) ⟨Same.new hD, upd_same⟩ ?_ ?_
  · rintro i H2 hi ⟨S2, h2⟩
    have hi2 : i < b := by omega
    refine ⟨hw _, ?_⟩
    refine ⟨_, h15 _, _, h9 _, _, _, rfl, rfl, ct, _, _, _, rfl, rfl, SqL.of (S2 _ _ hS), (show atI (fV f N) ((0 : Int) + (i : Int) + 1) = some (vn (f (i + 1))) by rw [show (0 : Int) + (i : Int) + 1 = ((i + 1 : Nat) : Int) by omega]; exact atn (fV_at (by omega))), _, h8 _, _, _, rfl, rfl, _, rfl, ?_⟩
    refine ite2 (fun c => ?_) (fun c => ?_)
    · have c1 : (n : Int) < ((f (i + 1) : Nat) : Int) := of_decide_eq_true c
      refine ⟨_, h9 _, _, h2, Nat.lt_of_le_of_lt (m := 1000) (by rw [List.length_map]; exact Nat.le_trans hits_len (by omega)) (by decide), fun a o e => ?_, ?_⟩
      · rw [upd_ne (ne_of_none e hD)]
        exact S2 _ _ e
      · rw [upd_same, hits_succ, if_pos (by omega), List.map_append, Int.zero_add]
        rfl
    · have c1 : ¬ (n : Int) < ((f (i + 1) : Nat) : Int) := fun q => c (decide_eq_true q)
      refine ⟨S2, ?_⟩
      rw [h2, hits_succ, if_neg (by omega), List.append_nil]
  · rintro H2 ⟨S2, h2⟩
    exact k D H2 hD S2 (by rw [h2]; simp)
/-- [e for x in [a, b]] -/
theorem outer_two {H : Hp} {Q : VK} {a1 b1 : Addr} {i6 i7 i15 : Nat} {σ : L2.St} {te : TE} {own : List Nat} (R : Addr → V → Hp → Prop) (ho : own = [i15]) (h6 : σ[i6]? = some (some (.ref a1))) (h7 : σ[i7]? = some (some (.ref b1)))
    (hw : ∀ v : V, wipe ((wipe σ [i15]).set i15 (some v)) [i15] = wipe σ [i15]) (hR : ∀ c x H1 H2, Same H1 H2 → R c x H1 → R c x H2)
    (hte : ∀ c H1 Q1, c = a1 ∨ c = b1 → Same H H1 → (∀ x H2, Same H1 H2 → (∀ D o, H1 D ≠ none → R c x (upd H2 D o)) → Q1 x H2) → te ((wipe σ [i15]).set i15 (some (.ref c))) H1 Q1)
    (k : ∀ D x y H', Same H H' → H' D = some (.lst [x, y]) → R a1 x H' → R b1 y H' → Q (.ref D) H') :
    tLc (iList K (tLst (tCons (tVar i6) (tCons (tVar i7) tNil)))) (gName i15) tYes te own σ H Q := by
  subst ho
  refine ⟨_, h6, _, h7, (by show 2 ≤ sizeLine; decide), fun L hL => ?_⟩
  have SL : Same H (upd H L (.lst [.ref a1, .ref b1])) := Same.new hL
  have hl : upd H L (.lst [.ref a1, .ref b1]) L = some (.lst [.ref a1, .ref b1]) := upd_same
  generalize upd H L (.lst [.ref a1, .ref b1]) = H0 at *
  refine ⟨L, rfl, ⟨_, SqL.of hl⟩, fun D hD => ?_⟩
  refine lc_list (K := K) (a := L) (xs := [.ref a1, .ref b1]) (fun i H2 => Same H0 H2 ∧ ((i = 0 ∧ H2 D = some (.lst [])) ∨ (i = 1 ∧ ∃ x, H2 D = some (.lst [x]) ∧ ∀ o, R a1 x (upd H2 D o)) ∨ (i = 2 ∧ ∃ x y, H2 D = some (.lst [x, y]) ∧ R a1 x H2 ∧ R b1 y H2)))
    ⟨Same.new hD, .inl ⟨rfl, upd_same⟩⟩ (fun i H2 _ ⟨S2, _⟩ => SqL.of (S2 _ _ hl)) ?_ ?_
  · rintro i x H2 hx ⟨S2, C⟩
    refine ⟨hw _, ?_⟩
    have keep : ∀ {H3 : Hp} {o : HO}, Same H0 H3 → Same H0 (upd H3 D o) := fun S b u e => by
      rw [upd_ne (ne_of_none e hD)]
      exact S _ _ e
    rcases C with ⟨rfl, h2⟩ | ⟨rfl, x1, h2, r1⟩ | ⟨rfl, _⟩
    · cases hx
      refine hte a1 H2 _ (.inl rfl) (SL.trans S2) fun x H3 S3 r3 => ?_
      refine ⟨[], S3 _ _ h2, by decide, keep (S2.trans S3), .inr (.inl ⟨rfl, x, upd_same, fun o => ?_⟩)⟩
      rw [upd_upd]
      exact r3 D o (by rw [h2]; simp)
    · cases hx
      refine hte b1 H2 _ (.inr rfl) (SL.trans S2) fun y H3 S3 r3 => ?_
      refine ⟨[x1], S3 _ _ h2, (by show 1 < sizeLine; decide), keep (S2.trans S3), .inr (.inr ⟨rfl, x1, y, upd_same, hR _ _ (upd H2 D (.lst ([x1] ++ [y]))) _ (fun b u e => ?_) (r1 _), r3 D _ (by rw [h2]; simp)⟩)⟩
      by_cases q : b = D
      · rw [q, upd_same] at e ⊢
        exact e
      · rw [upd_ne q] at e ⊢
        exact S3 _ _ e
    · cases hx
  · rintro H2 ⟨S2, C⟩
    rcases C with ⟨q, _⟩ | ⟨q, _⟩ | ⟨_, x, y, h2, r1, r2⟩
    · cases q
    · cases q
    · exact k D x y H2 (SL.trans S2) h2 r1 r2
/-- xs[j] == [] -/
theorem nil_test {H : Hp} {Q : Bool → Hp → Prop} {σ : L2.St} {i : Nat} {D Dj : Addr} {xs : List V} {j : Int} {l : List Nat} (hs : σ[i]? = some (some (.ref D))) (hD : H D = some (.lst xs)) (hj : atI xs j = some (.ref Dj)) (hl : H Dj = some (.lst (l.map vn)))
    (q : ∀ H', Same H H' → Q l.isEmpty H') : tTest (tOp (rEqD K) (tOp (rIxL K) (tVar i) (tC (.int j))) (tLst tNil)) σ H Q := by
  refine ⟨_, hs, D, _, _, _, rfl, rfl, SqL.of hD, hj, (by show 0 ≤ sizeLine; decide), fun L hL => ?_⟩
  have S : Same H (upd H L (.lst [])) := Same.new hL
  exact rEq_nil (S _ _ hl) upd_same ⟨_, rfl, q _ S⟩
theorem nonnil_test {H : Hp} {Q : Bool → Hp → Prop} {σ : L2.St} {i : Nat} {D Dj : Addr} {xs : List V} {j : Int} {l : List Nat} (hs : σ[i]? = some (some (.ref D))) (hD : H D = some (.lst xs)) (hj : atI xs j = some (.ref Dj)) (hl : H Dj = some (.lst (l.map vn)))
    (q : ∀ H', Same H H' → Q (!l.isEmpty) H') : tTest (tOp (rNeD K) (tOp (rIxL K) (tVar i) (tC (.int j))) (tLst tNil)) σ H Q := by
  refine ⟨_, hs, D, _, _, _, rfl, rfl, SqL.of hD, hj, (by show 0 ≤ sizeLine; decide), fun L hL => ?_⟩
  have S : Same H (upd H L (.lst [])) := Same.new hL
  exact rNe_nil (S _ _ hl) upd_same ⟨_, rfl, q _ S⟩
/-- what stands behind the step of a loop: a name is set by a value -/
theorem step_asg {i : Nat} {x : V} {σ : L2.St} {H : Hp} {te : TE} {g : TG} {rest : TS} {D : Ends} (h : te (σ.set i (some x)) H fun y H1 => g y (σ.set i (some x)) H1 fun σ2 H2 => rest D σ2 H2) : gName i x σ H fun σ2 H2 => tSeq (tAsg te g) rest D σ2 H2 := h
theorem op_first {r : R2} {ta tb : TE} {σ : L2.St} {H : Hp} {Q : VK} (h : ta σ H fun x H1 => tb σ H1 fun y H2 => r x y H2 Q) : tOp r ta tb σ H Q := h
end
end Tk

/-! ### Halls that take or call nothing -/
namespace Tk
open PySem PySem.Spec PyProof.Rows L2 Mm LamX
theorem tak_zero {tk : List Nat} (h : Pat tk) (z : tk.sum = 0) (t : Nat) : tak tk t = 0 := by
  have full : tak tk tk.length = tk.sum := by
    have z := take_sum tk tk.length (Nat.le_refl _)
    rw [List.take_length] at z
    exact z
  rw [tak_is tk h.pos t, z]
  have q := take_sum tk (t % tk.length) (Nat.le_of_lt (Nat.mod_lt _ h.pos))
  have q2 := tak_mono (tk := tk) (Nat.le_of_lt (Nat.mod_lt t h.pos))
  rw [full, z] at q2
  omega
theorem tak_pos {tk : List Nat} (h : Pat tk) {p : Nat} (hp : 0 < p) (ht : tk.length ∣ p) (z : tak tk (2 * p) = tak tk p) : tk.sum = 0 := by
  have a2 := tak_add (tk := tk) p ht p
  rw [show p + p = 2 * p by omega] at a2
  have full : tak tk tk.length = tk.sum := by
    have z := take_sum tk tk.length (Nat.le_refl _)
    rw [List.take_length] at z
    exact z
  have mono := tak_mono (tk := tk) (Nat.le_of_dvd hp ht)
  omega
theorem cal_zero {tk cl : List Nat} (h : Pat cl) (z : cl.sum = 0) : ∀ t, cal tk cl t = 0
  | 0 => rfl
  | t + 1 => by
    have a := tak_zero h z (t + 1)
    have b := tak_zero h z t
    have e : tak cl (t + 1) = tak cl t + atp cl t := rfl
    have c := cal_zero (tk := tk) h z t
    show min (tak tk (t + 1)) (cal tk cl t + atp cl t) = 0
    omega
theorem cal_stop {tk cl : List Nat} (h1 : Pat tk) (h2 : Pat cl) (z : cal tk cl (2 * per tk cl) = cal tk cl (per tk cl)) (t : Nat) : cal tk cl t ≤ cal tk cl (per tk cl) := by
  have p0 := per_pos h1.pos h2.pos
  have e := cal_is (tk := tk) (cl := cl) p0 per_tk per_cl t
  have r := rest_lt p0 t
  rw [z, Nat.sub_self, Nat.mul_zero, Nat.zero_add] at e
  have m := cal_mono (tk := tk) (cl := cl) (Nat.le_of_lt r)
  omega
theorem sum_zero {tk cl : List Nat} {n : Nat} {v : V} {H : Hp} (h1 : Pat tk) (h2 : Pat cl) (h : TimesIs tk cl n H v) : (decide (v = V.non)) = decide (V.int ((tk.map (fun n : Nat => (n : Int))).sum) = V.int 0) := by
  have p0 := per_pos h1.pos h2.pos
  have ht := per_tk (tk := tk) (cl := cl)
  have a2 := tak_add (tk := tk) (per tk cl) ht (per tk cl)
  have full : tak tk tk.length = tk.sum := by
    have z := take_sum tk tk.length (Nat.le_refl _)
    rw [List.take_length] at z
    exact z
  rw [sum_cast]
  cases h with
  | no h =>
    cases h with
    | no b1 b2 =>
      rw [show per tk cl + per tk cl = 2 * per tk cl by omega] at a2
      have le : tk.length ≤ per tk cl := Nat.le_of_dvd p0 ht
      have mono := tak_mono (tk := tk) le
      have z : tk.sum = 0 := by omega
      rw [z]
      rfl
  | at_ T v2 r hr t1 t2 =>
    have : tk.sum ≠ 0 := fun z => by
      have e : ∀ t, tak tk t = 0 := fun t => by
        rw [tak_is tk h1.pos t, z]
        have q := take_sum tk (t % tk.length) (Nat.le_of_lt (Nat.mod_lt _ h1.pos))
        have q2 := tak_mono (tk := tk) (Nat.le_of_lt (Nat.mod_lt t h1.pos))
        rw [full, z] at q2
        omega
      generalize hv : vn T = v at t1
      cases t1 with
      | no _ _ => cases hv
      | at_ T' b1 b2 b3 =>
        rw [e] at b2
        omega
    rw [decide_eq_false (fun q => by cases q), decide_eq_false (fun q => by injection q; omega)]
end Tk

namespace Tk
open PySem PySem.Spec PyProof.Rows L2 Mm LamX
/-- what a turn holds -/
structure Env4 (K : PySem.W.Frag) (C : Addr) (H : Hp) (d : Addr) (cs : List V) (t hh a1 b1 : Addr) (m : Nat) (tp : Addr) (tk : List Nat) (cp : Addr) (cl : List Nat) (lt : Nat) (lp : Addr) : Prop where
  prt : PartsAt H t m tp tk cp cl lt
  hall : HallAt C H hh m tk cl lt lp
  one : H a1 = some (.lst (fV (tak tk) 90))
  two : H b1 = some (.lst (fV (cal tk cl) 90))
  sd : H d = some (.lst cs)
  tb : Tabs (TT K) H
theorem Env4.ext {K : PySem.W.Frag} {C : Addr} {H H' : Hp} {d t hh a1 b1 lp tp cp : Addr} {cs : List V} {m lt : Nat} {tk cl : List Nat} (e : Env4 K C H d cs t hh a1 b1 m tp tk cp cl lt lp) (b : Ext K H H') : Env4 K C H' d cs t hh a1 b1 m tp tk cp cl lt lp :=
  ⟨e.prt.ext b, e.hall.ext b, b.lst e.one, b.lst e.two, b.lst e.sd, b.2⟩
theorem Env4.same {K : PySem.W.Frag} {C : Addr} {H H' : Hp} {d t hh a1 b1 lp tp cp : Addr} {cs : List V} {m lt : Nat} {tk cl : List Nat} (e : Env4 K C H d cs t hh a1 b1 m tp tk cp cl lt lp) (b : Same H H') : Env4 K C H' d cs t hh a1 b1 m tp tk cp cl lt lp :=
  e.ext (.of e.tb b)
/-- what the law expects of a ticket -/
inductive Exp (tk cl : List Nat) (n : Nat) (H : Hp) : V → Prop where
  | no (h : tk.sum = 0) : Exp tk cl n H .non
  | some (T0 T1 : Nat) (r : Addr) (hr : H r = some (.tup [vn T0, vn T1])) (h1 : Tk (tak tk) n T0) (h2 : Tk (cal tk cl) n T1) : Exp tk cl n H (.ref r)
  | half (T0 : Nat) (r : Addr) (hr : H r = some (.tup [vn T0, .non])) (h1 : Tk (tak tk) n T0) (h2 : cl.sum = 0) : Exp tk cl n H (.ref r)
theorem tick_is {F : Nat → Nat} {p n T : Nat} (h : TickIs F p n (vn T)) : Tk F n T := by
  generalize hv : vn T = v at h
  cases h with
  | no _ _ => cases hv
  | at_ T' b1 b2 b3 =>
    have e : ((T : Nat) : Int) = ((T' : Nat) : Int) := by injection hv
    obtain rfl : T = T' := by omega
    exact ⟨b1, b2⟩
theorem tick_no {F : Nat → Nat} {p n : Nat} (h : TickIs F p n .non) : F p ≤ n ∧ F (2 * p) = F p := by
  generalize hv : V.non = v at h
  cases h with
  | no a b => exact ⟨a, b⟩
  | at_ _ _ _ _ => cases hv
theorem times_eq {K : PySem.W.Frag} {j : Nat} {tk cl : List Nat} {n : Nat} {H H' : Hp} {v e : V} (h1 : Pat tk) (h2 : Pat cl) (hv : TimesIs tk cl n H' v) (he : Exp tk cl n H e) (k : ∀ b xs, H b = some (.tup xs) → H' b = some (.tup xs)) : Sm K (j + 2) H' v e := by
  have p0 := per_pos h1.pos h2.pos
  cases hv with
  | no a =>
    have z := tak_pos h1 p0 per_tk (tick_no a).2
    cases he with
    | no _ => exact Sm.flat1 rfl
    | some T0 T1 r hr q1 q2 =>
      have := tak_zero h1 z (T0 + 1)
      have := q1.2
      omega
    | half T0 r hr q1 q2 =>
      have := tak_zero h1 z (T0 + 1)
      have := q1.2
      omega
  | at_ T0 v2 r hr a1 a2 =>
    have b1 := tick_is a1
    cases he with
    | no z =>
      have := tak_zero h1 z (T0 + 1)
      have := b1.2
      omega
    | some T0' T1 r' hr' q1 q2 =>
      obtain rfl : T0 = T0' := Tk.uniq (fun h => tak_mono h) b1 q1
      have e2 : v2 = vn T1 := by
        cases a2 with
        | no c1 c2 =>
          have := cal_stop h1 h2 c2 (T1 + 1)
          have := q2.2
          omega
        | at_ T c1 c2 c3 => rw [Tk.uniq (fun h => cal_mono h) ⟨c1, c2⟩ q2]
      subst e2
      exact Sm.flatsT (SqT.of hr) (SqT.of (k _ _ hr')) (by show 2 ≤ 100000; decide) (by simp [flat])
    | half T0' r' hr' q1 q2 =>
      obtain rfl : T0 = T0' := Tk.uniq (fun h => tak_mono h) b1 q1
      have e2 : v2 = .non := by
        cases a2 with
        | no c1 c2 => rfl
        | at_ T c1 c2 c3 =>
          have := cal_zero (tk := tk) h2 q2 (T + 1)
          omega
      subst e2
      exact Sm.flatsT (SqT.of hr) (SqT.of (k _ _ hr')) (by show 2 ≤ 100000; decide) (by simp [flat])
section
variable {P : Program} {w : World} {K : PySem.W.Frag} {mg : Str → Option Value} {base : Heap}
theorem ok_law (T : Txt K mg) (B : Tbs K mg base) {fd : FuncData} (F : FnP K "law" "law" s_law (He.ga K "law") fd) : FnOk P w K mg base CX0 9 (He.ga K "law") fd ["_law_script"] (spLawT K (TT K)) := by
  have G__law_random : OkF P w K mg base 1 (He.ga K "_law_random") ["_law_script", "_law_salt"] (spRandom K) := ok__law_random T
  have G__law_below : OkF P w K mg base 1 (He.ga K "_law_below") ["_law_d", "_law_limit"] spBelow := ok__law_below T
  have G__law_small : OkF P w K mg base 3 (He.ga K "_law_small") ["_law_d"] spSmall := ok__law_small T
  have G__law_hall : OkF P w K mg base 7 (He.ga K "_law_hall") ["_law_parts"] (spLHall (He.ga K "Hall")) := ok__law_hall T
  have G__law_length : OkF P w K mg base 1 (He.ga K "_law_length") ["_law_parts"] spLength := ok__law_length T
  have G__law_counts : OkF P w K mg base 1 (He.ga K "_law_counts") ["_law_parts", "_law_ticks"] spCounts := ok__law_counts T
  have G__law_equal : OkF P w K mg base 5 (He.ga K "_law_equal") ["_law_actual", "_law_expected"] (spEqOf (Sm K 4)) := ok__law_equal T 4
  have G__law_most : OkF P w K mg base 3 (He.ga K "_law_most") ["_law_parts"] spMost := ok__law_most T
  have G_ticket_times : OkF P w K mg base 8 (He.ga K "ticket_times") ["hall", "number"] (spTimes K (He.ga K "Hall")) := ok_ticket_times T B
  have G_display : OkF P w K mg base 4 (He.ga K "display") ["hall", "tick"] (spDisplay (He.ga K "Hall")) := ok_display T
  have G_longest_wait : OkF P w K mg base 8 (He.ga K "longest_wait") ["hall"] (spLongest K (He.ga K "Hall")) := ok_longest_wait T B
  refine okLaw F sc_law (fun vs H Q E h => ?_) (fun cdv A outer s H vs Q E hr h => ?_)
  · obtain ⟨a, ns, rfl, _⟩ := h
    rfl
  obtain ⟨a, ns, rfl, hS, hlen, hT, k⟩ := h
  refine ⟨_, (pss_cons (ps_set (i := 1) sc_law.nd rfl (Or.inl rfl) (pe_call G__law_random.one (hr.mono (by decide)) (by rfl) T.g__law_random G__law_random.kp G__law_random.two .nil passL (pa_cons (pv 0) (pa_cons pe_int pa_nil))))
    (pss_cons (ps_for PassesOwn.never rfl (pi_range1 (by rfl) T.g_range (pa_cons pe_int pa_nil)) (pg_name (i := 2) sc_law.nd rfl (Or.inl rfl))
      (pss_cons (ps_set (i := 3) sc_law.nd rfl (Or.inl rfl) (pe_call G__law_small.one (hr.mono (by decide)) (by rfl) T.g__law_small G__law_small.kp G__law_small.two .nil passL (pa_cons (pv 1) pa_nil)))
    (Evl.pss_cut (ps_if (pt_cmpR op_eq (pe_call G__law_below.one (hr.mono (by decide)) (by rfl) T.g__law_below G__law_below.kp G__law_below.two .nil passL (pa_cons (pv 1) (pa_cons pe_int pa_nil))) pe_int (nomark _)) (pss_one (ps_set (i := 3) sc_law.nd rfl (Or.inl rfl) (pe_tup (pa_cons (pe_ix (ixTK (K := K)) (pv 3) pe_int (fun _ _ => rfl)) (pa_cons (pe_tup (pa_cons pe_int (pa_cons pe_int (pa_cons pe_int (pa_cons pe_int pa_nil))))) (pa_cons (pe_tup (pa_cons pe_int (pa_cons pe_int (pa_cons pe_int (pa_cons pe_int pa_nil))))) (pa_cons (pe_ix (ixTK (K := K)) (pv 3) pe_int (fun _ _ => rfl)) pa_nil))))))) pss_nil)
    (pss_cons (ps_par (i := 4) (j := 5) (by rfl) sc_law.nd rfl rfl (by decide) rfl rfl (pa_cons (pe_call G__law_hall.one (hr.mono (by decide)) (by rfl) T.g__law_hall G__law_hall.kp G__law_hall.two .nil passL (pa_cons (pv 3) pa_nil)) (pa_cons (pe_call G__law_length.one (hr.mono (by decide)) (by rfl) T.g__law_length G__law_length.kp G__law_length.two .nil passL (pa_cons (pv 3) pa_nil)) pa_nil)) (by rfl))
    (pss_cons (ps_asg (pe_call G__law_counts.one (hr.mono (by decide)) (by rfl) T.g__law_counts G__law_counts.kp G__law_counts.two .nil passL (pa_cons (pv 3) (pa_cons pe_int pa_nil))) (pg_tup rfl (pgs_cons (pg_name (i := 6) sc_law.nd rfl (Or.inl rfl)) (pgs_cons (pg_name (i := 7) sc_law.nd rfl (Or.inl rfl)) pgs_nil))))
    (pss_cons (ps_for PassesOwn.never rfl (pi_range1 (by rfl) T.g_range (pa_cons pe_int pa_nil)) (pg_name (i := 8) sc_law.nd rfl (Or.inr rfl))
      (pss_cons (ps_setLc (i := 10) (own := [("_law_counts_here", 15)]) (g := gName 15) (tt := tYes) (by rfl) sc_law.nd rfl rfl (sw_true rfl rfl rfl (by decide +kernel)) (pi_listK (K := K) (pe_lst (pa_cons (pv 6) (pa_cons (pv 7) pa_nil)))) (blkOk_by (own := [("_law_counts_here", 15)]) (N := N_law) (sc := (defScope s_law)) (by decide +kernel)) (fun _ _ _ _ _ => pg_name (i := 15) sc_law.nd rfl (Or.inr rfl)) (fun _ _ _ _ _ => pts_nil) (fun _ _ _ _ _ => (pe_lc (own := [("_law_tick", 9)]) (g := gName 9) (tt := _) (by rfl) sc_law.nd (pi_range1 (by rfl) T.g_range (pa_cons pe_int pa_nil)) (blkRe (blkOk_by (own := [("_law_tick", 9)]) (N := N_law) (sc := ({ kind := .function, names := [(".0", .local), ("_law_counts_here", .cell), ("range", .globalImplicit), ("_law_number", .free)], isGenerator := false, isCoroutine := false } : Scope)) (by decide +kernel))) (fun _ _ _ _ _ => pg_name (i := 9) sc_law.nd rfl (Or.inl rfl)) (fun _ _ _ _ _ => (pts_one (pt_cmpR op_gt (pe_ix (ixLK (K := K)) (pv 15) (pe_op op_add (pv 9) pe_int) (fun _ _ => rfl)) (pv 8) (nomark _)))) (fun _ _ _ _ _ => (pv 9)))))
    (Evl.pss_cut (ps_if (PW.pt (pw_and (pt_cmpR (eqDK (K := K) hr.units) (pe_ix (ixLK (K := K)) (pv 10) pe_int (fun _ _ => rfl)) (pe_lst pa_nil) (nomark _)) (pw_and1 (pt_cmpR op_eq (pe_callB (sumTK (K := K)) (by rfl) T.g_sum (by decide +kernel) (pa_cons (pe_ix (ixTK (K := K)) (pv 3) pe_int (fun _ _ => rfl)) pa_nil)) pe_int (nomark _))))) (pss_one (ps_set (i := 11) sc_law.nd rfl (Or.inl rfl) pe_non)) (pss_one (ps_if (PW.pt (pw_or (pt_cmpR (eqDK (K := K) hr.units) (pe_ix (ixLK (K := K)) (pv 10) pe_int (fun _ _ => rfl)) (pe_lst pa_nil) (nomark _)) (pw_or1 (PW.pt (pw_and (pt_cmpR (eqDK (K := K) hr.units) (pe_ix (ixLK (K := K)) (pv 10) pe_int (fun _ _ => rfl)) (pe_lst pa_nil) (nomark _)) (pw_and1 (pt_cmpR op_gt (pe_callB (sumTK (K := K)) (by rfl) T.g_sum (by decide +kernel) (pa_cons (pe_ix (ixTK (K := K)) (pv 3) pe_int (fun _ _ => rfl)) pa_nil)) pe_int (nomark _)))))))) (pss_one ps_continue) (pss_one (ps_set (i := 11) sc_law.nd rfl (Or.inl rfl) (pe_tup (pa_cons (pe_ix (ixLK (K := K)) (pe_ix (ixLK (K := K)) (pv 10) pe_int (fun _ _ => rfl)) pe_int (fun _ _ => rfl)) (pa_cons (pe_ifExp (pt_cmpR (neDK (K := K) hr.units) (pe_ix (ixLK (K := K)) (pv 10) pe_int (fun _ _ => rfl)) (pe_lst pa_nil) (nomark _)) (pe_ix (ixLK (K := K)) (pe_ix (ixLK (K := K)) (pv 10) pe_int (fun _ _ => rfl)) pe_int (fun _ _ => rfl)) pe_non) pa_nil))))))))
    (pss_one (ps_if (pt_not (pt_val (pe_call G__law_equal.one (hr.mono (by decide)) (by rfl) T.g__law_equal G__law_equal.kp G__law_equal.two .nil passL (pa_cons (pe_call G_ticket_times.one (hr.mono (by decide)) (by rfl) T.g_ticket_times G_ticket_times.kp G_ticket_times.two .nil passL (pa_cons (pv 4) (pa_cons (pv 8) pa_nil))) (pa_cons (pv 11) pa_nil))))) (pss_one (ps_ret pe_bl)) pss_nil)))))
    (pss_cons (ps_for PassesOwn.never rfl (pi_range1 (by rfl) T.g_range (pa_cons pe_int pa_nil)) (pg_name (i := 9) sc_law.nd rfl (Or.inl rfl))
      (pss_cons (ps_set (i := 12) sc_law.nd rfl (Or.inl rfl) (pe_ifExp (pt_cmpR op_gt (pe_ix (ixLK (K := K)) (pv 7) (pe_op op_add (pv 9) pe_int) (fun _ _ => rfl)) pe_int (nomark _)) (pe_op op_mod (pe_op op_sub (pe_ix (ixLK (K := K)) (pv 7) (pe_op op_add (pv 9) pe_int) (fun _ _ => rfl)) pe_int) (pe_ix (ixTK (K := K)) (pv 3) pe_int (fun _ _ => rfl))) pe_non))
    (pss_one (ps_if (pt_not (pt_val (pe_call G__law_equal.one (hr.mono (by decide)) (by rfl) T.g__law_equal G__law_equal.kp G__law_equal.two .nil passL (pa_cons (pe_call G_display.one (hr.mono (by decide)) (by rfl) T.g_display G_display.kp G_display.two .nil passL (pa_cons (pv 4) (pa_cons (pv 9) pa_nil))) (pa_cons (pv 12) pa_nil))))) (pss_one (ps_ret pe_bl)) pss_nil))))
    (pss_cons (ps_set (i := 13) sc_law.nd rfl (Or.inl rfl) pe_non)
    (Evl.pss_cut (ps_if (pt_cmpR (show OpR _ (compareOp .IsNot) Rd.rNotN from op_notN) (pe_call G__law_most.one (hr.mono (by decide)) (by rfl) T.g__law_most G__law_most.kp G__law_most.two .nil passL (pa_cons (pv 3) pa_nil)) pe_non (nomark _)) (pss_cons (ps_set (i := 13) sc_law.nd rfl (Or.inl rfl) pe_int)
    (pss_one (ps_for PassesOwn.never rfl (pi_range1 (by rfl) T.g_range (pa_cons (pe_ix (ixLK (K := K)) (pv 6) (pe_op op_mul pe_int (pv 5)) (fun _ _ => rfl)) pa_nil)) (pg_name (i := 8) sc_law.nd rfl (Or.inr rfl))
      (pss_cons (ps_setLc (i := 14) (own := [("_law_counts_here", 15)]) (g := gName 15) (tt := tYes) (by rfl) sc_law.nd rfl rfl (sw_true rfl rfl rfl (by decide +kernel)) (pi_listK (K := K) (pe_lst (pa_cons (pv 6) (pa_cons (pv 7) pa_nil)))) (blkOk_by (own := [("_law_counts_here", 15)]) (N := N_law) (sc := (defScope s_law)) (by decide +kernel)) (fun _ _ _ _ _ => pg_name (i := 15) sc_law.nd rfl (Or.inr rfl)) (fun _ _ _ _ _ => pts_nil) (fun _ _ _ _ _ => (pe_ix (ixLK (K := K)) (pe_lc (own := [("_law_tick", 9)]) (g := gName 9) (tt := _) (by rfl) sc_law.nd (pi_range1 (by rfl) T.g_range (pa_cons pe_int pa_nil)) (blkRe (blkOk_by (own := [("_law_tick", 9)]) (N := N_law) (sc := ({ kind := .function, names := [(".0", .local), ("_law_counts_here", .cell), ("range", .globalImplicit), ("_law_number", .free)], isGenerator := false, isCoroutine := false } : Scope)) (by decide +kernel))) (fun _ _ _ _ _ => pg_name (i := 9) sc_law.nd rfl (Or.inl rfl)) (fun _ _ _ _ _ => (pts_one (pt_cmpR op_gt (pe_ix (ixLK (K := K)) (pv 15) (pe_op op_add (pv 9) pe_int) (fun _ _ => rfl)) (pv 8) (nomark _)))) (fun _ _ _ _ _ => (pv 9))) pe_int (fun _ _ => rfl))))
    (pss_one (ps_set (i := 13) sc_law.nd rfl (Or.inl rfl) (pe_callB (show CallR _ (.builtin "max") Rd.rMax2 from call_max2 (by rfl)) (by rfl) T.g_max (by decide +kernel) (pa_cons (pv 13) (pa_cons (pe_op op_sub (pe_ix (ixLK (K := K)) (pv 14) pe_int (fun _ _ => rfl)) (pe_ix (ixLK (K := K)) (pv 14) pe_int (fun _ _ => rfl))) pa_nil))))))))) pss_nil)
    (pss_one (ps_if (pt_not (pt_val (pe_call G__law_equal.one (hr.mono (by decide)) (by rfl) T.g__law_equal G__law_equal.kp G__law_equal.two .nil passL (pa_cons (pe_call G_longest_wait.one (hr.mono (by decide)) (by rfl) T.g_longest_wait G_longest_wait.kp G_longest_wait.two .nil passL (pa_cons (pv 4) pa_nil)) (pa_cons (pv 13) pa_nil))))) (pss_one (ps_ret pe_bl)) pss_nil)))))))))))
    (pss_one (ps_ret pe_bl)))), ?_⟩
  refine ⟨_, rfl, a, ns, 4, rfl, hS, hlen, by decide, by decide, fun d cs H1 hd0 S1 hd hcs => ?_⟩
  refine ⟨3, rfl, by decide, by decide, for_range (lo := 0) (n := 3) (fun i σ H2 => ∃ v2 v3 v4 v5 v6 v7 v8 v9 v10 v11 v12 v13 v14 v15, σ = [some (.ref a), some (.ref d), v2, v3, v4, v5, v6, v7, v8, v9, v10, v11, v12, v13, v14, v15] ∧ Tabs (TT K) H2 ∧ ∃ cs, H2 d = some (.lst cs) ∧ DSt cs)
    ⟨_, _, _, _, _, _, _, _, _, _, _, _, _, _, rfl, hT.ext S1, cs, hd, hcs⟩ ?_ (fun σ H2 _ => k H2)⟩
  clear hd hcs hd0 S1 hT
  rintro i σ H2 hi ⟨v2, v3, v4, v5, v6, v7, v8, v9, v10, v11, v12, v13, v14, v15, rfl, hT, cs, hd, hcs⟩
  -- parts
  refine ⟨_, rfl, d, cs, rfl, hd, hcs, fun t tp cp m lt tk cl H3 _ S3 hP _ l3 l4 l5 => ?_⟩
  obtain ⟨c3, hd3, hc3⟩ := S3.at_
  have hT3 := tabs_but hT hd S3.but
  clear hcs hd hT S3
  refine ⟨fun σ H4 => ∃ t tp cp m lt tk cl, σ = [some (.ref a), some (.ref d), some (.int (0 + (i : Int))), some (.ref t), v4, v5, v6, v7, v8, v9, v10, v11, v12, v13, v14, v15] ∧ PartsAt H4 t m tp tk cp cl lt ∧ tk.length ≤ 4 ∧ cl.length ≤ 4 ∧ Tabs (TT K) H4 ∧ ∃ cs, H4 d = some (.lst cs) ∧ DSt cs, ?_, ?_⟩
  · refine ⟨_, rfl, d, 4, c3, rfl, by decide, by decide, hd3, hc3, fun r c4 x1 y1 hc4 => ?_⟩
    have hB : But d H3 (upd H3 d (.lst c4)) := But.at_d
    have hT4 := tabs_but hT3 hd3 hB
    have hP4 : PartsAt (upd H3 d (.lst c4)) t m tp tk cp cl lt := ⟨hB _ _ (ne_of hP.at_ hd3 (fun q => by cases q)) hP.at_, hB _ _ (ne_of hP.tkA hd3 (fun q => by cases q)) hP.tkA, hB _ _ (ne_of hP.clA hd3 (fun q => by cases q)) hP.clA, hP.ok⟩
    have hd4 : upd H3 d (.lst c4) d = some (.lst c4) := upd_same
    generalize upd H3 d (.lst c4) = H4 at *
    refine ⟨rfl, _, rfl, ite2 (fun c => ?_) (fun c => ?_)⟩
    · refine ⟨_, rfl, t, _, 0, _, rfl, rfl, SqT.of hP4.at_, at3 (j := 0) rfl, (by show 4 ≤ sizeLine; decide), fun tp2 h1 => ⟨(by show 4 ≤ sizeLine; decide), fun cp2 h2 => ?_⟩⟩
      have SA : Same H4 (upd H4 tp2 (.tup [.int 1, .int 0, .int 0, .int 1])) := Same.new h1
      have hA1 : upd H4 tp2 (.tup [.int 1, .int 0, .int 0, .int 1]) tp2 = some (.tup [.int 1, .int 0, .int 0, .int 1]) := upd_same
      generalize upd H4 tp2 (.tup [.int 1, .int 0, .int 0, .int 1]) = H5 at *
      have SB : Same H5 (upd H5 cp2 (.tup [.int 1, .int 0, .int 1, .int 0])) := Same.new h2
      have hB1 : upd H5 cp2 (.tup [.int 1, .int 0, .int 1, .int 0]) cp2 = some (.tup [.int 1, .int 0, .int 1, .int 0]) := upd_same
      generalize upd H5 cp2 (.tup [.int 1, .int 0, .int 1, .int 0]) = H6 at *
      have hP6 := (hP4.same SA).same SB
      refine ⟨_, rfl, t, _, 3, _, rfl, rfl, SqT.of hP6.at_, at3 (j := 3) rfl, (by show 4 ≤ sizeLine; decide), fun t2 h3 => ?_⟩
      have SC : Same H6 (upd H6 t2 (.tup [vn m, .ref tp2, .ref cp2, vn lt])) := Same.new h3
      refine ⟨t2, tp2, cp2, m, lt, [1, 0, 0, 1], [1, 0, 1, 0], rfl, ⟨upd_same, SC _ _ (SB _ _ hA1), SC _ _ hB1, ⟨hP.ok.m2, hP.ok.m4, ⟨by decide, by decide, by decide⟩, ⟨by decide, by decide, by decide⟩, hP.ok.l99⟩⟩, by decide, by decide, ((hT4.ext SA).ext SB).ext SC, c4, SC _ _ (SB _ _ (SA _ _ hd4)), hc4⟩
    · exact ⟨t, tp, cp, m, lt, tk, cl, rfl, hP4, by omega, by omega, hT4, c4, hd4, hc4⟩
  clear hP l3 l4 l5 hd3 hc3 hT3
  rintro σ H4 ⟨t, tp, cp, m, lt, tk, cl, rfl, hP, l3, l4, hT4, c4, hd4, hc4⟩
  -- hall, length, counts
  refine ⟨_, rfl, t, tp, cp, m, lt, tk, cl, rfl, hP, fun hh lp H5 _ nlp S5 hA => ?_⟩
  have hP5 := hP.same S5
  refine ⟨_, rfl, t, tp, cp, m, lt, tk, cl, rfl, hP5, _, _, rfl, ?_⟩
  have h1 := hP.ok.tkP
  have h2 := hP.ok.clP
  have p0 := per_pos h1.pos h2.pos
  have ple := per_le (tk := tk) (cl := cl)
  have p16 : per tk cl ≤ 16 := Nat.le_trans ple (Nat.mul_le_mul l3 l4)
  have PC := cal_Per h1 h2
  have gr := grow_zero (tk := tk) (cl := cl)
  have gi := grow_iff (tk := tk) (cl := cl) p0 per_tk per_cl
  generalize hp : per tk cl = p at *
  refine ⟨_, rfl, t, tp, cp, m, lt, tk, cl, 90, rfl, hP5, by omega, fun rr a1 b1 H6 _ na nb nab S6 h6 h6a h6b => ?_⟩
  have E6 : Env4 K (He.ga K "Hall") H6 d c4 t hh a1 b1 m tp tk cp cl lt lp := ⟨hP5.same S6, hA.same S6, h6a, h6b, S6 _ _ (S5 _ _ hd4), (hT4.ext S5).ext S6⟩
  refine ⟨rr, _, rfl, SqT.of h6, rfl, _, _, rfl, _, _, rfl, rfl, ?_⟩
  clear hP5 hd4 nlp na nb h6 h6a h6b S5 S6 hT4 hA hP ple l3 l4
  have fa : (fun c => if c = a1 then tak tk else cal tk cl) a1 = tak tk := if_pos rfl
  have fb : (fun c => if c = a1 then tak tk else cal tk cl) b1 = cal tk cl := if_neg nab.symm
  generalize hf : (fun c => if c = a1 then tak tk else cal tk cl) = fof at fa fb
  clear hf
  have lists : ∀ {c : Addr} {H7 : Hp}, (c = a1 ∨ c = b1) → Env4 K (He.ga K "Hall") H7 d c4 t hh a1 b1 m tp tk cp cl lt lp → H7 c = some (.lst (fV (fof c) 90)) := fun {c H7} hc E => by
    rcases hc with rfl | rfl
    · rw [fa]
      exact E.one
    · rw [fb]
      exact E.two
  have monoT : ∀ {a b : Nat}, a ≤ b → tak tk a ≤ tak tk b := fun h => tak_mono h
  have monoC : ∀ {a b : Nat}, a ≤ b → cal tk cl a ≤ cal tk cl b := fun h => cal_mono h
  -- twelve tickets
  refine ⟨12, rfl, by decide, by decide, for_range (lo := 0) (n := 12) (fun _ σ H7 => ∃ w8 w9 w10 w11 w15, σ = [some (.ref a), some (.ref d), some (.int (0 + (i : Int))), some (.ref t), some (.ref hh), some (vn p), some (.ref a1), some (.ref b1), w8, w9, w10, w11, v12, v13, v14, w15] ∧ Env4 K (He.ga K "Hall") H7 d c4 t hh a1 b1 m tp tk cp cl lt lp)
    ⟨_, _, _, _, _, rfl, E6⟩ ?_ ?_⟩
  · clear E6
    rintro n σ H7 hn ⟨w8, w9, w10, w11, w15, rfl, E7⟩
    rw [Int.zero_add (n : Int)]
    refine step_asg (outer_two (i6 := 6) (i7 := 7) (i15 := 15) (fun c x H => ∃ D, x = .ref D ∧ H D = some (.lst ((hits (fof c) n 90).map vn))) rfl rfl rfl (fun _ => rfl) (fun c x H1 H2 S ⟨D, e, h⟩ => ⟨D, e, S _ _ h⟩) (fun c H8 Q1 hc S8 q => ?_) fun D x y H8 S8 hD rx ry => ?_)
    · refine inner_hits (i8 := 8) (i9 := 9) (i15 := 15) (f := fof c) (n := n) (N := 90) (b := 90) rfl (Nat.le_refl _) (by omega) rfl (fun _ => rfl) (fun _ => rfl) (fun _ => rfl) (fun _ => rfl) (lists hc (E7.same S8)) fun D H9 hD S9 h9 => q _ _ S9 fun D2 o ne => ⟨D, rfl, ?_⟩
      rw [upd_ne (fun e => ne (by rw [← e]; exact hD))]
      exact h9
    · obtain ⟨D0, rfl, g0⟩ := rx
      obtain ⟨D1, rfl, g1⟩ := ry
      rw [fa] at g0
      rw [fb] at g1
      have E8 := E7.same S8
      have St : ∀ {H' : Hp}, Same H8 H' → SqT K H' t [vn m, .ref tp, .ref cp, vn lt] := fun S => SqT.of (E8.same S).prt.at_
      have ntk : ∀ {H' : Hp}, Same H8 H' → SqT K H' tp ((tk.map (fun n : Nat => (n : Int))).map V.int) := fun S => by rw [map_vn]; exact SqT.of (E8.same S).prt.tkA
      have ncl : ∀ {H' : Hp}, Same H8 H' → SqT K H' cp ((cl.map (fun n : Nat => (n : Int))).map V.int) := fun S => by rw [map_vn]; exact SqT.of (E8.same S).prt.clA
      refine ⟨fun σ H9 => ∃ v, σ = [some (.ref a), some (.ref d), some (.int (0 + (i : Int))), some (.ref t), some (.ref hh), some (vn p), some (.ref a1), some (.ref b1), some (vn n), w9, some (.ref D), some v, v12, v13, v14, w15] ∧ Same H8 H9 ∧ Exp tk cl n H9 v, ?_, ?_⟩
      · by_cases q0 : n < tak tk 90
        · -- taken
          obtain ⟨T0, lt0, k0⟩ := Tk.ex (F := tak tk) rfl q0
          obtain ⟨r0, e0⟩ := hits_head monoT k0 lt0
          rw [e0] at g0
          refine nil_test rfl hD (atn (i := 0) rfl) g0 fun H9 S9 => ?_
          refine nil_test rfl (S9 _ _ hD) (atn (i := 0) rfl) (S9 _ _ g0) fun H10 S10 => ?_
          have S8a := S9.trans S10
          by_cases q1 : n < cal tk cl 90
          · obtain ⟨T1, lt1, k1⟩ := Tk.ex (F := cal tk cl) rfl q1
            obtain ⟨r1, e1⟩ := hits_head monoC k1 lt1
            rw [e1] at g1
            refine nil_test rfl (S8a _ _ hD) (atn (i := 1) rfl) (S8a _ _ g1) fun H11 S11 => ?_
            have S8b := S8a.trans S11
            refine ⟨_, rfl, D, _, 0, _, rfl, rfl, SqL.of (S8b _ _ hD), atn (i := 0) rfl, D0, _, 0, _, rfl, rfl, SqL.of (S8b _ _ g0), atn (i := 0) rfl, ?_⟩
            refine nonnil_test rfl (S8b _ _ hD) (atn (i := 1) rfl) (S8b _ _ g1) fun H12 S12 => ?_
            have S8c := S8b.trans S12
            refine ⟨_, rfl, D, _, 1, _, rfl, rfl, SqL.of (S8c _ _ hD), atn (i := 1) rfl, D1, _, 0, _, rfl, rfl, SqL.of (S8c _ _ g1), atn (i := 0) rfl, (by show 2 ≤ sizeLine; decide), fun r hr => ?_⟩
            exact ⟨_, rfl, S8c.trans (Same.new hr), .some T0 T1 r upd_same k0 k1⟩
          · have e1 := hits_nil monoC q1
            rw [e1] at g1
            refine nil_test rfl (S8a _ _ hD) (atn (i := 1) rfl) (S8a _ _ g1) fun H11 S11 => ?_
            have S8b := S8a.trans S11
            refine ⟨_, rfl, t, _, 2, _, rfl, rfl, St S8b, at3 (j := 2) rfl, cp, _, rfl, ncl S8b, _, _, rfl, rfl, _, rfl, ite2 (fun _ => ?_) (fun c => ?_)⟩
            · exact ⟨_, _, _, _, _, rfl, E8.same S8b⟩
            · have c1 : ¬ (0 : Int) < (cl.map (fun n : Nat => (n : Int))).sum := fun h => c (decide_eq_true h)
              rw [sum_cast] at c1
              refine ⟨_, rfl, D, _, 0, _, rfl, rfl, SqL.of (S8b _ _ hD), atn (i := 0) rfl, D0, _, 0, _, rfl, rfl, SqL.of (S8b _ _ g0), atn (i := 0) rfl, ?_⟩
              refine nonnil_test rfl (S8b _ _ hD) (atn (i := 1) rfl) (S8b _ _ g1) fun H12 S12 => ?_
              have S8c := S8b.trans S12
              refine ⟨(by show 2 ≤ sizeLine; decide), fun r hr => ?_⟩
              exact ⟨_, rfl, S8c.trans (Same.new hr), .half T0 r upd_same k0 (by omega)⟩
        · have e0 := hits_nil monoT q0
          rw [e0] at g0
          refine nil_test rfl hD (atn (i := 0) rfl) g0 fun H9 S9 => ?_
          refine ⟨_, rfl, t, _, 1, _, rfl, rfl, St S9, at3 (j := 1) rfl, tp, _, rfl, ntk S9, rfl, _, rfl, ite2 (fun c => ?_) (fun c => ?_)⟩
          · have c1 : (tk.map (fun n : Nat => (n : Int))).sum = 0 := by
              have z : V.int _ = V.int 0 := of_decide_eq_true c
              injection z
            rw [sum_cast] at c1
            exact ⟨_, rfl, S9, .no (by omega)⟩
          · refine nil_test rfl (S9 _ _ hD) (atn (i := 0) rfl) (S9 _ _ g0) fun H10 S10 => ?_
            exact ⟨_, _, _, _, _, rfl, E8.same (S9.trans S10)⟩
      · rintro σ H9 ⟨v, rfl, S9, hv⟩
        have E9 := E8.same S9
        refine ⟨_, rfl, _, rfl, hh, lp, n, m, lt, tk, cl, rfl, by omega, E9.hall, E9.tb, fun u H10 E10 tu => ?_⟩
        refine ⟨_, rfl, _, _, rfl, times_eq h1 h2 tu hv (fun b xs e => E10.tup e), fun H11 S11 => ⟨_, rfl, ?_⟩⟩
        exact ⟨_, _, _, _, _, rfl, (E9.ext E10).same S11⟩
  rintro σ H7 ⟨w8, w9, w10, w11, w15, rfl, E7⟩
  clear E6
  have m2 := E7.prt.ok.m2
  -- twenty displays
  refine ⟨20, rfl, by decide, by decide, for_range (lo := 0) (n := 20) (fun _ σ H8 => ∃ w9 w12, σ = [some (.ref a), some (.ref d), some (.int (0 + (i : Int))), some (.ref t), some (.ref hh), some (vn p), some (.ref a1), some (.ref b1), w8, w9, w10, w11, w12, v13, v14, w15] ∧ Env4 K (He.ga K "Hall") H8 d c4 t hh a1 b1 m tp tk cp cl lt lp)
    ⟨_, _, rfl, E7⟩ ?_ ?_⟩
  · clear E7
    rintro j σ H8 hj ⟨w9, w12, rfl, E8⟩
    rw [Int.zero_add (j : Int)]
    have hat : atI (fV (cal tk cl) 90) ((j : Int) + 1) = some (vn (cal tk cl (j + 1))) := by
      rw [show (j : Int) + 1 = ((j + 1 : Nat) : Int) by omega]
      exact atn (fV_at (by omega))
    have S2 := SqL.of (K := K) E8.two
    refine ⟨_, rfl, _, rfl, _, _, rfl, rfl, b1, _, _, _, rfl, rfl, S2, hat, _, _, rfl, rfl, _, rfl, ?_⟩
    refine ite2 (fun c => ?x) (fun c => ?y)
    case' x =>
      have c1 : (0 : Int) < ((cal tk cl (j + 1) : Nat) : Int) := of_decide_eq_true c
      refine ⟨_, rfl, _, rfl, _, _, rfl, rfl, b1, _, _, _, rfl, rfl, S2, hat, _, _, rfl, rfl, _, rfl, t, _, 0, _, rfl, rfl, SqT.of E8.prt.at_, at3 (j := 0) rfl, _, _, rfl, rfl, (by show (0 : Int) < (m : Int); omega), ?_⟩
      refine ⟨_, rfl, _, rfl, hh, lp, j, m, lt, tk, cl, rfl, by omega, E8.hall, _, rfl, _, _, rfl, (by
        unfold dispV
        rw [if_neg (by omega)]
        refine Sm.int ?_
        rw [show ((cal tk cl (j + 1) : Nat) : Int) - 1 = ((cal tk cl (j + 1) - 1 : Nat) : Int) by omega, Int.natCast_emod]), fun H10 S10 => ⟨_, rfl, ?_⟩⟩
    case' y =>
      have c1 : ¬ (0 : Int) < ((cal tk cl (j + 1) : Nat) : Int) := fun h => c (decide_eq_true h)
      refine ⟨_, rfl, _, rfl, hh, lp, j, m, lt, tk, cl, rfl, by omega, E8.hall, _, rfl, _, _, rfl, (by
        unfold dispV
        rw [if_pos (by omega)]
        exact Sm.flat1 rfl), fun H10 S10 => ⟨_, rfl, ?_⟩⟩
    all_goals exact ⟨_, _, rfl, E8.same S10⟩
  clear E7
  rintro σ H8 ⟨w9, w12, rfl, E8⟩
  -- the longest wait
  have tp3 : tak tk (3 * p) ≤ 9 * (3 * p) := tak_le h1.nine _
  refine ⟨fun σ H9 => ∃ w8 w14 v, σ = [some (.ref a), some (.ref d), some (.int (0 + (i : Int))), some (.ref t), some (.ref hh), some (vn p), some (.ref a1), some (.ref b1), w8, w9, w10, w11, w12, some v, w14, w15] ∧ Env4 K (He.ga K "Hall") H9 d c4 t hh a1 b1 m tp tk cp cl lt lp ∧
    ((tak cl p < tak tk p ∧ v = .non) ∨ (tak tk p ≤ tak cl p ∧ ∃ M : Nat, v = vn M ∧ (∀ n T0 T, n < tak tk (3 * p) → Tk (tak tk) n T0 → Tk (cal tk cl) n T → T - T0 ≤ M) ∧ (M = 0 ∨ ∃ n T0 T, n < tak tk (3 * p) ∧ Tk (tak tk) n T0 ∧ Tk (cal tk cl) n T ∧ M = T - T0))), ?_, ?_⟩
  · refine ⟨_, rfl, t, tp, cp, m, lt, tk, cl, rfl, E8.prt, fun v H9 S9 hv => ⟨rfl, _, rfl, ?_⟩⟩
    rw [hp] at hv
    have E9 := E8.same S9
    rcases hv with ⟨g1, rfl⟩ | ⟨g1, z, rfl⟩
    · exact ite2 (fun c => by cases c) fun _ => ⟨_, _, _, rfl, E9, .inl ⟨g1, rfl⟩⟩
    refine ite2 (fun _ => ?_) (fun c => absurd rfl c)
    have gz := gi.mpr g1
    have hat : atI (fV (tak tk) 90) ((3 : Int) * (p : Int)) = some (vn (tak tk (3 * p))) := by
      rw [show (3 : Int) * (p : Int) = ((3 * p : Nat) : Int) by omega]
      exact atn (fV_at (by omega))
    refine ⟨_, rfl, _, rfl, _, _, rfl, rfl, .inl ⟨by decide, by decide⟩, a1, _, _, _, rfl, rfl, SqL.of E9.one, hat, _, rfl, by omega, by omega, for_range (lo := 0) (n := ((tak tk (3 * p) : Nat) : Int).toNat) (fun n σ H10 => ∃ (M : Nat) (w8 w14 : Option V), σ = [some (.ref a), some (.ref d), some (.int (0 + (i : Int))), some (.ref t), some (.ref hh), some (vn p), some (.ref a1), some (.ref b1), w8, w9, w10, w11, w12, some (vn M), w14, w15] ∧ Env4 K (He.ga K "Hall") H10 d c4 t hh a1 b1 m tp tk cp cl lt lp ∧
      (∀ k T0 T, k < n → Tk (tak tk) k T0 → Tk (cal tk cl) k T → T - T0 ≤ M) ∧ (M = 0 ∨ ∃ k T0 T, k < n ∧ Tk (tak tk) k T0 ∧ Tk (cal tk cl) k T ∧ M = T - T0))
      ⟨0, _, _, rfl, E9, fun k _ _ hk => by omega, .inl rfl⟩ ?_ ?_⟩
    · clear E9 E8
      rintro n σ H10 hn ⟨M, w8, w14, rfl, E10, up, at_⟩
      rw [Int.zero_add (n : Int)]
      have hn3 : n < tak tk (3 * p) := by omega
      obtain ⟨U0, lt0, k0⟩ := Tk.ex (F := tak tk) rfl hn3
      obtain ⟨U1, lt1, k1⟩ := called_all p0 (by rw [← hp]; exact per_tk) (by rw [← hp]; exact per_cl) gz hn3
      have exT : ∀ c, c = a1 ∨ c = b1 → ∃ T r, hits (fof c) n 90 = T :: r ∧ Tk (fof c) n T := fun c hc => by
        rcases hc with rfl | rfl
        · rw [fa]
          obtain ⟨r, e⟩ := hits_head monoT k0 (show U0 < 90 by omega)
          exact ⟨U0, r, e, k0⟩
        · rw [fb]
          obtain ⟨r, e⟩ := hits_head monoC k1 (show U1 < 90 by omega)
          exact ⟨U1, r, e, k1⟩
      refine step_asg (outer_two (i6 := 6) (i7 := 7) (i15 := 15) (fun c x _ => ∃ T, x = vn T ∧ Tk (fof c) n T) rfl rfl rfl (fun _ => rfl) (fun _ _ _ _ _ h => h) (fun c H11 Q1 hc S11 q => ?_) fun D x y H11 S11 hD rx ry => ?_)
      · obtain ⟨U, r, eU, kU⟩ := exT c hc
        refine op_first (inner_hits (i8 := 8) (i9 := 9) (i15 := 15) (f := fof c) (n := n) (N := 90) (b := 90) rfl (Nat.le_refl _) (by omega) rfl (fun _ => rfl) (fun _ => rfl) (fun _ => rfl) (fun _ => rfl) (lists hc (E10.same S11)) fun D H12 hD S12 h12 => ?_)
        rw [eU] at h12
        exact ⟨D, _, _, _, rfl, rfl, SqL.of h12, atn (i := 0) rfl, q _ _ S12 fun _ _ _ => ⟨U, rfl, kU⟩⟩
      · obtain ⟨T0, rfl, kT0⟩ := rx
        obtain ⟨T1, rfl, kT1⟩ := ry
        rw [fa] at kT0
        rw [fb] at kT1
        have ge := call_ge kT0 kT1
        refine ⟨_, rfl, _, rfl, D, _, 1, _, rfl, rfl, SqL.of hD, atn (i := 1) rfl, _, rfl, D, _, 0, _, rfl, rfl, SqL.of hD, atn (i := 0) rfl, _, _, rfl, rfl, _, _, rfl, ?_⟩
        refine ⟨max M (T1 - T0), some (vn n), some (.ref D), ?_, E10.same S11, fun k S0 S hk a1 a2 => ?_, ?_⟩
        · have e : V.int (if (T1 : Int) - (T0 : Int) > (M : Int) then (T1 : Int) - (T0 : Int) else (M : Int)) = vn (max M (T1 - T0)) := vn_int (by split <;> omega)
          rw [← e]
          rfl
        · rcases Nat.lt_or_ge k n with q | q
          · have := up k S0 S q a1 a2
            omega
          · obtain rfl : k = n := by omega
            rw [Tk.uniq monoT a1 kT0, Tk.uniq monoC a2 kT1]
            omega
        · by_cases q : M ≤ T1 - T0
          · exact .inr ⟨n, T0, T1, by omega, kT0, kT1, by omega⟩
          · rcases at_ with z | ⟨k, S0, S, g1, g2, g3, g4⟩
            · omega
            · exact .inr ⟨k, S0, S, by omega, g2, g3, by omega⟩
    · rintro σ H10 ⟨M, w8, w14, rfl, E10, up, at_⟩
      rw [Int.toNat_natCast] at up at_
      exact ⟨_, _, _, rfl, E10, .inr ⟨g1, M, rfl, up, at_⟩⟩
  · clear E8
    rintro σ H9 ⟨w8, w14, v, rfl, E9, hv⟩
    refine ⟨_, rfl, hh, lp, m, lt, tk, cl, rfl, E9.hall, E9.tb, fun u H10 E10 hu => ?_⟩
    have same : u = v ∧ flat v = true := by
      rcases hv with ⟨g1, rfl⟩ | ⟨g1, M, rfl, up, at_⟩
      · rcases hu with ⟨_, rfl⟩ | ⟨z, _⟩
        · exact ⟨rfl, rfl⟩
        · have := gi.mp (gr.mp z)
          omega
      · have gz := gi.mpr g1
        rcases hu with ⟨z, _⟩ | ⟨_, W, rfl, L⟩
        · have := gr.mpr gz
          omega
        · rw [hp] at L
          have le1 : W ≤ M := by
            rcases L.at_ with z | ⟨s, T, s1, s2, s3, s4, s5⟩
            · omega
            · have mono3 := monoT (show s + 1 ≤ 3 * p by omega)
              have := up (tak tk (s + 1) - 1) s T (by omega) ⟨by omega, by omega⟩ s4
              omega
          have le2 : M ≤ W := by
            rcases at_ with z | ⟨n, T0, T, n1, n2, n3, n4⟩
            · omega
            · have := L.all (by rw [← hp]; exact per_tk) (by rw [← hp]; exact per_cl) gz n1 n2 n3
              omega
          obtain rfl : W = M := by omega
          exact ⟨rfl, rfl⟩
    obtain ⟨rfl, hfl⟩ := same
    refine ⟨_, rfl, _, _, rfl, Sm.flat1 hfl, fun H11 S11 => ⟨_, rfl, ?_⟩⟩
    have E11 := (E9.ext E10).same S11
    exact ⟨_, _, _, _, _, _, _, _, _, _, _, _, _, _, rfl, E11.tb, c4, E11.sd, hc4⟩
end
end Tk

/-! ### The end -/
namespace Tk
open PySem PySem.Spec PyProof.Rows L2
theorem facts {w : World} {K : PySem.W.Frag} {h : Heap} {mg : Str → Option Value} {f : Addr} (X : K.In h) (G : h.Ns mainGlobals mg) (hfa : mg ("law" : Str) = some (.ref f)) (c : Says fcts dps K) (t : Tells mks h K) :
    LamX.LawAtS PySem.Challenge.rw_ticketwrap_k04_times_of_tickets w K CX0 9 63 "_law_script" mg f h := by
  obtain ⟨fd, F⟩ := law_fn c
  have T := txt X G c
  have e := hfa.symm.trans (He.glo_ok X G (c.fact lawF rfl))
  cases e
  have b := FunD.bindsA (ps := ["_law_script"]) F fun _ _ _ _ _ _ us hl => match us, hl with | [_], _ => rfl
  have mem : ∀ p ∈ mkl.map (fun p => ctAt K (p.1 K)), ∃ q ∈ mks, p = ctAt K (q K) := fun p hp => by
    obtain ⟨q, hq, rfl⟩ := List.mem_map.mp hp
    exact ⟨q.1, List.mem_map.mpr ⟨q, hq, rfl⟩, rfl⟩
  refine ⟨fd, mkl.map (fun p => ctAt K (p.1 K)), spLawT K (TT K), fun p hp => ?_, fun p hp => ?_, fun p hp => ?_, fun s v => b s [v] rfl, fun H a ns hl _ ht hS => ⟨a, ns, rfl, hS, hl, tabs_nil fun p hp => ?_, fun _ => rfl⟩, fun base _ _ hB => ok_law T ⟨fun p hp => hB _ (List.mem_map.mpr ⟨p, hp, rfl⟩), ?_⟩ F⟩
  · obtain ⟨q, hq, rfl⟩ := mem p hp
    exact t.empty q hq
  · obtain ⟨q, hq, rfl⟩ := mem p hp
    exact t.out q hq
  · obtain ⟨q, hq, rfl⟩ := mem p hp
    exact PySem.W.codeHd_of_K X (t.hd q hq)
  · obtain ⟨q, hq, rfl⟩ := List.mem_map.mp hp
    exact ht _ (List.mem_map.mpr ⟨q, hq, rfl⟩)
  · have z := t.apart
    unfold mks at z
    rw [List.map_map] at z
    exact z
end Tk
open PySem PySem.W PySem.Calls PyProof.Rows
set_option maxRecDepth 100000 in
set_option maxHeartbeats 0 in
theorem PySem.Challenge.cw_ticketwrap_k04_times_of_tickets_holds : PySem.Challenge.rw_ticketwrap_k04_times_of_tickets.Holds := by
  w_on; o_law
  refine HeadRun.head_imp (r := OpenLaw.row PySem.Challenge.rw_ticketwrap_k04_times_of_tickets) (q := view (OpenLaw.row PySem.Challenge.rw_ticketwrap_k04_times_of_tickets).prog [0, 41]) (H := Tk.hk) (ob := Tk.ob) (M := 20000) (loose := Tk.names) (d := HeadRun.topDef (OpenLaw.row PySem.Challenge.rw_ticketwrap_k04_times_of_tickets).prog 41) (kwd := []) Tk.ob_eq Tk.run
    (by kernel_rfl) (by kernel_rfl) (by kernel_rfl) (by rfl) (by first | assumption | decide +kernel) (by decide +kernel) ⟨rfl, rfl, rfl, rfl, rfl, by decide +kernel⟩ ?hw ?hc
  case hw => w_witness2
  case hc =>
    refine LamX.walk_ofTsE (l := PySem.Challenge.rw_ticketwrap_k04_times_of_tickets) (n := 63) (k := 9) (x := "_law_script") (CX := fun _ => L2.CX0) rfl (by decide) (by kernel_rfl) ⟨rfl, by decide, by decide⟩ ?F (fun _ _ _ _ _ z => z)
    intro w mg fa h Y G hmg0
    obtain ⟨K, KX, c, t⟩ := Y
    have hmg : mg ("law" : PySem.Str) = some (.ref fa) := by
      have e : (HeadRun.topDef (OpenLaw.row PySem.Challenge.rw_ticketwrap_k04_times_of_tickets).prog 41).name = ("law" : PySem.Str) := by kernel_rfl
      rw [← e]
      exact hmg0
    exact ⟨K, KX, Tk.facts KX G hmg c t⟩
