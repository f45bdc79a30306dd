import PyProof.Rows.All
import Wide.All
import OpenK.AllK
import Wide.FinOn
import KE.KStateDown
import KE.KMathGC
import KE.KTupSum
import KE.GoesEnum
import KE.KUnpackStar
import HandS.StrMore
import HandS.Zip
import HandS.ClsMeth
import HandS.Codes
import HandS.ForMost
import HandS.Exc
import HandS.TryOnly
import HandS.ExcOwn
import HandS.ExcValue
import HandS.WordsExc
import HandS.Defaults
import HandS.Property
import HandS.Conv
import HandS.Flow
import HandS.Wide
import HandS.IsInst
import HandS.TupAny
import HandS.Deep
import HandS.Evl
import HandS.Lambda
import HandS.EndTab
import HandS.HeadWalk
import HandS.GenList
import HandS.RevRange
import HandS.Gcd
import HandS.CallLocal
import HandS.TryMany
import HandS.SetKeys
import HandS.Star
import HandS.TupMul
import HandS.Style
import HandS.SortKw
import KE.DatumOrd
import PyProof.GenComp
import KE.HD3
import HandS.HeadEnd
import HandS.HeadHook1
import HandS.HeadHook2
import HandS.HeadHook4
import HandS.NestedK
import PySem.Challenge.RW_ticketwrap_k16_first_differences
set_option Elab.async false
set_option linter.all false
set_option maxRecDepth 100000
set_option maxHeartbeats 4000000
/-! ### A. Rules and facts of our own -/
namespace Tk
open PySem PySem.Spec PyProof.Rows L2
section
variable {X : Cx}

/-! math.lcm, sum of a tuple -/
def rLcm : List V → Hp → VK → Prop := fun vs H Q => ∃ a b : Nat, vs = [.int a, .int b] ∧ a < 1000000 ∧ b < 1000000 ∧ Q (.int ((Nat.lcm a b : Nat) : Int)) H
theorem cr_lcm : CallR X (.builtin "math.lcm") rLcm := by
  intro pins s σ H vs us Q I r h
  obtain ⟨a, b, rfl, ha, hb, q⟩ := h
  obtain ⟨t, u, rfl⟩ := Vals.int2 r
  refine PySem.W.mc_lcm (by simp; omega) (by simp; omega) fun _ => ⟨.int _, H, I.tok _, ⟨_, rfl⟩, ?_⟩
  simpa using q
def rSumT (K : PySem.W.Frag) : List V → Hp → VK → Prop := fun vs H Q => ∃ (a : Addr) (ns : List Int), vs = [V.ref a] ∧ SqT K H a (ns.map V.int) ∧ Q (.int ns.sum) H
theorem istup_old {h : Heap} {t : Addr} {its : List Value} (p : IsTup h t its.toArray) : h.IsTuple t its.toArray := by
  obtain ⟨o, ho, hc, n, hd⟩ := p
  exact ⟨o, ho, hc, n, hd⟩
theorem cr_sumT (hc : X.calm = true) : CallR X (.builtin "sum") (rSumT X.K) := by
  intro pins s σ H vs us Q I r h
  obtain ⟨a, ns, rfl, hs, q⟩ := h
  obtain ⟨its, rv, hl, _⟩ := I.tuple hs
  rw [Vals.ref1 r]
  have hi := rv.ints
  obtain ⟨xs, hx⟩ := hi.allInts.items
  have hn : numsOf its.toArray.toList = ns := by rw [show its.toArray.toList = its from rfl, hi.numsOf]
  have ht := istup_old hl
  rw [hx] at ht hn
  rw [nums_intItems] at hn
  refine PySem.W.ktm_sumG (I.ok.hd hc) ht fun h' tk t' hk => ?_
  rw [preSum_eq, List.take_of_length_le (by simp), hn]
  exact ⟨.int _, H, I.kept hk, ⟨_, rfl⟩, q⟩
/-- f(e, ..), f a name for a built-in function of a module -/
theorem pfun {x : Str} {p pos : Pos} {e : Expr} {es : List Expr} {t : TA} {id : String} {r : List V → Hp → VK → Prop} (hc : CallR X (.builtin id) r) (hg : Gl X x) (hm : X.mg x = some (.builtin id)) (ha : PA X (e :: es) t) (hdb : (x == ("__debug__" : Str)) = false := by decide)
    (he : starEach (e :: es) X.env = (false, eval e X.env) :: starEach es X.env := by rfl) (hpl : (backTo pos (starEach es X.env)).any (·.1) = false := by rfl) : PE X (.Call (.Name x p) (e :: es) [] pos) (tCB r t) :=
  ⟨fun pins s σ H _ I h => wpAny_Call_Name_kw (ld_glob I hg hm (PyProof.Rows.callWith_builtin1 (thn (ha.run pos pins s σ H _ I h) fun us s1 ⟨vs, H1, I1, r1, q1⟩ => hc pins s1 σ H1 vs us _ I1 r1 q1) he hpl) hdb)⟩

/-! a comprehension within a comprehension -/
theorem look_relabel {env : Env} : ∀ {names : List (Str × NameKind)} {x : Str}, names.lookup x = some .cell ∨ names.lookup x = some .free →
    (names.map fun (n, k) => if (k == NameKind.free && env.scope.kind == .function && env.kindOf n == some .cell) then (n, NameKind.cell) else (n, k)).lookup x = some .cell ∨
    (names.map fun (n, k) => if (k == NameKind.free && env.scope.kind == .function && env.kindOf n == some .cell) then (n, NameKind.cell) else (n, k)).lookup x = some .free
  | [], x, h => by rcases h with h | h <;> simp at h
  | (n, k) :: r, x, h => by
    have ih := @look_relabel env r x
    show List.lookup x ((if (k == NameKind.free && env.scope.kind == .function && env.kindOf n == some .cell) = true then (n, NameKind.cell) else (n, k)) :: _) = _ ∨ List.lookup x ((if (k == NameKind.free && env.scope.kind == .function && env.kindOf n == some .cell) = true then (n, NameKind.cell) else (n, k)) :: _) = _
    cases hx : x == n with
    | true =>
      simp only [List.lookup_cons, hx] at h
      by_cases hc : (k == NameKind.free && env.scope.kind == .function && env.kindOf n == some .cell) = true
      · rw [if_pos hc]
        simp [List.lookup_cons, hx]
      · rw [if_neg hc]
        simp only [List.lookup_cons, hx]
        exact h
    | false =>
      simp only [List.lookup_cons, hx] at h
      by_cases hc : (k == NameKind.free && env.scope.kind == .function && env.kindOf n == some .cell) = true
      · rw [if_pos hc]; simp only [List.lookup_cons, hx]; exact ih h
      · rw [if_neg hc]; simp only [List.lookup_cons, hx]; exact ih h
theorem blkRe {N : List Str} {sc scope : Scope} {own : List (Str × Nat)} {env : Env} (h : BlkOk N sc scope own) : BlkOk N (relabel sc env) scope own :=
  ⟨h.kind, h.uniq, h.ix, fun y hy e => look_relabel (h.free y hy e), h.own⟩
/-! a def that stands at a and keeps a promise; its calls -/
structure OkF (P : Program) (w : World) (K : PySem.W.Frag) (mg : Str → Option Value) (base : Heap) (k : Nat) (a : Addr) (ps : List Str) (sp : Sp) : Prop where
  ex : ∃ fd, FnOk P w K mg base (L2.CX P w) k a fd ps sp ∧ Binds K fd ps []
  kp : PySem.W.keepIn K (.ref a) = true
theorem OkF.one {P : Program} {w : World} {K : PySem.W.Frag} {mg : Str → Option Value} {base : Heap} {k : Nat} {a : Addr} {ps : List Str} {sp : Sp} (O : OkF P w K mg base k a ps sp) : FnOk P w K mg base (L2.CX P w) k a (Classical.choose O.ex) ps sp := (Classical.choose_spec O.ex).1
theorem OkF.two {P : Program} {w : World} {K : PySem.W.Frag} {mg : Str → Option Value} {base : Heap} {k : Nat} {a : Addr} {ps : List Str} {sp : Sp} (O : OkF P w K mg base k a ps sp) : Binds K (Classical.choose O.ex) ps [] := (Classical.choose_spec O.ex).2
variable {x : Str} {pos : Pos}
/-- a constant of the module -/
theorem pe_gint {v : Int} (hg : Gl X x) (h : ∃ t, X.mg x = some (.int v t)) (hd : (x == ("__debug__" : Str)) = false := by decide) : PE X (.Name x pos) (tC (.int v)) := by
  obtain ⟨t, h⟩ := h
  exact pe_glob hg h ⟨t, rfl⟩ hd
end

/-! facts of the top, read by a Hook -/
abbrev FnP (K : PySem.W.Frag) (x qual : Str) (st : Stmt) (f : Addr) (fd : FuncData) : Prop := FunD K x qual (defArgs st) (defBody st) (defScope st) [] [] f fd
/-- where a def stands, and the def -/
structure Dp where
  at_ : PySem.W.Frag → Addr
  d : He.DefD
def look (K : PySem.W.Frag) (a : Addr) : He.FnW := match K.lookup a with
  | some o => (match o.data with
    | .func fd => some (fd.name, fd.qualname, fd.params, fd.body, fd.scope, fd.globals, fd.closure, fd.builtins)
    | _ => none)
  | none => none
def okA (K : PySem.W.Frag) (a : Addr) (d : He.DefD) : Bool := PySem.W.keepIn K (.ref a) && (match K.lookup a with
  | some o => (match o.data with
    | .func fd => PySem.W.codeIn K fd.code d.qual && (He.dflB K fd.defaults (d.dvs K) && He.kwdB K fd.kwdefaults (d.kws K))
    | _ => false)
  | none => false)
theorem fun_at {K : PySem.W.Frag} {a : Addr} {d : He.DefD} (e : look K a = d.val) (c : okA K a d = true) : ∃ fd, FunD K d.name d.qual d.params d.body d.scope (d.dvs K) (d.kws K) a fd := by
  obtain ⟨kp, c2⟩ := He.ba c
  unfold look at e
  cases q : K.lookup a with
  | none => rw [q] at c2; cases c2
  | some o =>
    obtain ⟨oc, od, dt, osl⟩ := o
    rw [q] at c2 e
    cases dt with
    | func fd =>
      obtain ⟨n1, n2, n3, n4, n5, n6, n7, n8, n9, n10, n11, n12, n13, n14, n15⟩ := fd
      have z : (some (n1, n2, n3, n4, n5, n6, n7, n15) : He.FnW) = d.val := e
      unfold He.DefD.val at z
      simp only [Option.some.injEq, Prod.mk.injEq] at z
      obtain ⟨rfl, rfl, rfl, rfl, rfl, rfl, rfl, rfl⟩ := z
      obtain ⟨c3, c4⟩ := He.ba (show (PySem.W.codeIn K n13 d.qual && (He.dflB K n8 (d.dvs K) && He.kwdB K n9 (d.kws K))) = true from c2)
      obtain ⟨c5, c6⟩ := He.ba c4
      exact ⟨_, ⟨oc, od, n8, n9, n10, n11, n12, n13, n14, osl, rfl, q, c3, He.dflB_ok c5, He.kwdB_ok c6⟩, kp⟩
    | _ => cases c2
abbrev Al : Type := Bool × List He.FnW
def obsT (fa : List (PySem.W.Frag → Bool)) (fn : List Dp) (K : PySem.W.Frag) : Al := ((fa.all fun f => f K) && fn.all fun d => okA K (d.at_ K) d.d, fn.map fun d => look K (d.at_ K))
def valT (fn : List Dp) : Al := (true, fn.map fun d => d.d.val)
def Says (fa : List (PySem.W.Frag → Bool)) (fn : List Dp) (K : PySem.W.Frag) : Prop := obsT fa fn K = valT fn
/-! defs that make functions: their code objects, the tables of these -/
def codeAt (K : PySem.W.Frag) (a : Addr) : Addr := match K.lookup a with
  | some ⟨_, _, .func fd, _⟩ => (match fd.code with
    | .ref c => c
    | _ => 0)
  | _ => 0
def ctAt (K : PySem.W.Frag) (a : Addr) : Addr × Addr := (codeAt K a, He.tabOf K (codeAt K a))
theorem codeAt_eq {K : PySem.W.Frag} {a : Addr} {oc : Value} {od : Option Addr} {osl : Array (Option Value)} {fd : FuncData} {cd : Value} {q : Str} (lk : K.lookup a = some ⟨oc, od, .func fd, osl⟩) (e : fd.code = cd) (h : PySem.W.codeIn K cd q = true) : cd = .ref (codeAt K a) := by
  obtain ⟨c, rfl⟩ := He.codeIn_ref h
  unfold codeAt
  rw [lk]
  show Value.ref c = .ref (match fd.code with | .ref c => c | _ => 0)
  rw [e]
abbrev Mk_ : Type := PySem.W.Frag → Addr
/-- what is looked at: what is reached from the module, and the notes on builtins -/
def asX (g : Addr → Option Obj) (n : Nat) : List Addr := cStatics :: He.asD g n
structure Tells (tf : List Mk_) (h : Heap) (K : PySem.W.Frag) : Prop where
  hd : ∀ p ∈ tf, PySem.W.codeHdIn K (ctAt K (p K)).1 (ctAt K (p K)).2 = true
  out : ∀ p ∈ tf, K.lookup (ctAt K (p K)).2 = none
  empty : ∀ p ∈ tf, h.get? (ctAt K (p K)).2 = some { cls := .none, data := .fields #[] }
  apart : (tf.map fun p => (ctAt K (p K)).2).Nodup
def tabsB (g : Addr → Option Obj) (tf : List Mk_) (K : PySem.W.Frag) : Bool := (tf.all fun p => PySem.W.codeHdIn K (ctAt K (p K)).1 (ctAt K (p K)).2 && (match g (ctAt K (p K)).2 with
  | some o => He.emptyTab o
  | none => false)) && decide ((tf.map fun p => (ctAt K (p K)).2).Nodup)
abbrev AlX : Type := Al × Bool
def obsG (n : Nat) (fa : List (PySem.W.Frag → Bool)) (fn : List Dp) (tf : List Mk_) (g : Addr → Option Obj) : AlX := (obsT fa fn (He.frT g (asX g n)), tabsB g tf (He.frT g (asX g n)))
theorem tells_of {n : Nat} {tf : List Mk_} {h : Heap} (e : tabsB h.get? tf (He.frT h.get? (asX h.get? n)) = true) : Tells tf h (He.frT h.get? (asX h.get? n)) := by
  obtain ⟨h2, h5⟩ := He.ba e
  have key : ∀ p ∈ tf, PySem.W.codeHdIn (He.frT h.get? (asX h.get? n)) (ctAt (He.frT h.get? (asX h.get? n)) (p (He.frT h.get? (asX h.get? n)))).1 (ctAt (He.frT h.get? (asX h.get? n)) (p (He.frT h.get? (asX h.get? n)))).2 = true ∧
      ∃ o, h.get? (ctAt (He.frT h.get? (asX h.get? n)) (p (He.frT h.get? (asX h.get? n)))).2 = some o ∧ He.emptyTab o = true := fun p hp => by
    obtain ⟨h3, h4⟩ := He.ba (List.all_eq_true.mp h2 p hp)
    refine ⟨h3, ?_⟩
    generalize h.get? (ctAt (He.frT h.get? (asX h.get? n)) (p (He.frT h.get? (asX h.get? n)))).2 = z at h4
    cases z with
    | none => cases h4
    | some o => exact ⟨o, rfl, h4⟩
  exact ⟨fun p hp => (key p hp).1, fun p hp => by
    obtain ⟨_, o, q, z⟩ := key p hp
    exact He.frT_none q z, fun p hp => by
    obtain ⟨_, o, q, z⟩ := key p hp
    rw [q, He.emptyTab_eq z], of_decide_eq_true h5⟩
def hook (n : Nat) (fa : List (PySem.W.Frag → Bool)) (fn : List Dp) (tf : List Mk_) : PySem.W.Hook where
  α := AlX
  obs := fun s => obsG n fa fn tf s.heap.get?
  val := fun _ => (valT fn, true)
  says := fun _ h => ∃ K : PySem.W.Frag, K.In h ∧ Says fa fn K ∧ Tells tf h K
  of := fun _ _ e => ⟨_, He.frT_in, congrArg (fun z : AlX => z.1) e, tells_of (congrArg (fun z : AlX => z.2) e)⟩
  keeps := fun _ _ _ ⟨K, hK, c, t⟩ q => ⟨K, PySem.W.Frag.In.keeps hK q, c, t.hd, t.out, fun p hp => q _ _ (t.empty p hp), t.apart⟩
theorem obsG_eq {n : Nat} {fa : List (PySem.W.Frag → Bool)} {fn : List Dp} {tf : List Mk_} {g : Addr → Option Obj} {s : Shared} (h : ∀ a, g a = s.heap.get? a) : obsG n fa fn tf g = (hook n fa fn tf).obs s :=
  congrArg (obsG n fa fn tf) (funext h)
section
variable {fa : List (PySem.W.Frag → Bool)} {fn : List Dp} {K : PySem.W.Frag}
theorem Says.fact (c : Says fa fn K) (i : Nat) {f : PySem.W.Frag → Bool} (h : fa[i]? = some f := by rfl) : f K = true :=
  List.all_eq_true.mp (He.ba (show ((fa.all fun f => f K) && fn.all fun d => okA K (d.at_ K) d.d) = true from congrArg (fun z : Al => z.1) c)).1 f (List.mem_of_getElem? h)
theorem Says.def_ (c : Says fa fn K) (i : Nat) {d : Dp} (h : fn[i]? = some d := by rfl) : (∃ fd, FunD K d.d.name d.d.qual d.d.params d.d.body d.d.scope (d.d.dvs K) (d.d.kws K) (d.at_ K) fd) ∧ PySem.W.keepIn K (.ref (d.at_ K)) = true := by
  have c2 := (He.ba (show ((fa.all fun f => f K) && fn.all fun d => okA K (d.at_ K) d.d) = true from congrArg (fun z : Al => z.1) c)).2
  have c3 := List.all_eq_true.mp c2 d (List.mem_of_getElem? h)
  have e : (fn.map fun d => look K (d.at_ K))[i]? = (fn.map fun d => d.d.val)[i]? := congrArg (fun z : Al => z.2[i]?) c
  rw [List.getElem?_map, List.getElem?_map, h] at e
  exact ⟨fun_at (Option.some.inj e) c3, (He.ba c3).1⟩
end
/-! single facts -/
/-- where the property f of the class C has its getter -/
def propAt (K : PySem.W.Frag) (C : Addr) (f : Str) : Addr := match PySem.W.findIn K (.ref C) f with
  | some (some (.ref p)) => p
  | _ => 0
def getAt (K : PySem.W.Frag) (C : Addr) (f : Str) : Addr := match PySem.W.recIn K (propAt K C f) "property" with
  | some (.ref g :: _) => g
  | _ => 0
def propB (K : PySem.W.Frag) (C : Addr) (f : Str) : Bool := decide (PySem.W.findIn K (.ref C) f = some (some (.ref (propAt K C f)))) && (decide (PySem.W.specialIn K (.ref (propAt K C f)) "__get__" = some (some (.builtin "property.__get__"))) &&
  (decide (PySem.W.takesIn K (.ref (propAt K C f)) = some true) && (match PySem.W.recIn K (propAt K C f) "property" with
    | some (v :: _) => decide (v = .ref (getAt K C f))
    | _ => false)))
theorem prop_ok {K : PySem.W.Frag} {C : Addr} {f : Str} (h : propB K C f = true) : PropOf K C f (propAt K C f) (getAt K C f) := by
  obtain ⟨h1, h⟩ := He.ba h
  obtain ⟨h2, h⟩ := He.ba h
  obtain ⟨h3, h4⟩ := He.ba h
  refine ⟨of_decide_eq_true h1, of_decide_eq_true h2, of_decide_eq_true h3, ?_⟩
  cases e : PySem.W.recIn K (propAt K C f) "property" with
  | none => rw [e] at h4; cases h4
  | some l =>
    rw [e] at h4
    cases l with
    | nil => cases h4
    | cons v r => exact ⟨r, by rw [show v = _ from of_decide_eq_true h4]⟩
def bltB (x : Str) (id : String) (K : PySem.W.Frag) : Bool := decide (PySem.W.nsIn K mainGlobals x = some (some (.builtin id)))
theorem blt_ok {K : PySem.W.Frag} {h : Heap} {mg : Str → Option Value} (X : K.In h) (G : h.Ns mainGlobals mg) {x : Str} {id : String} (c : bltB x id K = true) : mg x = some (.builtin id) := PySem.W.mg_of X G (of_decide_eq_true c)
def fcB (f : He.Fa) (K : PySem.W.Frag) : Bool := f.ok K

/-- the class method m of the class C: its record, its def -/
def cmAt (K : PySem.W.Frag) (C : Addr) (m : Str) : Addr := match PySem.W.findIn K (.ref C) m with
  | some (some (.ref p)) => p
  | _ => 0
def cmFn (K : PySem.W.Frag) (C : Addr) (m : Str) : Addr := match PySem.W.recIn K (cmAt K C m) "classmethod" with
  | some (.ref g :: _) => g
  | _ => 0
def cmB (K : PySem.W.Frag) (C : Addr) (m : Str) : Bool := PySem.W.readsIn K C (.type "type") && (decide (PySem.W.specialIn K (.ref C) "__getattribute__" = some (some (.builtin "type.__getattribute__"))) && ((match PySem.W.findCls K (.ref C) (.type "type") m with
    | some (.get a b c d) => decide (a = .builtin "classmethod.__get__") && (decide (b = .ref (cmAt K C m)) && (decide (c = .none) && decide (d = .ref C)))
    | _ => false) && ((match PySem.W.recIn K (cmAt K C m) "classmethod" with
    | some (v :: _) => decide (v = .ref (cmFn K C m))
    | _ => false) && PySem.W.fnIn K (cmFn K C m))))
theorem cm_ok {K : PySem.W.Frag} {C : Addr} {m : Str} (h : cmB K C m = true) : ClX.CRead K C (.type "type") ∧ ClX.CMet K C (.type "type") m (cmAt K C m) (cmFn K C m) := by
  obtain ⟨h1, h⟩ := He.ba h
  obtain ⟨h2, h⟩ := He.ba h
  obtain ⟨h3, h⟩ := He.ba h
  obtain ⟨h4, h5⟩ := He.ba h
  refine ⟨⟨h1, of_decide_eq_true h2⟩, ?_, ?_, h5⟩
  · cases e : PySem.W.findCls K (.ref C) (.type "type") m with
    | none => rw [e] at h3; cases h3
    | some z =>
      rw [e] at h3
      cases z with
      | get a b c d =>
        obtain ⟨z1, z⟩ := He.ba (show (decide (a = .builtin "classmethod.__get__") && (decide (b = .ref (cmAt K C m)) && (decide (c = .none) && decide (d = .ref C)))) = true from h3)
        obtain ⟨z2, z⟩ := He.ba z
        obtain ⟨z3, z4⟩ := He.ba z
        rw [of_decide_eq_true z1, of_decide_eq_true z2, of_decide_eq_true z3, of_decide_eq_true z4]
      | _ => cases h3
  · cases e : PySem.W.recIn K (cmAt K C m) "classmethod" with
    | none => rw [e] at h4; cases h4
    | some l =>
      rw [e] at h4
      cases l with
      | nil => cases h4
      | cons v r => exact ⟨r, by rw [show v = _ from of_decide_eq_true h4]⟩
/-- a tuple of texts of the module -/
def strsB : List Value → List Str → Bool
  | [], [] => true
  | .str x _ :: r, y :: s => decide (x = y) && strsB r s
  | _, _ => false
theorem strs_ok : ∀ {l : List Value} {ss : List Str}, strsB l ss = true → Vals (ss.map V.str) l
  | [], [], _ => .nil
  | [], _ :: _, h => by cases h
  | v :: r, ss, h => by
    cases v with
    | str x t =>
      cases ss with
      | nil => cases h
      | cons y s =>
        obtain ⟨h1, h2⟩ := He.ba (show (decide (x = y) && strsB r s) = true from h)
        rw [List.map_cons]
        exact .cons ⟨t, by rw [of_decide_eq_true h1]⟩ (strs_ok h2)
    | _ => cases h
def tupB (x : Str) (ss : List Str) (K : PySem.W.Frag) : Bool := match K.lookup (He.ga K x) with
  | some ⟨.type c, _, .seq its _, _⟩ => decide (c = "tuple") && (decide (its.size ≤ 1000) && strsB its.toList ss)
  | _ => false
theorem tup_ok {K : PySem.W.Frag} {x : Str} {ss : List Str} (h : tupB x ss K = true) (H : Hp) : SqT K H (He.ga K x) (ss.map V.str) := by
  unfold tupB at h
  cases q : K.lookup (He.ga K x) with
  | none => rw [q] at h; cases h
  | some o =>
    obtain ⟨oc, od, dt, osl⟩ := o
    rw [q] at h
    cases oc with
    | type c =>
      cases dt with
      | seq its n =>
        obtain ⟨h1, h⟩ := He.ba (show (decide (c = "tuple") && (decide (its.size ≤ 1000) && strsB its.toList ss)) = true from h)
        obtain ⟨h2, h3⟩ := He.ba h
        refine .inr ⟨_, its, n, q, congrArg Value.type (of_decide_eq_true h1), rfl, ?_, strs_ok h3⟩
        have := of_decide_eq_true h2
        rw [sizeLine_eq]
        omega
      | _ => cases h
    | _ => cases dt <;> cases h
/-- a place, as a value -/
abbrev vnI (i : Nat) : V := .int (i : Int)

/-! named readings -/
namespace Rd
def rJoin (K : PySem.W.Frag) : V → List V → Hp → VK → Prop := fun x xs H Q => ∃ a p, ∃ ys : List Str, x = .str a ∧ xs = [.ref p] ∧ (SqL K H p (ys.map V.str) ∨ SqT K H p (ys.map V.str)) ∧ (ys.map (·.length)).sum + ys.length * a.length ≤ 16777216 ∧ Q (.str (Txt.join a ys)) H
def rSplit : V → List V → Hp → VK → Prop := fun x xs H Q => ∃ a b, x = .str a ∧ xs = [.str b] ∧ (b.length == 0) = false ∧ a.length + 2 ≤ sizeLine ∧ rNewStrs (Txt.split a b) H Q
def rMax2 : List V → Hp → VK → Prop := fun xs H Q => ∃ i j, xs = [.int i, .int j] ∧ Q (.int (if j > i then j else i)) H
def rMin2 : List V → Hp → VK → Prop := fun xs H Q => ∃ i j, xs = [.int i, .int j] ∧ Q (.int (if j < i then j else i)) H
def rIsN : R2 := fun x y H Q => y = .non ∧ Q (.bl (decide (x = .non))) H
def rNotN : R2 := fun x y H Q => y = .non ∧ Q (.bl (!decide (x = .non))) H
def rLst (K : PySem.W.Frag) : List V → Hp → VK → Prop := fun xs H Q => ∃ p ys, xs = [.ref p] ∧ (SqL K H p ys ∨ SqT K H p ys) ∧ ∀ l, H l = none → Q (.ref l) (upd H l (.lst ys))
def rTpl (K : PySem.W.Frag) : List V → Hp → VK → Prop := fun xs H Q => ∃ p ys, xs = [.ref p] ∧ ((SqL K H p ys ∧ ∀ l, H l = none → Q (.ref l) (upd H l (.tup ys))) ∨ (SqT K H p ys ∧ Q (.ref p) H))
def rInt1 : List V → Hp → VK → Prop := fun xs H Q => (∃ i, xs = [V.int i] ∧ Q (V.int i) H) ∨ ∃ k, xs = [V.bl k] ∧ Q (V.int (if k = true then 1 else 0)) H
def rStrI : List V → Hp → VK → Prop := fun xs H Q => ∃ i : Int, xs = [.int i] ∧ i.natAbs.log2 < 1920 ∧ Q (.str (toString i)) H
def rAddS : R2 := fun x y H Q => ∃ i j, x = .str i ∧ y = .str j ∧ i.length + j.length ≤ sizeLine ∧ Q (.str (i ++ j)) H
def rLenStr : List V → Hp → VK → Prop := fun xs H Q => ∃ z, xs = [.str z] ∧ z.length ≤ sizeLine ∧ Q (.int z.length) H
end Rd
section
variable {X : Cx} {o e : Expr} {to te : TE} {K : PySem.W.Frag}
theorem pe_fldK {f : Str} {pos : Pos} {ta : TE} (he : PE X e ta) (hb : attributeBase e f X.env (eval e X.env) = eval e X.env) (hK : X.K = K := by rfl) : PE X (.Attribute e f pos) (tFld K ta f) := hK ▸ pe_fld he hb
theorem repTK (hK : X.K = K := by rfl) : OpR X (binaryOp .Mult) (rRepT K) := hK ▸ op_repT
theorem starAK {e : Expr} {p : Pos} {es : List Expr} {te : TE} {t : TA} (he : PE X e te) (hr : PA X es t) (hK : X.K = K := by rfl) (hs : starEach (.Starred e p :: es) X.env = (true, eval e X.env) :: starEach es X.env := by rfl) : PA X (.Starred e p :: es) (StX.tStar K te t) := hK ▸ StX.pa_star he hr hs
theorem ixLK (hK : X.K = K := by rfl) : IxR X (rIxL K) := hK ▸ ix_list
theorem ixTK (hK : X.K = K := by rfl) : IxR X (rIxT K) := hK ▸ ix_tup
theorem ixSK (hK : X.K = K := by rfl) : IxR X (rIx K) := hK ▸ ix_seq
theorem lenK (hK : X.K = K := by rfl) : CallR X (.builtin "len") (Evl.rLenS K) := hK ▸ call_len_seq
theorem tplK (hK : X.K = K := by rfl) : CallR X (.type "tuple") (Rd.rTpl K) := hK ▸ call_tuple_of
theorem lstK (hK : X.K = K := by rfl) : CallR X (.type "list") (Rd.rLst K) := hK ▸ call_list_of
theorem slLK (hK : X.K = K := by rfl) : SlR X (rSlL K) := hK ▸ sl_list
theorem slAK (hK : X.K = K := by rfl) : SlR X (rSlA K) := hK ▸ sl_tupA
theorem eqDK (hu : X.A.units + 64 < cLine) (hK : X.K = K := by rfl) : OpR X (compareOp .Eq) (rEqD K) := hK ▸ op_eqD hu
theorem neDK (hu : X.A.units + 64 < cLine) (hK : X.K = K := by rfl) : OpR X (compareOp .NotEq) (rNeD K) := hK ▸ op_neD hu
theorem inK (hK : X.K = K := by rfl) : OpR X (compareOp .In) (rIn K false) := hK ▸ op_in_seq
theorem notInK (hK : X.K = K := by rfl) : OpR X (compareOp .NotIn) (rIn K true) := hK ▸ op_notIn_seq
theorem sumTK (hc : X.calm = true := by rfl) (hK : X.K = K := by rfl) : CallR X (.builtin "sum") (rSumT K) := hK ▸ cr_sumT hc
theorem sumLK (hc : X.calm = true := by rfl) (hK : X.K = K := by rfl) : CallR X (.builtin "sum") (rSum K) := hK ▸ cr_sum hc
theorem maxLK (hc : X.calm = true := by rfl) (hK : X.K = K := by rfl) : CallR X (.builtin "max") (rMax K) := hK ▸ cr_max hc
theorem minLK (hc : X.calm = true := by rfl) (hK : X.K = K := by rfl) : CallR X (.builtin "min") (rMin K) := hK ▸ cr_min hc
theorem allLK (hc : X.calm = true := by rfl) (hK : X.K = K := by rfl) : CallR X (.builtin "all") (rAll K) := hK ▸ cr_all hc
theorem isiK (hK : X.K = K := by rfl) : CallR X (.builtin "isinstance") (rIsi K) := hK ▸ call_isi
theorem catAK (hK : X.K = K := by rfl) : OpR X (binaryOp .Add) (rCatA K) := hK ▸ op_catA
theorem pi_listK {tg l : Expr} {tl : TE} (hl : PE X l tl) (hK : X.K = K := by rfl) : PI X tg l (iList K tl) := hK ▸ pi_list hl
theorem pi_tupK {tg l : Expr} {tl : TE} (hl : PE X l tl) (hK : X.K = K := by rfl) : PI X tg l (iTup K tl) := hK ▸ pi_tup hl
theorem pe_joinR {apos pos : Pos} (ho : PE X o to) (he : PE X e te) (hK : X.K = K := by rfl) (hs : starEach [e] X.env = [(false, eval e X.env)] := by rfl) (hbase : attributeBase o "join" X.env (eval o X.env) = eval o X.env := by rfl) (hline : (apos.endLine == pos.line) = true := by rfl) :
    PE X (.Call (.Attribute o "join" apos) [e] [] pos) (tM1 (Rd.rJoin K) to te) := by
  subst hK
  exact pe_join ho he hs hbase hline
theorem pe_splitR {apos pos : Pos} (ho : PE X o to) (he : PE X e te) (hs : starEach [e] X.env = [(false, eval e X.env)] := by rfl) (hbase : attributeBase o "split" X.env (eval o X.env) = eval o X.env := by rfl) (hline : (apos.endLine == pos.line) = true := by rfl) :
    PE X (.Call (.Attribute o "split" apos) [e] [] pos) (tM1 Rd.rSplit to te) := pe_split ho he hs hbase hline
end
/-! small words -/
theorem own_cx {X : Cx} {K : Value → Shared → Prop} {E₁ : Value → Shared → Prop} (hx : X.xe = fun e s' => wpAny (model X.prog X.w) X.A (leaving X.env e) (fun _ s'' => K e s'') E₁ s' := by rfl) : PassesOwn (model X.prog X.w) X.A X.env X.xe := passes_of hx
theorem FnP.okF {P : Program} {w : World} {K : PySem.W.Frag} {mg : Str → Option Value} {base : Heap} {x qual : Str} {st : Stmt} {f : Addr} {N ps : List Str} {k : Nat} {sp : Sp} (F : ∃ fd, FnP K x qual st f fd) (S : FnScope N ps (defScope st))
    (hb : ∀ (kV doc pm : Value) (an : Option Addr) (cdv ct : Value) (us : List Value), us.length = ps.length → bindArgs (PySem.W.fnOf x qual (defArgs st) (defBody st) (defScope st) .none kV doc pm an cdv ct) ⟨us, []⟩ = pure (ps.zip us))
    (len : ∀ vs H Q E, sp vs H Q E → vs.length = ps.length)
    (hbody : ∀ (cdv : Value) (A : Around) (outer : List Env) (s : Shared) (H : Hp) (vs : List V) (Q : VK) (E : XK), Room k (A.deeper (envOfC qual (defScope st) s.heap.objs.size f cdv)) → sp vs H Q E →
      ∃ t, PSs (cxOf (L2.CX P w) P w K mg base N qual (defScope st) f cdv A outer s H E) (defBody st) t ∧ t { nx := fun _ H' => Q .non H', rt := Q } (start N vs) H) : OkF P w K mg base (k + 1) f ps sp := by
  obtain ⟨fd, F⟩ := F
  exact ⟨⟨fd, F.ok S len hbody, F.bindsN hb⟩, F.kp⟩
/-- the law's own def: nothing leaves it -/
theorem okLaw {P : Program} {w : World} {K : PySem.W.Frag} {mg : Str → Option Value} {base : Heap} {x qual : Str} {st : Stmt} {f : Addr} {fd : FuncData} {N ps : List Str} {k : Nat} {sp : Sp} (F : FnP K x qual st f fd) (S : FnScope N ps (defScope st)) (len : ∀ vs H Q E, sp vs H Q E → vs.length = ps.length)
    (hbody : ∀ (cdv : Value) (A : Around) (outer : List Env) (s : Shared) (H : Hp) (vs : List V) (Q : VK) (E : XK), Room k (A.deeper (envOfC qual (defScope st) s.heap.objs.size f cdv)) → sp vs H Q E →
      ∃ t, PSs (cxOf CX0 P w K mg base N qual (defScope st) f cdv A outer s H E).nox (defBody st) t ∧ t { nx := fun _ H' => Q .non H', rt := Q } (start N vs) H) : FnOk P w K mg base CX0 (k + 1) f fd ps sp :=
  F.ok S len fun cdv A outer s H vs Q E hr h => by
    obtain ⟨t, h1, h2⟩ := hbody cdv A outer s H vs Q E hr h
    exact ⟨t, h1.nox, h2⟩
def spLaw (K : PySem.W.Frag) : Sp := fun vs H Q _ => ∃ (a : Addr) (ns : List Int), vs = [.ref a] ∧ SqL K H a (ns.map V.int) ∧ ns.length ≤ 63 ∧ ∀ H', Q (.bl true) H'
/-- the same, the tables of the defs that make functions there -/
def spLawT (K : PySem.W.Frag) (T : List (Addr × Str)) : Sp := fun vs H Q _ => ∃ (a : Addr) (ns : List Int), vs = [.ref a] ∧ SqL K H a (ns.map V.int) ∧ ns.length ≤ 63 ∧ LamX.Tabs T H ∧ ∀ H', Q (.bl true) H'
/-- all but what stands at d is as it was -/
def But (d : Addr) (H H' : Hp) : Prop := ∀ b o, b ≠ d → H b = some o → H' b = some o
end Tk
/-! ### B. The text by places -/
namespace Tk
open PySem PySem.Spec PyProof.Rows L2
def top (i : Nat) : Stmt := PySem.Challenge.pw_ticketwrap_k16_first_differences.main.body.getD i (.Pass ⟨0, 0, 0, 0⟩)
abbrev s_is_integer_within : Stmt := top 9
abbrev N_is_integer_within : List Str := ["value", "low", "high"]
theorem sc_is_integer_within : FnScope N_is_integer_within ["value", "low", "high"] (defScope s_is_integer_within) := ⟨rfl, rfl, rfl, by decide +kernel, rfl, by decide +kernel, by decide +kernel⟩
abbrev s_check_tick : Stmt := top 10
abbrev N_check_tick : List Str := ["tick"]
theorem sc_check_tick : FnScope N_check_tick ["tick"] (defScope s_check_tick) := ⟨rfl, rfl, rfl, by decide +kernel, rfl, by decide +kernel, by decide +kernel⟩
abbrev s_display : Stmt := top 12
abbrev N_display : List Str := ["hall", "tick", "called"]
theorem sc_display : FnScope N_display ["hall", "tick"] (defScope s_display) := ⟨rfl, rfl, rfl, by decide +kernel, rfl, by decide +kernel, by decide +kernel⟩
abbrev s_display_cycle : Stmt := top 13
abbrev N_display_cycle : List Str := ["hall", "called"]
theorem sc_display_cycle : FnScope N_display_cycle ["hall"] (defScope s_display_cycle) := ⟨rfl, rfl, rfl, by decide +kernel, rfl, by decide +kernel, by decide +kernel⟩
abbrev s_first_difference : Stmt := top 16
abbrev N_first_difference : List Str := ["hall", "other", "period", "cycle", "tick", "digits", "other_digits"]
theorem sc_first_difference : FnScope N_first_difference ["hall", "other"] (defScope s_first_difference) := ⟨rfl, rfl, rfl, by decide +kernel, rfl, by decide +kernel, by decide +kernel⟩
abbrev s_tells : Stmt := top 17
abbrev N_tells : List Str := ["item", "digits"]
theorem sc_tells : FnScope N_tells ["item", "digits"] (defScope s_tells) := ⟨rfl, rfl, rfl, by decide +kernel, rfl, by decide +kernel, by decide +kernel⟩
abbrev s_first_error : Stmt := top 18
abbrev N_first_error : List Str := ["hall", "log", "tick", "item"]
theorem sc_first_error : FnScope N_first_error ["hall", "log"] (defScope s_first_error) := ⟨rfl, rfl, rfl, by decide +kernel, rfl, by decide +kernel, by decide +kernel⟩
abbrev s_first_invalid_item : Stmt := top 25
abbrev N_first_invalid_item : List Str := ["pattern", "index", "item"]
theorem sc_first_invalid_item : FnScope N_first_invalid_item ["pattern"] (defScope s_first_invalid_item) := ⟨rfl, rfl, rfl, by decide +kernel, rfl, by decide +kernel, by decide +kernel⟩
abbrev s_check_pattern : Stmt := top 26
abbrev N_check_pattern : List Str := ["part", "pattern", "index"]
theorem sc_check_pattern : FnScope N_check_pattern ["part", "pattern"] (defScope s_check_pattern) := ⟨rfl, rfl, rfl, by decide +kernel, rfl, by decide +kernel, by decide +kernel⟩
abbrev s_check_hall : Stmt := top 27
abbrev N_check_hall : List Str := ["modulus", "takes", "calls", "lateness"]
theorem sc_check_hall : FnScope N_check_hall ["modulus", "takes", "calls", "lateness"] (defScope s_check_hall) := ⟨rfl, rfl, rfl, by decide +kernel, rfl, by decide +kernel, by decide +kernel⟩
abbrev s_count_calls : Stmt := top 28
abbrev N_count_calls : List Str := ["takes", "calls", "ticks", "called", "waiting", "tick", "now"]
theorem sc_count_calls : FnScope N_count_calls ["takes", "calls", "ticks"] (defScope s_count_calls) := ⟨rfl, rfl, rfl, by decide +kernel, rfl, by decide +kernel, by decide +kernel⟩
abbrev s_init : Stmt := inClass (top 29) 0
abbrev N_init : List Str := ["self", "modulus", "takes", "calls", "lateness"]
theorem sc_init : FnScope N_init ["self", "modulus", "takes", "calls", "lateness"] (defScope s_init) := ⟨rfl, rfl, rfl, by decide +kernel, rfl, by decide +kernel, by decide +kernel⟩
abbrev s_period : Stmt := inClass (top 29) 1
abbrev N_period : List Str := ["self"]
theorem sc_period : FnScope N_period ["self"] (defScope s_period) := ⟨rfl, rfl, rfl, by decide +kernel, rfl, by decide +kernel, by decide +kernel⟩
abbrev s_called : Stmt := inClass (top 29) 4
abbrev N_called : List Str := ["self", "tick", "period", "skipped", "in_period"]
theorem sc_called : FnScope N_called ["self", "tick"] (defScope s_called) := ⟨rfl, rfl, rfl, by decide +kernel, rfl, by decide +kernel, by decide +kernel⟩
abbrev s__law_random : Stmt := top 31
abbrev N__law_random : List Str := ["_law_script", "_law_salt", "_law_seed", "_law_cell"]
theorem sc__law_random : FnScope N__law_random ["_law_script", "_law_salt"] (defScope s__law_random) := ⟨rfl, rfl, rfl, by decide +kernel, rfl, by decide +kernel, by decide +kernel⟩
abbrev s__law_below : Stmt := top 32
abbrev N__law_below : List Str := ["_law_d", "_law_limit", "_law_result"]
theorem sc__law_below : FnScope N__law_below ["_law_d", "_law_limit"] (defScope s__law_below) := ⟨rfl, rfl, rfl, by decide +kernel, rfl, by decide +kernel, by decide +kernel⟩
abbrev s__law_pattern : Stmt := top 33
abbrev N__law_pattern : List Str := ["_law_d", "_law_most", "_law_high", "_law_k"]
theorem sc__law_pattern : FnScope N__law_pattern ["_law_d", "_law_most"] (defScope s__law_pattern) := ⟨rfl, rfl, rfl, by decide +kernel, rfl, by decide +kernel, by decide +kernel⟩
abbrev s__law_small : Stmt := top 34
abbrev N__law_small : List Str := ["_law_d"]
theorem sc__law_small : FnScope N__law_small ["_law_d"] (defScope s__law_small) := ⟨rfl, rfl, rfl, by decide +kernel, rfl, by decide +kernel, by decide +kernel⟩
abbrev s__law_length : Stmt := top 35
abbrev N__law_length : List Str := ["_law_parts", "_law_length_here"]
theorem sc__law_length : FnScope N__law_length ["_law_parts"] (defScope s__law_length) := ⟨rfl, rfl, rfl, by decide +kernel, rfl, by decide +kernel, by decide +kernel⟩
abbrev s__law_counts : Stmt := top 36
abbrev N__law_counts : List Str := ["_law_parts", "_law_ticks", "_law_taken", "_law_called", "_law_tick"]
theorem sc__law_counts : FnScope N__law_counts ["_law_parts", "_law_ticks"] (defScope s__law_counts) := ⟨rfl, rfl, rfl, by decide +kernel, rfl, by decide +kernel, by decide +kernel⟩
abbrev s__law_distinct : Stmt := top 37
abbrev N__law_distinct : List Str := ["_law_parts", "_law_length_here", "_law_called", "_law_gain", "_law_rounds"]
theorem sc__law_distinct : FnScope N__law_distinct ["_law_parts"] (defScope s__law_distinct) := ⟨rfl, rfl, rfl, by decide +kernel, rfl, by decide +kernel, by decide +kernel⟩
abbrev s__law_shown : Stmt := top 38
abbrev N__law_shown : List Str := ["_law_parts", "_law_ticks", "_law_called", "_law_tick"]
theorem sc__law_shown : FnScope N__law_shown ["_law_parts", "_law_ticks"] (defScope s__law_shown) := ⟨rfl, rfl, rfl, by decide +kernel, rfl, by decide +kernel, by decide +kernel⟩
abbrev s__law_hall : Stmt := top 39
abbrev N__law_hall : List Str := ["_law_parts"]
theorem sc__law_hall : FnScope N__law_hall ["_law_parts"] (defScope s__law_hall) := ⟨rfl, rfl, rfl, by decide +kernel, rfl, by decide +kernel, by decide +kernel⟩
abbrev s__law_equal : Stmt := top 40
abbrev N__law_equal : List Str := ["_law_actual", "_law_expected", "_law_k"]
theorem sc__law_equal : FnScope N__law_equal ["_law_actual", "_law_expected"] (defScope s__law_equal) := ⟨rfl, rfl, rfl, by decide +kernel, rfl, by decide +kernel, by decide +kernel⟩
abbrev s_law : Stmt := top 41
abbrev N_law : List Str := ["_law_script", "_law_d", "_law_late", "_law_step", "_law_first", "_law_second", "_law_kind", "_law_lengths", "_law_pair", "_law_differing", "_law_expected", "_law_halls", "_law_log", "_law_wrong", "_law_found", "_law_parts", "_law_tick"]
theorem sc_law : FnScope N_law ["_law_script"] (defScope s_law) := ⟨rfl, rfl, rfl, by decide +kernel, rfl, by decide +kernel, by decide +kernel⟩
structure Txt (K : PySem.W.Frag) (mg : Str → Option Value) : Prop where
  g_abs : mg "abs" = none
  g_all : mg "all" = none
  g_bool : mg "bool" = none
  g_enumerate : mg "enumerate" = none
  g_int : mg "int" = none
  g_isinstance : mg "isinstance" = none
  g_len : mg "len" = none
  g_list : mg "list" = none
  g_max : mg "max" = none
  g_min : mg "min" = none
  g_range : mg "range" = none
  g_str : mg "str" = none
  g_tuple : mg "tuple" = none
  g_gcd : mg "gcd" = some (.builtin "math.gcd")
  g_lcm : mg "lcm" = some (.builtin "math.lcm")
  c_LAST_TICK : ∃ t, mg "LAST_TICK" = some (.int 1000000000000000000 t)
  c_MOST_TICKS : ∃ t, mg "MOST_TICKS" = some (.int 20000 t)
  c_LEAST_MODULUS : ∃ t, mg "LEAST_MODULUS" = some (.int 2 t)
  c_GREATEST_MODULUS : ∃ t, mg "GREATEST_MODULUS" = some (.int 10000 t)
  c_MOST_ITEMS : ∃ t, mg "MOST_ITEMS" = some (.int 12 t)
  c_GREATEST_ITEM : ∃ t, mg "GREATEST_ITEM" = some (.int 9 t)
  c_GREATEST_LATENESS : ∃ t, mg "GREATEST_LATENESS" = some (.int 99 t)
  g_is_integer_within : mg "is_integer_within" = some (.ref (He.ga K "is_integer_within"))
  g_check_tick : mg "check_tick" = some (.ref (He.ga K "check_tick"))
  g_display : mg "display" = some (.ref (He.ga K "display"))
  g_display_cycle : mg "display_cycle" = some (.ref (He.ga K "display_cycle"))
  g_first_difference : mg "first_difference" = some (.ref (He.ga K "first_difference"))
  g_tells : mg "tells" = some (.ref (He.ga K "tells"))
  g_first_error : mg "first_error" = some (.ref (He.ga K "first_error"))
  g_first_invalid_item : mg "first_invalid_item" = some (.ref (He.ga K "first_invalid_item"))
  g_check_pattern : mg "check_pattern" = some (.ref (He.ga K "check_pattern"))
  g_check_hall : mg "check_hall" = some (.ref (He.ga K "check_hall"))
  g_count_calls : mg "count_calls" = some (.ref (He.ga K "count_calls"))
  g__law_random : mg "_law_random" = some (.ref (He.ga K "_law_random"))
  g__law_below : mg "_law_below" = some (.ref (He.ga K "_law_below"))
  g__law_pattern : mg "_law_pattern" = some (.ref (He.ga K "_law_pattern"))
  g__law_small : mg "_law_small" = some (.ref (He.ga K "_law_small"))
  g__law_length : mg "_law_length" = some (.ref (He.ga K "_law_length"))
  g__law_counts : mg "_law_counts" = some (.ref (He.ga K "_law_counts"))
  g__law_distinct : mg "_law_distinct" = some (.ref (He.ga K "_law_distinct"))
  g__law_shown : mg "_law_shown" = some (.ref (He.ga K "_law_shown"))
  g__law_hall : mg "_law_hall" = some (.ref (He.ga K "_law_hall"))
  g__law_equal : mg "_law_equal" = some (.ref (He.ga K "_law_equal"))
  g_Hall : mg "Hall" = some (.ref (He.ga K "Hall"))
  cl_Hall : Cls K (He.ga K "Hall")
  mk_Hall : Mk K (He.ga K "Hall") (He.ma K (He.ga K "Hall") "__init__")
  n_modulus : NoAttr K (He.ga K "Hall") "modulus"
  n_takes : NoAttr K (He.ga K "Hall") "takes"
  n_calls : NoAttr K (He.ga K "Hall") "calls"
  n_lateness : NoAttr K (He.ga K "Hall") "lateness"
  n__called : NoAttr K (He.ga K "Hall") "_called"
  m_called : Meth K (He.ga K "Hall") "called" (He.ma K (He.ga K "Hall") "called")
  p_period : PropOf K (He.ga K "Hall") "period" (propAt K (He.ga K "Hall") "period") (getAt K (He.ga K "Hall") "period")
  f_is_integer_within : ∃ fd, FnP K "is_integer_within" "is_integer_within" s_is_integer_within (He.ga K "is_integer_within") fd
  f_check_tick : ∃ fd, FnP K "check_tick" "check_tick" s_check_tick (He.ga K "check_tick") fd
  f_display : ∃ fd, FnP K "display" "display" s_display (He.ga K "display") fd
  f_display_cycle : ∃ fd, FnP K "display_cycle" "display_cycle" s_display_cycle (He.ga K "display_cycle") fd
  f_first_difference : ∃ fd, FnP K "first_difference" "first_difference" s_first_difference (He.ga K "first_difference") fd
  f_tells : ∃ fd, FnP K "tells" "tells" s_tells (He.ga K "tells") fd
  f_first_error : ∃ fd, FnP K "first_error" "first_error" s_first_error (He.ga K "first_error") fd
  f_first_invalid_item : ∃ fd, FnP K "first_invalid_item" "first_invalid_item" s_first_invalid_item (He.ga K "first_invalid_item") fd
  f_check_pattern : ∃ fd, FnP K "check_pattern" "check_pattern" s_check_pattern (He.ga K "check_pattern") fd
  f_check_hall : ∃ fd, FnP K "check_hall" "check_hall" s_check_hall (He.ga K "check_hall") fd
  f_count_calls : ∃ fd, FnP K "count_calls" "count_calls" s_count_calls (He.ga K "count_calls") fd
  f_init : ∃ fd, FnP K "__init__" "Hall.__init__" s_init (He.ma K (He.ga K "Hall") "__init__") fd
  f_period : ∃ fd, FnP K "period" "Hall.period" s_period (getAt K (He.ga K "Hall") "period") fd
  f_called : ∃ fd, FnP K "called" "Hall.called" s_called (He.ma K (He.ga K "Hall") "called") fd
  f__law_random : ∃ fd, FnP K "_law_random" "_law_random" s__law_random (He.ga K "_law_random") fd
  f__law_below : ∃ fd, FnP K "_law_below" "_law_below" s__law_below (He.ga K "_law_below") fd
  f__law_pattern : ∃ fd, FnP K "_law_pattern" "_law_pattern" s__law_pattern (He.ga K "_law_pattern") fd
  f__law_small : ∃ fd, FnP K "_law_small" "_law_small" s__law_small (He.ga K "_law_small") fd
  f__law_length : ∃ fd, FnP K "_law_length" "_law_length" s__law_length (He.ga K "_law_length") fd
  f__law_counts : ∃ fd, FnP K "_law_counts" "_law_counts" s__law_counts (He.ga K "_law_counts") fd
  f__law_distinct : ∃ fd, FnP K "_law_distinct" "_law_distinct" s__law_distinct (He.ga K "_law_distinct") fd
  f__law_shown : ∃ fd, FnP K "_law_shown" "_law_shown" s__law_shown (He.ga K "_law_shown") fd
  f__law_hall : ∃ fd, FnP K "_law_hall" "_law_hall" s__law_hall (He.ga K "_law_hall") fd
  f__law_equal : ∃ fd, FnP K "_law_equal" "_law_equal" s__law_equal (He.ga K "_law_equal") fd
def fcts : List (PySem.W.Frag → Bool) := [fcB (.free "abs"), fcB (.free "all"), fcB (.free "bool"), fcB (.free "enumerate"), fcB (.free "int"), fcB (.free "isinstance"), fcB (.free "len"), fcB (.free "list"), fcB (.free "max"), fcB (.free "min"), fcB (.free "range"), fcB (.free "str"), fcB (.free "tuple"), bltB "gcd" "math.gcd", bltB "lcm" "math.lcm", fcB (.int "LAST_TICK" 1000000000000000000), fcB (.int "MOST_TICKS" 20000), fcB (.int "LEAST_MODULUS" 2), fcB (.int "GREATEST_MODULUS" 10000), fcB (.int "MOST_ITEMS" 12), fcB (.int "GREATEST_ITEM" 9), fcB (.int "GREATEST_LATENESS" 99), fcB (.glo "is_integer_within"), fcB (.glo "check_tick"), fcB (.glo "display"), fcB (.glo "display_cycle"), fcB (.glo "first_difference"), fcB (.glo "tells"), fcB (.glo "first_error"), fcB (.glo "first_invalid_item"), fcB (.glo "check_pattern"), fcB (.glo "check_hall"), fcB (.glo "count_calls"), fcB (.glo "_law_random"), fcB (.glo "_law_below"), fcB (.glo "_law_pattern"), fcB (.glo "_law_small"), fcB (.glo "_law_length"), fcB (.glo "_law_counts"), fcB (.glo "_law_distinct"), fcB (.glo "_law_shown"), fcB (.glo "_law_hall"), fcB (.glo "_law_equal"), fcB (.glo "Hall"), fcB (.cls "Hall"), fcB (.mkr "Hall"), fcB (.noat "Hall" "modulus"), fcB (.noat "Hall" "takes"), fcB (.noat "Hall" "calls"), fcB (.noat "Hall" "lateness"), fcB (.noat "Hall" "_called"), fcB (.meth "Hall" "called"), (fun K => propB K (He.ga K "Hall") "period"), fcB (.glo "law")]
def lawF : Nat := 53
def dps : List Dp := [⟨fun K => (He.ga K "is_integer_within"), ⟨("is_integer_within", none), "is_integer_within", "is_integer_within", defArgs s_is_integer_within, defBody s_is_integer_within, defScope s_is_integer_within, [], []⟩⟩, ⟨fun K => (He.ga K "check_tick"), ⟨("check_tick", none), "check_tick", "check_tick", defArgs s_check_tick, defBody s_check_tick, defScope s_check_tick, [], []⟩⟩, ⟨fun K => (He.ga K "display"), ⟨("display", none), "display", "display", defArgs s_display, defBody s_display, defScope s_display, [], []⟩⟩, ⟨fun K => (He.ga K "display_cycle"), ⟨("display_cycle", none), "display_cycle", "display_cycle", defArgs s_display_cycle, defBody s_display_cycle, defScope s_display_cycle, [], []⟩⟩, ⟨fun K => (He.ga K "first_difference"), ⟨("first_difference", none), "first_difference", "first_difference", defArgs s_first_difference, defBody s_first_difference, defScope s_first_difference, [], []⟩⟩, ⟨fun K => (He.ga K "tells"), ⟨("tells", none), "tells", "tells", defArgs s_tells, defBody s_tells, defScope s_tells, [], []⟩⟩, ⟨fun K => (He.ga K "first_error"), ⟨("first_error", none), "first_error", "first_error", defArgs s_first_error, defBody s_first_error, defScope s_first_error, [], []⟩⟩, ⟨fun K => (He.ga K "first_invalid_item"), ⟨("first_invalid_item", none), "first_invalid_item", "first_invalid_item", defArgs s_first_invalid_item, defBody s_first_invalid_item, defScope s_first_invalid_item, [], []⟩⟩, ⟨fun K => (He.ga K "check_pattern"), ⟨("check_pattern", none), "check_pattern", "check_pattern", defArgs s_check_pattern, defBody s_check_pattern, defScope s_check_pattern, [], []⟩⟩, ⟨fun K => (He.ga K "check_hall"), ⟨("check_hall", none), "check_hall", "check_hall", defArgs s_check_hall, defBody s_check_hall, defScope s_check_hall, [], []⟩⟩, ⟨fun K => (He.ga K "count_calls"), ⟨("count_calls", none), "count_calls", "count_calls", defArgs s_count_calls, defBody s_count_calls, defScope s_count_calls, [], []⟩⟩, ⟨fun K => (He.ma K (He.ga K "Hall") "__init__"), ⟨("__init__", none), "__init__", "Hall.__init__", defArgs s_init, defBody s_init, defScope s_init, [], []⟩⟩, ⟨fun K => (getAt K (He.ga K "Hall") "period"), ⟨("period", none), "period", "Hall.period", defArgs s_period, defBody s_period, defScope s_period, [], []⟩⟩, ⟨fun K => (He.ma K (He.ga K "Hall") "called"), ⟨("called", none), "called", "Hall.called", defArgs s_called, defBody s_called, defScope s_called, [], []⟩⟩, ⟨fun K => (He.ga K "_law_random"), ⟨("_law_random", none), "_law_random", "_law_random", defArgs s__law_random, defBody s__law_random, defScope s__law_random, [], []⟩⟩, ⟨fun K => (He.ga K "_law_below"), ⟨("_law_below", none), "_law_below", "_law_below", defArgs s__law_below, defBody s__law_below, defScope s__law_below, [], []⟩⟩, ⟨fun K => (He.ga K "_law_pattern"), ⟨("_law_pattern", none), "_law_pattern", "_law_pattern", defArgs s__law_pattern, defBody s__law_pattern, defScope s__law_pattern, [], []⟩⟩, ⟨fun K => (He.ga K "_law_small"), ⟨("_law_small", none), "_law_small", "_law_small", defArgs s__law_small, defBody s__law_small, defScope s__law_small, [], []⟩⟩, ⟨fun K => (He.ga K "_law_length"), ⟨("_law_length", none), "_law_length", "_law_length", defArgs s__law_length, defBody s__law_length, defScope s__law_length, [], []⟩⟩, ⟨fun K => (He.ga K "_law_counts"), ⟨("_law_counts", none), "_law_counts", "_law_counts", defArgs s__law_counts, defBody s__law_counts, defScope s__law_counts, [], []⟩⟩, ⟨fun K => (He.ga K "_law_distinct"), ⟨("_law_distinct", none), "_law_distinct", "_law_distinct", defArgs s__law_distinct, defBody s__law_distinct, defScope s__law_distinct, [], []⟩⟩, ⟨fun K => (He.ga K "_law_shown"), ⟨("_law_shown", none), "_law_shown", "_law_shown", defArgs s__law_shown, defBody s__law_shown, defScope s__law_shown, [], []⟩⟩, ⟨fun K => (He.ga K "_law_hall"), ⟨("_law_hall", none), "_law_hall", "_law_hall", defArgs s__law_hall, defBody s__law_hall, defScope s__law_hall, [], []⟩⟩, ⟨fun K => (He.ga K "_law_equal"), ⟨("_law_equal", none), "_law_equal", "_law_equal", defArgs s__law_equal, defBody s__law_equal, defScope s__law_equal, [], []⟩⟩, ⟨fun K => (He.ga K "law"), ⟨("law", none), "law", "law", defArgs s_law, defBody s_law, defScope s_law, [], []⟩⟩]
def names : List PySem.Str := (["_wall", "HallError", "InvalidHall", "InvalidTick", "TooMany", "LAST_TICK", "is_integer_within", "check_tick", "display", "display_cycle", "MOST_TICKS", "first_difference"] : List PySem.Str) ++ (["tells", "first_error", "LEAST_MODULUS", "GREATEST_MODULUS", "MOST_ITEMS", "GREATEST_ITEM", "GREATEST_LATENESS", "first_invalid_item", "check_pattern", "check_hall", "count_calls", "Hall"] : List PySem.Str) ++ (["_law_random", "_law_below", "_law_pattern", "_law_small", "_law_length", "_law_counts", "_law_distinct", "_law_shown", "_law_hall", "_law_equal"] : List PySem.Str)
abbrev R : PySem.W.OpenRow := PySem.W.OpenLaw.row PySem.Challenge.rw_ticketwrap_k16_first_differences
def mkl : List (Mk_ × Str) := []
abbrev mks : List Mk_ := mkl.map fun p => p.1
abbrev hk : PySem.W.Hook := hook 6 fcts dps mks
def ob (s : PySem.W.SharedT) : AlX := obsG 6 fcts dps mks (HeadRun.getT s)
theorem ob_eq (s : PySem.W.SharedT) : ob s = hk.obs s.abs := obsG_eq (HeadRun.getT_eq s)
def lawI : Nat := 41
end Tk
namespace Tk
open PySem PySem.Spec PyProof.Rows L2
theorem run (w : World) : HeadRun.RunEqI R (PySem.W.view R.prog [0, 41]) hk ob 20000 names w := by
  unfold HeadRun.RunEqI
  kernel_rfl
theorem txt {K : PySem.W.Frag} {h : Heap} {mg : Str → Option Value} (X : K.In h) (G : h.Ns mainGlobals mg) (c : Says fcts dps K) : Txt K mg where
  g_abs := He.free_ok X G (c.fact 0 rfl)
  g_all := He.free_ok X G (c.fact 1 rfl)
  g_bool := He.free_ok X G (c.fact 2 rfl)
  g_enumerate := He.free_ok X G (c.fact 3 rfl)
  g_int := He.free_ok X G (c.fact 4 rfl)
  g_isinstance := He.free_ok X G (c.fact 5 rfl)
  g_len := He.free_ok X G (c.fact 6 rfl)
  g_list := He.free_ok X G (c.fact 7 rfl)
  g_max := He.free_ok X G (c.fact 8 rfl)
  g_min := He.free_ok X G (c.fact 9 rfl)
  g_range := He.free_ok X G (c.fact 10 rfl)
  g_str := He.free_ok X G (c.fact 11 rfl)
  g_tuple := He.free_ok X G (c.fact 12 rfl)
  g_gcd := blt_ok X G (c.fact 13 rfl)
  g_lcm := blt_ok X G (c.fact 14 rfl)
  c_LAST_TICK := He.int_ok X G (c.fact 15 rfl)
  c_MOST_TICKS := He.int_ok X G (c.fact 16 rfl)
  c_LEAST_MODULUS := He.int_ok X G (c.fact 17 rfl)
  c_GREATEST_MODULUS := He.int_ok X G (c.fact 18 rfl)
  c_MOST_ITEMS := He.int_ok X G (c.fact 19 rfl)
  c_GREATEST_ITEM := He.int_ok X G (c.fact 20 rfl)
  c_GREATEST_LATENESS := He.int_ok X G (c.fact 21 rfl)
  g_is_integer_within := He.glo_ok X G (c.fact 22 rfl)
  g_check_tick := He.glo_ok X G (c.fact 23 rfl)
  g_display := He.glo_ok X G (c.fact 24 rfl)
  g_display_cycle := He.glo_ok X G (c.fact 25 rfl)
  g_first_difference := He.glo_ok X G (c.fact 26 rfl)
  g_tells := He.glo_ok X G (c.fact 27 rfl)
  g_first_error := He.glo_ok X G (c.fact 28 rfl)
  g_first_invalid_item := He.glo_ok X G (c.fact 29 rfl)
  g_check_pattern := He.glo_ok X G (c.fact 30 rfl)
  g_check_hall := He.glo_ok X G (c.fact 31 rfl)
  g_count_calls := He.glo_ok X G (c.fact 32 rfl)
  g__law_random := He.glo_ok X G (c.fact 33 rfl)
  g__law_below := He.glo_ok X G (c.fact 34 rfl)
  g__law_pattern := He.glo_ok X G (c.fact 35 rfl)
  g__law_small := He.glo_ok X G (c.fact 36 rfl)
  g__law_length := He.glo_ok X G (c.fact 37 rfl)
  g__law_counts := He.glo_ok X G (c.fact 38 rfl)
  g__law_distinct := He.glo_ok X G (c.fact 39 rfl)
  g__law_shown := He.glo_ok X G (c.fact 40 rfl)
  g__law_hall := He.glo_ok X G (c.fact 41 rfl)
  g__law_equal := He.glo_ok X G (c.fact 42 rfl)
  g_Hall := He.glo_ok X G (c.fact 43 rfl)
  cl_Hall := He.cls_ok (c.fact 44 rfl)
  mk_Hall := He.mkr_ok (c.fact 45 rfl)
  n_modulus := He.noat_ok (c.fact 46 rfl)
  n_takes := He.noat_ok (c.fact 47 rfl)
  n_calls := He.noat_ok (c.fact 48 rfl)
  n_lateness := He.noat_ok (c.fact 49 rfl)
  n__called := He.noat_ok (c.fact 50 rfl)
  m_called := He.meth_ok (c.fact 51 rfl)
  p_period := prop_ok (c.fact 52 rfl)
  f_is_integer_within := (c.def_ 0 rfl).1
  f_check_tick := (c.def_ 1 rfl).1
  f_display := (c.def_ 2 rfl).1
  f_display_cycle := (c.def_ 3 rfl).1
  f_first_difference := (c.def_ 4 rfl).1
  f_tells := (c.def_ 5 rfl).1
  f_first_error := (c.def_ 6 rfl).1
  f_first_invalid_item := (c.def_ 7 rfl).1
  f_check_pattern := (c.def_ 8 rfl).1
  f_check_hall := (c.def_ 9 rfl).1
  f_count_calls := (c.def_ 10 rfl).1
  f_init := (c.def_ 11 rfl).1
  f_period := (c.def_ 12 rfl).1
  f_called := (c.def_ 13 rfl).1
  f__law_random := (c.def_ 14 rfl).1
  f__law_below := (c.def_ 15 rfl).1
  f__law_pattern := (c.def_ 16 rfl).1
  f__law_small := (c.def_ 17 rfl).1
  f__law_length := (c.def_ 18 rfl).1
  f__law_counts := (c.def_ 19 rfl).1
  f__law_distinct := (c.def_ 20 rfl).1
  f__law_shown := (c.def_ 21 rfl).1
  f__law_hall := (c.def_ 22 rfl).1
  f__law_equal := (c.def_ 23 rfl).1
theorem law_fn {K : PySem.W.Frag} (c : Says fcts dps K) : ∃ fd, FnP K "law" "law" s_law (He.ga K "law") fd := (c.def_ 24 rfl).1
end Tk
/-! ### A lambda of one parameter, handed to a def with two more arguments -/
namespace Tk
open PySem PySem.Spec PyProof.Rows L2 LamX
/-- one parameter a, else captured names and globals -/
structure LamP (sc scope : Scope) (a : Str) : Prop where
  kd : scope.kind = .function
  co : scope.isCoroutine = false
  gen : scope.isGenerator = false
  par : scope.names.lookup a = some .local
  own : ∀ y ∈ scope.names, (y.2 = .local → y.1 = a) ∧ y.2 ≠ .cell
  fre : ∀ y ∈ scope.names, y.2 = .free → sc.names.lookup y.1 = some .cell ∨ sc.names.lookup y.1 = some .free
def lamPB (sc scope : Scope) (a : Str) : Bool :=
  decide (scope.kind = .function) && (!scope.isCoroutine && (!scope.isGenerator && (decide (scope.names.lookup a = some .local) && scope.names.all fun y => (!decide (y.2 = .local) || decide (y.1 = a)) && (!decide (y.2 = .cell) && (!decide (y.2 = .free) || (decide (sc.names.lookup y.1 = some .cell) || decide (sc.names.lookup y.1 = some .free)))))))
theorem lamP_by {sc scope : Scope} {a : Str} (h : lamPB sc scope a = true) : LamP sc scope a := by
  unfold lamPB at h
  simp only [Bool.and_eq_true, Bool.or_eq_true, Bool.not_eq_true', decide_eq_true_eq, decide_eq_false_iff_not, List.all_eq_true] at h
  obtain ⟨h1, h2, h3, h4, h5⟩ := h
  refine ⟨h1, h2, h3, h4, fun y hy => ⟨fun e => ?_, (h5 y hy).2.1⟩, fun y hy e => ?_⟩
  · rcases (h5 y hy).1 with z | z
    · exact absurd e z
    · exact z
  · rcases (h5 y hy).2.2 with z | z
    · exact absurd e z
    · exact z
/-- the context of its body: the maker's names, then the parameter -/
def lamCxP (X : Cx) (a : Str) (A : Around) (outer : List Env) (s : Shared) (H : Hp) (scope : Scope) (f c' : Addr) : Cx := { lamCx X A outer s H E0 scope f c' with N := X.N ++ [a] }
section
variable {X : Cx} {pins : List (Addr × Obj)} {σ : L2.St} {H HZ : Hp} {s s1 : Shared}
theorem lamP_start {a : Str} {y : V} {v : Value} {A : Around} {outer : List Env} {scope : Scope} {f c' : Addr} {h₁ : Heap} {tk : Nat} (I : Inv X pins σ H s) (L : LamP X.env.scope scope a) (hna : a ∉ X.N) (e0 : Env0 X.prog X.w X.K X.mg X.base A outer s1 HZ) (hd : A.handled = none)
    (un : Un (frs X.stack) [] H HZ s.heap s1.heap) (ry : RelV y v) (hns : h₁.Ns s1.heap.objs.size fun x => ([(a, v)] : List (Str × Value)).reverse.lookup x) (kp : ∀ b o, s1.heap.get? b = some o → h₁.get? b = some o) :
    Inv (lamCxP X a A outer s1 HZ scope f c') [] (σ ++ [some y]) HZ { s1 with heap := h₁, toks := tk } := by
  have frs0 : ∀ q ∈ scope.names, q.2 = .free → ∃ c, X.env.cells.lookup q.1 = some c := fun q hq e => (L.fre q hq e).elim (fun z => I.ok.has _ (.inl z)) fun z => I.ok.has _ (.inr z)
  have up : ∀ {q c}, (cloFrom X.env.cells scope.names []).lookup q = some c → X.env.cells.lookup q = some c := fun {q c} e => by
    rcases cloFrom_mem (PySem.mem_of_lookup e) with hm | ⟨z1, z2⟩
    · cases hm
    · obtain ⟨d, hdd⟩ := frs0 _ z1 rfl
      have hdd : X.env.cells.lookup q = some d := hdd
      have : c = d := by rw [z2, hdd] <;> rfl
      rw [this]
      exact hdd
  have has : ∀ {q}, scope.names.lookup q = some .free → ∃ c, (cloFrom X.env.cells scope.names []).lookup q = some c := fun {q} hl => mem_lookup (cloFrom_has (cells := X.env.cells) (acc := []) (PySem.mem_of_lookup hl))
  have cl : ∀ {c : Addr} {u : Option Value}, H c = none → s.heap.IsCell c u → h₁.IsCell c u := fun {c u} n ⟨o, ho, hdt⟩ => by
    obtain ⟨sl, z⟩ := un.any ho n (by simp)
    exact ⟨_, kp _ _ z, hdt⟩
  have none0 : ∀ b : Addr, b ∉ (lamCxP X a A outer s1 HZ scope f c').ex := fun b z => by cases (show b ∈ ([] : List Addr) from z)
  refine ⟨⟨e0.mod, L.kd, rfl, rfl, Nat.le_refl _, fun p q c e1 e2 => I.ok.inj p q c (up e1) (up e2), fun q hq => ?_, fun q c z _ => ?_, fun _ => hd, Around.frames_deeper e0.frames, .inr ⟨rfl, rfl⟩, fun b z => absurd z (none0 b), e0.bs, e0.bsz, fun b _ _ => none0 b,
      fun b z => absurd z (none0 b), e0.funs, e0.frf⟩,
    rfl, e0.bare, Un.kept kp, ⟨_, hns, fun i q u e1 e2 e3 => ?_⟩, fun q c e => ?_, e0.hok.fresh (Nat.le_refl _), fun q c e => ?_, fun q hq => absurd (show q ∈ ([] : List (Addr × Obj)) ++ [] from hq) (by simp), e0.hok.kept kp, ?_⟩
  · rcases (show scope.names.lookup q = some .cell ∨ scope.names.lookup q = some .free from hq) with z | z
    · exact absurd rfl (L.own _ (PySem.mem_of_lookup z)).2
    · exact has z
  · cases (show false = true from z)
  · have e1 : (X.N ++ [a])[i]? = some q := e1
    have e3 : Vis scope q := e3
    have hlen := I.len
    rcases Nat.lt_or_ge i X.N.length with lt | ge
    · rw [List.getElem?_append_left lt] at e1
      rw [List.getElem?_append_left (by rw [hlen]; exact lt)] at e2
      have qn : q ≠ a := fun z => hna (by rw [← z]; exact List.mem_of_getElem? e1)
      have kf : scope.names.lookup q = some .free := by
        rcases e3 with z | z | z
        · exact absurd ((L.own _ (PySem.mem_of_lookup z)).1 rfl) qn
        · exact absurd rfl (L.own _ (PySem.mem_of_lookup z)).2
        · exact z
      obtain ⟨m, _, hl⟩ := I.loc
      have vis : Vis X.env.scope q := (L.fre _ (PySem.mem_of_lookup kf) rfl).elim (fun z => .inr (.inl z)) fun z => .inr (.inr z)
      obtain ⟨w', r, z⟩ := hl i q u e1 e2 vis
      obtain ⟨d, hd2⟩ := has kf
      refine ⟨w', r, .inr ⟨.inr kf, d, hd2, ?_⟩⟩
      rcases z with ⟨z, _⟩ | ⟨_, c3, z1, z2⟩
      · have z : X.env.scope.names.lookup q = some .local := z
        rcases L.fre _ (PySem.mem_of_lookup kf) rfl with k2 | k2 <;> rw [show X.env.scope.names.lookup q = _ from k2] at z <;> cases z
      · rw [up hd2] at z1
        cases z1
        exact cl (I.freeC q _ (up hd2)) z2
    · have hi : i = X.N.length := by
        have := (List.getElem?_eq_some_iff.mp e1).1
        rw [List.length_append] at this
        have : i < X.N.length + 1 := this
        omega
      subst hi
      rw [List.getElem?_append_right (Nat.le_refl _), Nat.sub_self] at e1
      rw [List.getElem?_append_right (by rw [hlen]; exact Nat.le_refl _), hlen, Nat.sub_self] at e2
      obtain rfl : a = q := Option.some.inj e1
      have eu : some y = some u := Option.some.inj e2
      cases eu
      refine ⟨v, ry, .inl ⟨L.par, ?_⟩⟩
      show (match a == a with | true => some v | false => _) = some v
      rw [beq_self_eq_true]
  · obtain ⟨u, z⟩ := I.cell q c (up e)
    exact ⟨u, cl (I.freeC q c (up e)) z⟩
  · obtain ⟨u, o, ho, _⟩ := I.cell q c (up e)
    exact un.free c o ho (I.freeC q c (up e)) (by simp)
  · show (σ ++ [some y]).length = (X.N ++ [a]).length
    rw [List.length_append, List.length_append, I.len]
    rfl
/-- b(e), in the def that got the lambda -/
theorem pe_act1 {Eg : XK} {Ng : List Str} {qg : Str} {sg : Scope} {g f c' : Addr} {cdg pm ctv : Value} {params : Arguments} {body : Expr} {scope : Scope} {k i : Nat} {a b : Str} {tb : TE} {p1 p2 : Pos} {e : Expr} {te : TA}
    (I : Inv X pins σ H s) (L : LamP X.env.scope scope a) (hna : a ∉ X.N) (hf : s.heap.get? f = some (PySem.W.kla_obj "<lambda>" (X.env.qual ++ "<lambda>") params body scope (cloFrom X.env.cells scope.names []) pm c' ctv)) (hfn : H f = none) (hfr : f ∉ frs X.stack)
    (hbind : ∀ v, bindArgs (PySem.W.kla_fn "<lambda>" (X.env.qual ++ "<lambda>") params body scope (cloFrom X.env.cells scope.names []) pm (.ref c') ctv) ⟨[v], []⟩ = pure [(a, v)])
    (hr : Room (k + 1) (X.A.deeper (envOfC qg sg s.heap.objs.size g cdg))) (hbody : ∀ (A : Around) (outer : List Env) (s : Shared) (H : Hp), Room k (A.deeper (lamEnv X scope s.heap.objs.size f c')) → PE (lamCxP X a A outer s H scope f c') body tb)
    (hN : Ng[i]? = some b) (hv : Vis sg b) (ha : PA (cxOf (L2.CX X.prog X.w) X.prog X.w X.K X.mg X.base Ng qg sg g cdg X.A X.stack s H Eg) [e] te)
    (he : starEach [e] (cxOf (L2.CX X.prog X.w) X.prog X.w X.K X.mg X.base Ng qg sg g cdg X.A X.stack s H Eg).env = (false, eval e (cxOf (L2.CX X.prog X.w) X.prog X.w X.K X.mg X.base Ng qg sg g cdg X.A X.stack s H Eg).env) :: starEach [] (cxOf (L2.CX X.prog X.w) X.prog X.w X.K X.mg X.base Ng qg sg g cdg X.A X.stack s H Eg).env)
    (hd : (b == ("__debug__" : Str)) = false := by decide) (hcd : (b == ("__classdict__" : Str)) = false := by decide) :
    PE (cxOf (L2.CX X.prog X.w) X.prog X.w X.K X.mg X.base Ng qg sg g cdg X.A X.stack s H Eg) (.Call (.Name b p1) [e] [] p2)
      (fun σZ HZ Q => σZ[i]? = some (some (.ref f)) ∧ te σZ HZ fun vs HZ1 => ∃ y, vs = [y] ∧ HZ1 c' = some (CodeO c' (X.env.qual ++ "<lambda>")) ∧ tb (σ ++ [some y]) HZ1 Q) := by
  refine ⟨fun pinsZ sZ σZ HZ Q IZ h => ?_⟩
  obtain ⟨hs, ht⟩ := h
  refine wpAny_Call_Name_kw (thn ((pe_var (pos := p1) (i := i) hN hv hd hcd).run pinsZ sZ σZ HZ (fun v H1 => v = .ref f ∧ H1 = HZ) IZ ⟨.ref f, hs, rfl, rfl⟩) fun u0 s1 z => ?_)
  obtain ⟨v0, H1, I1, r1, rfl, rfl⟩ := z
  obtain rfl : u0 = Value.ref f := r1
  have there : ∀ {s2 : Shared} {σ2 : L2.St} {H2 : Hp}, Inv (cxOf (L2.CX X.prog X.w) X.prog X.w X.K X.mg X.base Ng qg sg g cdg X.A X.stack s H Eg) pinsZ σ2 H2 s2 → s2.heap.get? f = some (PySem.W.kla_obj "<lambda>" (X.env.qual ++ "<lambda>") params body scope (cloFrom X.env.cells scope.names []) pm c' ctv) :=
    fun I2 => I2.base.keep f _ hf hfn hfr (fun z => nomatch (show f ∈ ([] : List Addr) from z))
  refine PySem.W.callWith_F ⟨_, _, _, _, there I1⟩ (thn (ha.run p2 pinsZ s1 σZ _ _ I1 ht) fun us s2 z => ?_) he (by rfl)
  obtain ⟨vs, H2, I2, rv, y, rfl, hc, htb⟩ := z
  have of2 := there I2
  refine ⟨⟨_, _, _, _, of2⟩, ?_⟩
  cases rv with
  | @cons _ u _ _ ry rn =>
  cases rn
  have un : Un (frs X.stack) [] H H2 s.heap s2.heap := I2.base
  obtain ⟨⟨oc, vs, t, hoc, hdc, hvc⟩, _, _⟩ := I2.hok c' _ hc
  have rc : codeAny (model X.prog X.w) (X.A.deeper (envOfC qg sg s.heap.objs.size g cdg)) (.call (.ref f) ⟨[u], []⟩) (CR (L2.CX X.prog X.w) (envOfC qg sg s.heap.objs.size g cdg :: X.stack) X.prog X.w H2 s2 Q E0) s2 := by
    refine PySem.W.kla_callFunE hr.depth of2 rfl L.co L.gen rfl ⟨c', oc, vs, t, rfl, hoc, hdc, hvc⟩ ?_
    rw [hbind]
    refine wpAny_pure (wpAny_newFunctionEnv (fun y hy => (L.own y hy).2) (fun q hq => ?_) (fun h₁ hns hsb => ⟨I2.nolimit.fresh _ hsb, ?_⟩) L.kd)
    · rw [List.mem_singleton.mp hq]
      exact L.par
    · have kp : ∀ b o, s2.heap.get? b = some o → h₁.get? b = some o := fun b o z => hsb.extBut b o (Nat.ne_of_lt (Heap.lt_size z)) (Heap.get?_push_of_some _ z)
      have J := lamP_start (f := f) (c' := c') (tk := s2.toks + ([(a, u)] : List (Str × Value)).length) I L hna I2.env0 hr.hd un ry hns kp
      refine PySem.W.kla_codeExpr (wpAny_mono ((hbody _ _ s2 H2 (hr.deeper _)).run [] _ _ H2 Q J htb) (fun v s' z => ?_) fun er s' z => z)
      obtain ⟨w', H', J', rv', q'⟩ := z
      exact ⟨w', H', J'.os, J'.bare, J'.base, J'.hok, rv', q'⟩
  refine wpAny_call (codeAny_mono rc fun r s' z => ?_)
  cases r with
  | error er => exact (passL (X := cxOf (L2.CX X.prog X.w) X.prog X.w X.K X.mg X.base Ng qg sg g cdg X.A X.stack s H Eg) pinsZ σZ H2 s2 er s' I2 z)
  | ok fl =>
    cases fl with
    | ret u' => exact I2.after z
    | next => exact False.elim z
    | brk => exact False.elim z
    | cont => exact False.elim z
end
end Tk

/-! ### x(lambda a: body, e, ..) by the body of x -/
namespace Tk
open PySem PySem.Spec PyProof.Rows L2 LamX
/-- a def that makes a function, its code object known -/
theorem FnP.okFc {P : Program} {w : World} {K : PySem.W.Frag} {mg : Str → Option Value} {base : Heap} {x qual : Str} {st : Stmt} {f : Addr} {N ps : List Str} {k : Nat} {sp : Sp} (F : ∃ fd, FnP K x qual st f fd) (S : FnScope N ps (defScope st))
    (hb : ∀ (kV doc pm : Value) (an : Option Addr) (cdv ct : Value) (us : List Value), us.length = ps.length → bindArgs (PySem.W.fnOf x qual (defArgs st) (defBody st) (defScope st) .none kV doc pm an cdv ct) ⟨us, []⟩ = pure (ps.zip us))
    (len : ∀ vs H Q E, sp vs H Q E → vs.length = ps.length)
    (hbody : ∀ (cdv : Value) (A : Around) (outer : List Env) (s : Shared) (H : Hp) (vs : List V) (Q : VK) (E : XK), cdv = .ref (codeAt K f) → Room k (A.deeper (envOfC qual (defScope st) s.heap.objs.size f cdv)) → sp vs H Q E →
      ∃ t, PSs (cxOf (L2.CX P w) P w K mg base N qual (defScope st) f cdv A outer s H E) (defBody st) t ∧ t { nx := fun _ H' => Q .non H', rt := Q } (start N vs) H) : OkF P w K mg base (k + 1) f ps sp := by
  obtain ⟨fd, F⟩ := F
  have hB := F.bindsN hb
  have kp := F.kp
  obtain ⟨oc, od, dV, kV, doc, pm, an, cdv, ct, osl, rfl, lk, hcd, _, _⟩ := F.ex
  exact ⟨⟨_, fn_of lk hcd S len fun A outer s H vs Q E hr hsp => hbody cdv A outer s H vs Q E (codeAt_eq lk rfl hcd) hr hsp, hB⟩, kp⟩
/-- the running def's code object has a table of T, under the name of its functions -/
def TabX (X : Cx) (T : List (Addr × Str)) : Prop := ∃ c P, TabB X.base X.mg c P ∧ X.env.code = .ref c ∧ (P, X.env.qual ++ "<lambda>") ∈ T ∧ ∀ p ∈ T, p.1 = P → p.2 = X.env.qual ++ "<lambda>"
/-- the context of the def that got the function -/
abbrev cxG (X : Cx) (Ng : List Str) (x : Str) (stg : Stmt) (g : Addr) (cdg : Value) (s : Shared) (H : Hp) : Cx := cxOf (L2.CX X.prog X.w) X.prog X.w X.K X.mg X.base Ng x (defScope stg) g cdg X.A X.stack s H E0
/-- the calls of the function that stands in the first slot -/
def Acts (Z : Cx) (b : Str) (f c' : Addr) (q : Str) (tl : V → Hp → VK → Prop) : Prop :=
  ∀ (e : Expr) (te : TA) (p1 p2 : Pos), PA Z [e] te → starEach [e] Z.env = (false, eval e Z.env) :: starEach [] Z.env →
    PE Z (.Call (.Name b p1) [e] [] p2) (fun σZ HZ Q => σZ[0]? = some (some (.ref f)) ∧ te σZ HZ fun vs HZ1 => ∃ y, vs = [y] ∧ HZ1 c' = some (CodeO c' q) ∧ tl y HZ1 Q)
def tLamN (T : List (Addr × Str)) (q : Str) (n : Nat) (ta : TA) (tb : TE) (TT : Addr → (V → Hp → VK → Prop) → List V → Hp → VK → Prop) : TE := fun σ H Q =>
  Tabs T H ∧ ∀ c' H1, ExtN H H1 → Tabs T H1 → H1 c' = some (CodeO c' q) → ta σ H1 fun ys H2 => ys.length + 1 = n ∧ TT c' (fun y H' Q' => tb (σ ++ [some y]) H' Q') ys H2 Q
theorem pe_lamcallN {X : Cx} {T : List (Addr × Str)} {x a b : Str} {g : Addr} {k : Nat} {stg : Stmt} {Ng ps : List Str} {params : Arguments} {body : Expr} {scope : Scope} {es : List Expr} {ta : TA} {tb : TE} {TT : Addr → (V → Hp → VK → Prop) → List V → Hp → VK → Prop} {p lpos pos : Pos}
    (hg : Gl X x) (hm : X.mg x = some (.ref g)) (Fg : ∃ fd, FnP X.K x x stg g fd) (Sg : FnScope Ng ps (defScope stg))
    (hbg : ∀ (kV doc pm : Value) (an : Option Addr) (cdv ct : Value) (us : List Value), us.length = ps.length → bindArgs (PySem.W.fnOf x x (defArgs stg) (defBody stg) (defScope stg) .none kV doc pm an cdv ct) ⟨us, []⟩ = pure (ps.zip us))
    (hG : ∀ (cdg : Value) (f c' : Addr) (s : Shared) (H : Hp) (ys : List V) (Q : VK) (tl : V → Hp → VK → Prop), Acts (cxG X Ng x stg g cdg s H) b f c' (X.env.qual ++ "<lambda>") tl → TT c' tl ys H Q →
      ∃ t, PSs (cxG X Ng x stg g cdg s H) (defBody stg) t ∧ t { nx := fun _ H' => Q .non H', rt := Q } (L2.start Ng (.ref f :: ys)) H)
    (tx : TabX X T) (hr : Room (k + 2) X.A) (L : LamP X.env.scope scope a) (hna : a ∉ X.N) (hdef : defaultsOf params X.env = ([], []))
    (hbind : ∀ (q : Str) (cl : List (Str × Addr)) (pm cv ctv : Value) (v : Value), bindArgs (PySem.W.kla_fn "<lambda>" q params body scope cl pm cv ctv) ⟨[v], []⟩ = pure [(a, v)])
    (hbody : ∀ (A : Around) (outer : List Env) (s : Shared) (H : Hp) (f c' : Addr), Room k (A.deeper (lamEnv X scope s.heap.objs.size f c')) → PE (lamCxP X a A outer s H scope f c') body tb) (ha : PA X es ta)
    (hN : Ng[0]? = some b := by rfl) (hv : Vis (defScope stg) b := by first | exact .inl rfl | exact .inl (by decide +kernel)) (hdb : (x == ("__debug__" : Str)) = false := by decide) (hd : (b == ("__debug__" : Str)) = false := by decide) (hcd0 : (b == ("__classdict__" : Str)) = false := by decide)
    (he : starEach (.Lambda params body scope lpos :: es) X.env = (false, eval (.Lambda params body scope lpos) X.env) :: starEach es X.env := by rfl) (hpl : (backTo pos (starEach es X.env)).any (·.1) = false := by rfl) (hst : frs X.stack = X.env.locals :: X.fs := by rfl) :
    PE X (.Call (.Name x p) (.Lambda params body scope lpos :: es) [] pos) (tLamN T (X.env.qual ++ "<lambda>") ps.length ta tb TT) := by
  refine ⟨fun pins s σ H Q I h => ?_⟩
  obtain ⟨hT, h⟩ := h
  obtain ⟨c, P, TB, hcode, hmT, hu⟩ := tx
  obtain ⟨fd, Fg⟩ := Fg
  have hB := Fg.bindsN hbg
  have kp := Fg.kp
  obtain ⟨oc, od, dV, kV, doc, pm, an, cdv, ct, osl, rfl, lk, hcd, _, _⟩ := Fg.ex
  refine wpAny_Call_Name_kw (ld_glob I hg hm ?_ hdb)
  refine PySem.W.callWith_K (h₀ := X.base) I.ok.mod.kin kp ?_ he hpl
  rw [he]
  show wpAny _ _ (spliced ((false, eval (.Lambda params body scope lpos) X.env) :: backTo pos (starEach es X.env))) _ _ s
  have hfree : ∀ y ∈ scope.names, y.2 = .free → ∃ c, X.env.cells.lookup y.1 = some c := fun y hy e => (L.fre y hy e).elim (fun z => I.ok.has _ (.inl z)) fun z => I.ok.has _ (.inr z)
  refine Calls.spliced_cons (lam_make2 I TB hcode hmT hu hT hdef hfree fun f c' pm' ctv H1 s' I1 eN T1 hf hfn hfr hco => ?_)
  have hfl : f ≠ X.env.locals ∧ f ∉ X.fs := by
    rw [hst] at hfr
    exact ⟨fun z => hfr (List.mem_cons.mpr (.inl z)), fun z => hfr (List.mem_cons.mpr (.inr z))⟩
  have I1p : Inv X ((f, PySem.W.kla_obj "<lambda>" (X.env.qual ++ "<lambda>") params body scope (cloFrom X.env.cells scope.names []) pm' c' ctv) :: pins) σ H1 s' := I1.pins_of fun q hq => by
    rcases List.mem_cons.mp hq with e | e
    · subst e
      exact ⟨hf, hfn, hfl.1, hfl.2, fun v z => by cases z⟩
    · exact I1.pin q (List.mem_append_right _ e)
  refine thn (ha.run pos _ s' σ H1 _ I1p (h c' H1 eN T1 hco)) fun us s2 ⟨ys, H2, I2, rv, hlen, q2⟩ => ?_
  have hp2 := I2.pin (f, PySem.W.kla_obj "<lambda>" (X.env.qual ++ "<lambda>") params body scope (cloFrom X.env.cells scope.names []) pm' c' ctv) (List.mem_append_right _ (List.mem_cons_self ..))
  have J : Inv X pins σ H2 s2 := I2.pins_of fun q hq => I2.pin q (List.mem_append_right _ (List.mem_cons_of_mem _ hq))
  refine ⟨J.kIn, ?_⟩
  have hl2 : us.length = ys.length := rv.length.symm
  have rc : codeAny (model X.prog X.w) X.A (.call (.ref g) ⟨.ref f :: us, []⟩) (CR (L2.CX X.prog X.w) X.stack X.prog X.w H2 s2 Q E0) s2 := by
    refine run_ofS (N := Ng) (ps := ps) (us := .ref f :: us) (vs := .ref f :: ys) lk hcd Sg (hr.mono (Nat.le_refl _)) J.env0 (by simpa using hB s2 (.ref f :: us) J.kIn (by simp; omega)) (.cons rfl rv) (by simp; omega) fun hr' => ?_
    exact hG cdv f c' s2 H2 ys Q _ (fun e te p1 p2 pe hst' => pe_act1 (i := 0) J L hna hp2.1 hp2.2.1 hfr (hbind _ _ _ _ _) hr' (fun A outer s H hr2 => hbody A outer s H f c' hr2) hN hv pe hst' hd hcd0) q2
  refine wpAny_call (codeAny_mono rc fun r s3 hq => ?_)
  cases r with
  | error e => exact passL pins σ H2 s2 e s3 J hq
  | ok fl =>
    cases fl with
    | ret u => exact J.after hq
    | next => exact False.elim hq
    | brk => exact False.elim hq
    | cont => exact False.elim hq
end Tk

/-! ### The source of numbers -/
namespace Tk
open PySem PySem.Spec PyProof.Rows L2
/-- what the list of the source holds -/
def DSt (cs : List V) : Prop := ∃ (s g : Int) (ns : List Int), cs = V.int s :: V.int g :: ns.map V.int ∧ 0 ≤ s ∧ s < 2147483647 ∧ 0 ≤ g ∧ (∀ n ∈ ns, (0 : Int) ≤ n) ∧ ns.length ≤ 63
def spRandom (K : PySem.W.Frag) : Sp := fun vs H Q _ => ∃ (a : Addr) (ns : List Int) (salt : Int), vs = [.ref a, .int salt] ∧ SqL K H a (ns.map V.int) ∧ ns.length ≤ 63 ∧ 0 ≤ salt ∧ salt < 1000 ∧
  ∀ (d : Addr) (cs : List V) (H' : Hp), H d = none → Same H H' → H' d = some (.lst cs) → DSt cs → Q (.ref d) H'
def spBelow : Sp := fun vs H Q _ => ∃ (d : Addr) (lim : Int) (cs : List V), vs = [.ref d, .int lim] ∧ 0 < lim ∧ lim < 1073741824 ∧ H d = some (.lst cs) ∧ DSt cs ∧
  ∀ (r : Int) (cs' : List V), 0 ≤ r → r < lim → DSt cs' → Q (.int r) (upd H d (.lst cs'))
theorem int_at {ns : List Int} {i : Nat} {y : V} (h : (ns.map V.int)[i]? = some y) : ∃ u, y = V.int u ∧ ns[i]? = some u := by
  rw [List.getElem?_map] at h
  cases e : ns[i]? with
  | none => rw [e] at h; cases h
  | some u => rw [e] at h; exact ⟨u, (Option.some.inj h).symm, rfl⟩
theorem ixn {n i : Nat} (h : i < n) : ixN n (i : Int) = some i := by
  unfold ixN
  rw [if_pos (by omega), if_pos (by omega)]
  simp
theorem atn {xs : List V} {i : Nat} {x : V} (h : xs[i]? = some x) : atI xs (i : Int) = some x := by
  unfold atI
  rw [ixn (List.getElem?_eq_some_iff.mp h).1]
  exact h
section
variable {P : Program} {w : World} {K : PySem.W.Frag} {mg : Str → Option Value} {base : Heap}
theorem ok__law_random (T : Txt K mg) : OkF P w K mg base 1 (He.ga K "_law_random") ["_law_script", "_law_salt"] (spRandom K) := by
  refine FnP.okF T.f__law_random sc__law_random (fun _ _ _ _ _ _ us hl => match us, hl with | [_, _], _ => rfl) (fun vs H Q E h => ?_) (fun cdv A outer s H vs Q E hr h => ?_)
  · obtain ⟨a, ns, salt, rfl, _⟩ := h
    rfl
  obtain ⟨a, ns, salt, rfl, hS, hlen, h0, h1, k⟩ := h
  refine ⟨_, (pss_cons (ps_set (i := 2) sc__law_random.nd rfl (Or.inl rfl) (pv 1))
    (pss_cons (ps_for own_cx rfl (pi_listK (K := K) (pv 0)) (pg_name (i := 3) sc__law_random.nd rfl (Or.inl rfl))
      (pss_one (ps_set (i := 2) sc__law_random.nd rfl (Or.inl rfl) (pe_op op_mod (pe_op op_add (pe_op op_mul (pv 2) pe_int) (pe_callB call_abs (by rfl) T.g_abs (by decide +kernel) (pa_cons (pv 3) pa_nil))) pe_int))))
    (pss_one (ps_ret (pe_op op_cat (pe_lst (pa_cons (pv 2) (pa_cons pe_int pa_nil))) (pe_lc (own := [("_law_cell", 3)]) (g := gName 3) (tt := _) (by rfl) sc__law_random.nd (pi_listK (K := K) (pv 0)) (blkOk_by (own := [("_law_cell", 3)]) (N := N__law_random) (sc := (defScope s__law_random)) (by decide +kernel)) (fun _ _ _ _ _ => pg_name (i := 3) sc__law_random.nd rfl (Or.inl rfl)) (fun _ _ _ _ _ => (pts_one (pt_cmpR op_ge (pv 3) (pe_op op_pow pe_int pe_int) (nomark _)))) (fun _ _ _ _ _ => (pv 3)))))))), ?_⟩
  refine ⟨_, rfl, ?_⟩
  refine ⟨_, rfl, a, rfl, ⟨_, hS⟩, for_list (K := K) (a := a) (xs := ns.map V.int) (fun i σ H' => ∃ (z : Int) (v : Option V), σ = [some (.ref a), some (.int salt), some (.int z), v] ∧ H' = H ∧ 0 ≤ z ∧ z < 2147483647)
    ⟨salt, none, rfl, rfl, h0, by omega⟩ (fun i σ H' _ ⟨_, _, _, e, _⟩ => e ▸ hS) ?_ ?_⟩
  · rintro i y σ H' hi ⟨z, v, rfl, rfl, z0, z1⟩
    obtain ⟨u, rfl, hu⟩ := int_at hi
    refine ⟨_, rfl, _, _, rfl, rfl, .inl ⟨by omega, by omega⟩, _, rfl, _, rfl, _, _, rfl, rfl, _, _, rfl, rfl, (by show (0 : Int) < 2147483647; decide), ?_⟩
    refine ⟨_, _, rfl, rfl, ?_, ?_⟩
    · exact Int.emod_nonneg _ (by decide)
    · exact Int.emod_lt_of_pos _ (by decide)
  · rintro σ H' ⟨z, v, rfl, rfl, z0, z1⟩
    refine ⟨_, rfl, (by show 2 ≤ sizeLine; decide), fun l hl => ?_⟩
    have s1 : Same H' (upd H' l (.lst [.int z, .int 0])) := fun b o e => by rw [upd_ne (ne_of_none e hl)]; exact e
    refine ⟨_, rfl, a, rfl, ⟨_, s1.seq hS⟩, fun D hD => ?_⟩
    have hDl : D ≠ l := fun e => by rw [e, upd_same] at hD; cases hD
    have hD0 : H' D = none := by rw [upd_ne hDl] at hD; exact hD
    refine lc_list (K := K) (a := a) (xs := ns.map V.int) (fun i H2 => ∃ ms : List Int, H2 = upd (upd H' l (.lst [.int z, .int 0])) D (.lst (ms.map V.int)) ∧ (∀ n ∈ ms, (0 : Int) ≤ n) ∧ ms.length ≤ i)
      ⟨[], rfl, (fun n hn => by cases hn), Nat.le_refl _⟩ (fun i H2 _ ⟨ms, e, _⟩ => ?_) ?_ ?_
    · subst e
      refine Same.seq (fun b o e => ?_) hS
      rw [upd_ne (ne_of_none e hD0)]
      exact s1 b o e
    · rintro i x H2 hx ⟨ms, rfl, m0, ml⟩
      obtain ⟨u, rfl, hu⟩ := int_at hx
      have hi63 : i < 63 := by
        have := (List.getElem?_eq_some_iff.mp hu).1
        omega
      refine ⟨rfl, _, rfl, _, _, rfl, rfl, ⟨by decide, by decide, by decide⟩, _, _, rfl, rfl, _, rfl, ?_⟩
      refine ite2 (fun c => ?_) (fun c => ⟨ms, rfl, m0, by omega⟩)
      refine ⟨_, rfl, _, upd_same, Nat.lt_of_le_of_lt (m := 63) (by rw [List.length_map]; omega) (by decide), ⟨ms ++ [u], ?_, ?_, ?_⟩⟩
      · rw [upd_upd, List.map_append]
        rfl
      · intro n hn
        rcases List.mem_append.mp hn with h | h
        · exact m0 n h
        · rw [List.mem_singleton.mp h]
          have c2 : (10 : Int) ^ (18 : Int).toNat ≤ u := of_decide_eq_true c
          have : (0 : Int) ≤ 10 ^ (18 : Int).toNat := by decide
          omega
      · rw [List.length_append]
        show ms.length + 1 ≤ i + 1
        omega
    · rintro H2 ⟨ms, rfl, m0, ml⟩
      rw [List.length_map] at ml
      refine ⟨l, D, _, _, rfl, rfl, (by rw [upd_ne hDl.symm]; exact upd_same), upd_same, ?_, fun p hp => ?_⟩
      · rw [List.length_map]
        exact Nat.le_trans (m := 65) (by show 2 + ms.length ≤ 65; omega) (by decide)
      · have hpD : p ≠ D := fun e => by rw [e, upd_same] at hp; cases hp
        have hp2 : p ≠ l := fun e => by rw [e, upd_ne hDl.symm, upd_same] at hp; cases hp
        refine k p _ _ (by rw [upd_ne hpD, upd_ne hp2] at hp; exact hp) (fun b o e => ?_) upd_same ⟨z, 0, ms, rfl, z0, z1, Int.le_refl _, m0, by omega⟩
        have hb : b ≠ p := fun q => by rw [q] at e; rw [upd_ne hpD, upd_ne hp2] at hp; rw [e] at hp; cases hp
        rw [upd_ne hb, upd_ne (ne_of_none e hD0)]
        exact s1 b o e
end
end Tk

namespace Tk
open PySem PySem.Spec PyProof.Rows L2
section
variable {P : Program} {w : World} {K : PySem.W.Frag} {mg : Str → Option Value} {base : Heap}
theorem upd_eq {H H2 : Hp} {d : Addr} (e : ∀ b, b ≠ d → H2 b = H b) (o : HO) : upd H2 d o = upd H d o := by
  funext b
  unfold upd
  by_cases q : b = d
  · rw [if_pos q, if_pos q]
  · rw [if_neg q, if_neg q, e b q]
theorem gt_dec {a b : Int} : decide (b < a) = true → b < a := of_decide_eq_true
theorem ok__law_below (T : Txt K mg) : OkF P w K mg base 1 (He.ga K "_law_below") ["_law_d", "_law_limit"] spBelow := by
  refine FnP.okF T.f__law_below sc__law_below (fun _ _ _ _ _ _ us hl => match us, hl with | [_, _], _ => rfl) (fun vs H Q E h => ?_) (fun cdv A outer s H vs Q E hr h => ?_)
  · obtain ⟨d, lim, cs, rfl, _⟩ := h
    rfl
  obtain ⟨d, lim, cs, rfl, l0, l1, hd, ⟨s1, g, ns, rfl, hs0, hs1, hg, hns, hlen⟩, k⟩ := h
  refine ⟨_, (Evl.pss_cut (ps_if (PW.pt (pw_and (pt_cmpR op_eq (pe_ix (ixLK (K := K)) (pv 0) pe_int (fun _ _ => rfl)) pe_int (nomark _)) (pw_and1 (pt_cmpR op_gt (pe_callB (lenK (K := K)) (by rfl) T.g_len (by decide +kernel) (pa_cons (pv 0) pa_nil)) pe_int (nomark _))))) (pss_one (ps_asg (pe_bm PySem.F.plainAttrs_list PySem.F.slot_list_pop PySem.F.type_list_pop mt_popAt (pv 0) (pa_cons pe_int pa_nil)) (pg_sub (pv 0) pe_int set_list))) pss_nil)
    (pss_cons (ps_if (pt_cmpR op_gt (pe_ix (ixLK (K := K)) (pv 0) pe_int (fun _ _ => rfl)) pe_int (nomark _)) (pss_cons (ps_set (i := 2) sc__law_below.nd rfl (Or.inl rfl) (pe_op op_mod (pe_ix (ixLK (K := K)) (pv 0) pe_int (fun _ _ => rfl)) (pv 1)))
    (pss_cons (ps_asg (pe_op op_fdiv (pe_ix (ixLK (K := K)) (pv 0) pe_int (fun _ _ => rfl)) (pv 1)) (pg_sub (pv 0) pe_int set_list))
    (pss_one (ps_ret (pv 2))))) pss_nil)
    (pss_cons (ps_asg (pe_op op_mod (pe_op op_add (pe_op op_mul (pe_ix (ixLK (K := K)) (pv 0) pe_int (fun _ _ => rfl)) pe_int) pe_int) pe_int) (pg_sub (pv 0) pe_int set_list))
    (pss_one (ps_ret (pe_op op_mod (pe_op op_fdiv (pe_ix (ixLK (K := K)) (pv 0) pe_int (fun _ _ => rfl)) pe_int) (pv 1))))))), ?_⟩
  -- if d[1] == 0 and len(d) > 2: d[1] = d.pop(2)
  refine ⟨fun σ H2 => ∃ (g2 : Int) (ms : List Int), σ = [some (.ref d), some (.int lim), none] ∧ H2 = upd H d (.lst (V.int s1 :: V.int g2 :: ms.map V.int)) ∧ 0 ≤ g2 ∧ (∀ n ∈ ms, (0 : Int) ≤ n) ∧ ms.length ≤ 63, ?_, ?_⟩
  · have h0 : H = upd H d (.lst (V.int s1 :: V.int g :: ns.map V.int)) := by
      funext b
      unfold upd
      by_cases q : b = d
      · rw [if_pos q, q, hd]
      · rw [if_neg q]
    have no : ∃ (g2 : Int) (ms : List Int), [some (V.ref d), some (V.int lim), none] = [some (.ref d), some (.int lim), none] ∧ H = upd H d (.lst (V.int s1 :: V.int g2 :: ms.map V.int)) ∧ 0 ≤ g2 ∧ (∀ n ∈ ms, (0 : Int) ≤ n) ∧ ms.length ≤ 63 := ⟨g, ns, rfl, h0, hg, hns, hlen⟩
    refine ⟨_, rfl, d, _, 1, _, rfl, rfl, SqL.of hd, atn (i := 1) rfl, rfl, _, rfl, ?_⟩
    refine ite2 (fun c => ?_) (fun c => no)
    refine ⟨_, rfl, d, _, rfl, .inl (SqL.of hd), _, _, rfl, rfl, _, rfl, ?_⟩
    refine ite2 (fun c2 => ?_) (fun c2 => no)
    cases ns with
    | nil =>
      have : (2 : Int) < (2 : Int) := gt_dec c2
      omega
    | cons n0 ms =>
      refine ⟨_, rfl, .inl ⟨rfl, _, SqL.of hd⟩, d, _, 2, 2, _, rfl, rfl, hd, by decide, by decide, ?_, rfl, ?_⟩
      · have hl : (V.int s1 :: V.int g :: (n0 :: ms).map V.int).length = ms.length + 3 := by simp
        rw [hl]
        unfold seqIndex?
        simp
        omega
      · refine ⟨_, rfl, d, _, 1, 1, rfl, rfl, upd_same, ixn (i := 1) (by simp), ?_⟩
        refine ⟨n0, ms, rfl, ?_, hns n0 List.mem_cons_self, fun n hn => hns n (List.mem_cons_of_mem _ hn), by have := hlen; simp at this; omega⟩
        rw [upd_upd]
        rfl
  · rintro σ H2 ⟨g2, ms, rfl, rfl, hg2, hms, hml⟩
    have hd2 : upd H d (.lst (V.int s1 :: V.int g2 :: ms.map V.int)) d = some (.lst (V.int s1 :: V.int g2 :: ms.map V.int)) := upd_same
    -- if d[1] > 0
    refine ⟨_, rfl, d, _, 1, _, rfl, rfl, SqL.of hd2, atn (i := 1) rfl, _, _, rfl, rfl, _, rfl, ?_⟩
    refine ite2 (fun c => ?_) (fun c => ?_)
    · refine ⟨_, rfl, d, _, 1, _, rfl, rfl, SqL.of hd2, atn (i := 1) rfl, _, rfl, _, _, rfl, rfl, l0, ?_⟩
      refine ⟨_, rfl, d, _, 1, _, rfl, rfl, SqL.of hd2, atn (i := 1) rfl, _, rfl, _, _, rfl, rfl, ⟨l0, l1⟩, ?_⟩
      refine ⟨_, rfl, d, _, 1, 1, rfl, rfl, upd_same, ixn (i := 1) (by simp), ?_⟩
      refine ⟨_, rfl, ?_⟩
      show Q (V.int (g2 % lim)) _
      rw [upd_upd]
      exact k _ _ (Int.emod_nonneg _ (by omega)) (Int.emod_lt_of_pos _ l0) ⟨s1, g2 / lim, ms, rfl, hs0, hs1, Int.ediv_nonneg hg2 (by omega), hms, hml⟩
    · refine ⟨_, rfl, d, _, 0, _, rfl, rfl, SqL.of hd2, atn (i := 0) rfl, _, _, rfl, rfl, .inl ⟨by omega, by omega⟩, _, _, rfl, rfl, _, _, rfl, rfl, (by show (0 : Int) < 2147483647; decide), ?_⟩
      refine ⟨_, rfl, d, _, 0, 0, rfl, rfl, upd_same, ixn (i := 0) (by simp), ?_⟩
      refine ⟨_, rfl, d, _, 0, _, rfl, rfl, SqL.of upd_same, atn (i := 0) rfl, _, _, rfl, rfl, ⟨by decide, by decide⟩, _, rfl, _, _, rfl, rfl, l0, ?_⟩
      rw [upd_upd]
      exact k _ _ (Int.emod_nonneg _ (by omega)) (Int.emod_lt_of_pos _ l0) ⟨_, g2, ms, rfl, Int.emod_nonneg _ (by decide), Int.emod_lt_of_pos _ (by decide), hg2, hms, hml⟩
end
end Tk

namespace Tk
open PySem PySem.Spec PyProof.Rows L2
/-- a number that is not negative, as a value -/
abbrev vn (n : Nat) : V := .int (n : Int)
/-- all but d stands as before; d holds a source -/
structure Src (d : Addr) (H H' : Hp) : Prop where
  but : But d H H'
  at_ : ∃ cs, H' d = some (.lst cs) ∧ DSt cs
theorem But.free {d : Addr} {H H' : Hp} (b : But d H H') (hd : ∃ cs, H d = some (.lst cs)) {p : Addr} (h : H' p = none) (hd' : ∃ cs, H' d = some (.lst cs)) : H p = none := by
  cases q : H p with
  | none => rfl
  | some o =>
    by_cases e : p = d
    · obtain ⟨cs, z⟩ := hd'
      rw [e, z] at h
      cases h
    · rw [b p o e q] at h
      cases h
theorem But.refl (d : Addr) (H : Hp) : But d H H := fun _ _ _ h => h
theorem But.trans {d : Addr} {H H1 H2 : Hp} (a : But d H H1) (b : But d H1 H2) : But d H H2 := fun p o n h => b p o n (a p o n h)
theorem But.same {d : Addr} {H H1 : Hp} (a : Same H H1) : But d H H1 := fun p o _ h => a p o h
theorem But.at_d {d : Addr} {H : Hp} {o : HO} : But d H (upd H d o) := fun p u n h => by rw [upd_ne n]; exact h
theorem But.new {d p : Addr} {H : Hp} {o : HO} (h : H p = none) : But d H (upd H p o) := fun b u _ e => by rw [upd_ne (ne_of_none e h)]; exact e
theorem Same.new {p : Addr} {H : Hp} {o : HO} (h : H p = none) : Same H (upd H p o) := fun b u e => by rw [upd_ne (ne_of_none e h)]; exact e
theorem Same.free1 {H H1 : Hp} (a : Same H H1) {p : Addr} (h : H1 p = none) : H p = none := Same.free a h
/-- a pattern -/
structure Pat (ps : List Nat) : Prop where
  pos : 0 < ps.length
  len : ps.length ≤ 12
  nine : ∀ x ∈ ps, x ≤ 9
def spPattern : Sp := fun vs H Q _ => ∃ (d : Addr) (most : Nat) (cs : List V), vs = [.ref d, vn most] ∧ 0 < most ∧ most ≤ 12 ∧ H d = some (.lst cs) ∧ DSt cs ∧
  ∀ (t : Addr) (ps : List Nat) (H' : Hp), H t = none → Src d H H' → H' t = some (.tup (ps.map vn)) → Pat ps → ps.length ≤ most → Q (.ref t) H'
section
variable {P : Program} {w : World} {K : PySem.W.Frag} {mg : Str → Option Value} {base : Heap}
theorem high_of {r : Int} (h0 : 0 ≤ r) (h1 : r < 3) : ∃ v : Nat, atI [V.int 2, V.int 3, V.int 10] r = some (vn v) ∧ 0 < v ∧ v ≤ 10 := by
  have : r = ((0 : Nat) : Int) ∨ r = ((1 : Nat) : Int) ∨ r = ((2 : Nat) : Int) := by omega
  rcases this with e | e | e
  · exact ⟨2, by rw [e]; exact atn rfl, by omega, by omega⟩
  · exact ⟨3, by rw [e]; exact atn rfl, by omega, by omega⟩
  · exact ⟨10, by rw [e]; exact atn rfl, by omega, by omega⟩
theorem ok__law_pattern (T : Txt K mg) : OkF P w K mg base 2 (He.ga K "_law_pattern") ["_law_d", "_law_most"] spPattern := by
  have G__law_below : OkF P w K mg base 1 (He.ga K "_law_below") ["_law_d", "_law_limit"] spBelow := ok__law_below T
  refine FnP.okF T.f__law_pattern sc__law_pattern (fun _ _ _ _ _ _ us hl => match us, hl with | [_, _], _ => rfl) (fun vs H Q E h => ?_) (fun cdv A outer s H vs Q E hr h => ?_)
  · obtain ⟨d, most, cs, rfl, _⟩ := h
    rfl
  obtain ⟨d, most, cs, rfl, m0, m1, hd, hcs, k⟩ := h
  refine ⟨_, (pss_cons (ps_set (i := 2) sc__law_pattern.nd rfl (Or.inr rfl) (pe_ix (ixLK (K := K)) (pe_lst (pa_cons pe_int (pa_cons pe_int (pa_cons pe_int pa_nil)))) (pe_call G__law_below.one (hr.mono (by decide)) (by rfl) T.g__law_below G__law_below.kp G__law_below.two .nil passL (pa_cons (pv 0) (pa_cons pe_int pa_nil))) (fun _ _ => rfl)))
    (pss_one (ps_ret (pe_callTy (tplK (K := K)) (by rfl) T.g_tuple (by decide +kernel) (pa_cons (pe_lc (own := [("_law_k", 3)]) (g := gName 3) (tt := tYes) (by rfl) sc__law_pattern.nd (pi_range1 (by rfl) T.g_range (pa_cons (pe_op op_add pe_int (pe_call G__law_below.one (hr.mono (by decide)) (by rfl) T.g__law_below G__law_below.kp G__law_below.two .nil passL (pa_cons (pv 0) (pa_cons (pv 1) pa_nil)))) pa_nil)) (blkOk_by (own := [("_law_k", 3)]) (N := N__law_pattern) (sc := (defScope s__law_pattern)) (by decide +kernel)) (fun _ _ _ _ _ => pg_name (i := 3) sc__law_pattern.nd rfl (Or.inl rfl)) (fun _ _ _ _ _ => pts_nil) (fun _ _ _ _ _ => (pe_call G__law_below.one (hr.mono (by decide)) (by rfl) T.g__law_below G__law_below.kp G__law_below.two .nil passL (pa_cons (pv 0) (pa_cons (pv 2) pa_nil))))) pa_nil))))), ?_⟩
  -- high = [2, 3, 10][below(d, 3)]
  refine ⟨(by show 3 ≤ sizeLine; decide), fun l hl => ?_⟩
  have ndl : d ≠ l := ne_of_none hd hl
  refine ⟨_, rfl, d, 3, cs, rfl, by decide, by decide, by rw [upd_ne ndl]; exact hd, hcs, fun r cs1 r0 r1 hcs1 => ?_⟩
  obtain ⟨v, hv, v0, v1⟩ := high_of r0 r1
  refine ⟨l, _, r, _, rfl, rfl, SqL.of (by rw [upd_ne ndl.symm]; exact upd_same), hv, ?_⟩
  -- range(1 + below(d, most))
  refine ⟨_, rfl, _, rfl, d, most, cs1, rfl, by omega, by omega, upd_same, hcs1, fun r2 cs2 q0 q1 hcs2 => ?_⟩
  refine ⟨1, r2, rfl, rfl, ?_⟩
  refine ⟨_, rfl, by omega, by omega, fun D hD => ?_⟩
  rw [upd_upd] at hD ⊢
  have nDd : D ≠ d := fun e => by rw [e, upd_same] at hD; cases hD
  have nDl : D ≠ l := fun e => by rw [e, upd_ne ndl.symm, upd_same] at hD; cases hD
  have hD0 : H D = none := by rw [upd_ne nDd, upd_ne nDl] at hD; exact hD
  refine lc_range (lo := 0) (n := (1 + r2).toNat) (fun i H2 => ∃ ms : List Nat, But d H H2 ∧ (∃ cs, H2 d = some (.lst cs) ∧ DSt cs) ∧ H2 D = some (.lst (ms.map vn)) ∧ ms.length = i ∧ ∀ x ∈ ms, x ≤ 9) ?_ ?_ ?_
  · refine ⟨[], fun b o nb e => ?_, ⟨cs2, by rw [upd_ne nDd.symm, upd_same], hcs2⟩, upd_same, rfl, fun x hx => by cases hx⟩
    rw [upd_ne (ne_of_none e hD0), upd_ne nb, upd_ne (ne_of_none e hl)]
    exact e
  · rintro i H2 hi ⟨ms, hB, ⟨cs3, h3, hcs3⟩, hD2, hml, hm9⟩
    refine ⟨rfl, ?_⟩
    refine ⟨_, rfl, _, rfl, d, v, cs3, rfl, by omega, by omega, h3, hcs3, fun r4 cs4 p0 p1 hcs4 => ?_⟩
    refine ⟨ms.map vn, by rw [upd_ne nDd]; exact hD2, Nat.lt_of_le_of_lt (m := 12) (by rw [List.length_map]; omega) (by decide), ms ++ [r4.toNat], ?_, ⟨cs4, by rw [upd_ne nDd.symm, upd_same], hcs4⟩, ?_, ?_, ?_⟩
    · intro b o nb e
      rw [upd_ne (ne_of_none e hD0), upd_ne nb]
      exact hB b o nb e
    · rw [upd_same, List.map_append]
      show some (HO.lst (ms.map vn ++ [V.int r4])) = some (HO.lst (ms.map vn ++ [V.int ((r4.toNat : Nat) : Int)]))
      rw [Int.toNat_of_nonneg p0]
    · rw [List.length_append]
      show ms.length + 1 = i + 1
      omega
    · intro x hx
      rcases List.mem_append.mp hx with h | h
      · exact hm9 x h
      · rw [List.mem_singleton.mp h]
        omega
  · rintro H2 ⟨ms, hB, ⟨cs3, h3, hcs3⟩, hD2, hml, hm9⟩
    refine ⟨D, _, rfl, .inl ⟨SqL.of hD2, fun t ht => ?_⟩⟩
    have ht0 : H t = none := But.free hB ⟨_, hd⟩ ht ⟨_, h3⟩
    refine k t ms _ ht0 ⟨hB.trans (But.new ht), cs3, by rw [upd_ne (ne_of_none h3 ht)]; exact h3, hcs3⟩ upd_same ⟨by omega, by omega, hm9⟩ (by omega)
end
end Tk

namespace Tk
open PySem PySem.Spec PyProof.Rows L2
structure Parts (m : Nat) (tk cl : List Nat) (lt : Nat) : Prop where
  m2 : 2 ≤ m
  m4 : m ≤ 10000
  tkP : Pat tk
  clP : Pat cl
  l99 : lt ≤ 99
/-- at t the tuple of the parts -/
structure PartsAt (H : Hp) (t : Addr) (m : Nat) (tp : Addr) (tk : List Nat) (cp : Addr) (cl : List Nat) (lt : Nat) : Prop where
  at_ : H t = some (.tup [vn m, .ref tp, .ref cp, vn lt])
  tkA : H tp = some (.tup (tk.map vn))
  clA : H cp = some (.tup (cl.map vn))
  ok : Parts m tk cl lt
theorem PartsAt.but {d t tp cp : Addr} {H H' : Hp} {m lt : Nat} {tk cl : List Nat} {cs : List V} (p : PartsAt H t m tp tk cp cl lt) (b : But d H H') (hd : H d = some (.lst cs)) : PartsAt H' t m tp tk cp cl lt :=
  ⟨b _ _ (ne_of p.at_ hd (fun q => by cases q)) p.at_, b _ _ (ne_of p.tkA hd (fun q => by cases q)) p.tkA, b _ _ (ne_of p.clA hd (fun q => by cases q)) p.clA, p.ok⟩
theorem PartsAt.same {t tp cp : Addr} {H H' : Hp} {m lt : Nat} {tk cl : List Nat} (p : PartsAt H t m tp tk cp cl lt) (b : Same H H') : PartsAt H' t m tp tk cp cl lt :=
  ⟨b _ _ p.at_, b _ _ p.tkA, b _ _ p.clA, p.ok⟩
def spParts : Sp := fun vs H Q _ => ∃ (d : Addr) (most : Nat) (cs : List V), vs = [.ref d, vn most] ∧ 0 < most ∧ most ≤ 12 ∧ H d = some (.lst cs) ∧ DSt cs ∧
  ∀ (t tp cp : Addr) (m lt : Nat) (tk cl : List Nat) (H' : Hp), H t = none → Src d H H' → PartsAt H' t m tp tk cp cl lt → tk.length ≤ most → cl.length ≤ most → Q (.ref t) H'
def spSmall : Sp := fun vs H Q _ => ∃ (d : Addr) (cs : List V), vs = [.ref d] ∧ H d = some (.lst cs) ∧ DSt cs ∧
  ∀ (t tp cp : Addr) (m lt : Nat) (tk cl : List Nat) (H' : Hp), H t = none → Src d H H' → PartsAt H' t m tp tk cp cl lt → m ≤ 10 → tk.length ≤ 3 → cl.length ≤ 3 → lt ≤ 5 → Q (.ref t) H'
section
variable {P : Program} {w : World} {K : PySem.W.Frag} {mg : Str → Option Value} {base : Heap}
theorem three_of {a b c r : Int} (h0 : 0 ≤ r) (h1 : r < 3) : ∃ v : Int, atI [V.int a, V.int b, V.int c] r = some (V.int v) ∧ (v = a ∨ v = b ∨ v = c) := by
  have : r = ((0 : Nat) : Int) ∨ r = ((1 : Nat) : Int) ∨ r = ((2 : Nat) : Int) := by omega
  rcases this with e | e | e
  · exact ⟨a, by rw [e]; exact atn rfl, .inl rfl⟩
  · exact ⟨b, by rw [e]; exact atn rfl, .inr (.inl rfl)⟩
  · exact ⟨c, by rw [e]; exact atn rfl, .inr (.inr rfl)⟩
theorem ok__law_small (T : Txt K mg) : OkF P w K mg base 3 (He.ga K "_law_small") ["_law_d"] spSmall := by
  have G__law_below : OkF P w K mg base 1 (He.ga K "_law_below") ["_law_d", "_law_limit"] spBelow := ok__law_below T
  have G__law_pattern : OkF P w K mg base 2 (He.ga K "_law_pattern") ["_law_d", "_law_most"] spPattern := ok__law_pattern T
  refine FnP.okF T.f__law_small sc__law_small (fun _ _ _ _ _ _ us hl => match us, hl with | [_], _ => rfl) (fun vs H Q E h => ?_) (fun cdv A outer s H vs Q E hr h => ?_)
  · obtain ⟨d, cs, rfl, _⟩ := h
    rfl
  obtain ⟨d, cs, rfl, hd, hcs, k⟩ := h
  refine ⟨_, (pss_one (ps_ret (pe_tup (pa_cons (pe_op op_add pe_int (pe_call G__law_below.one (hr.mono (by decide)) (by rfl) T.g__law_below G__law_below.kp G__law_below.two .nil passL (pa_cons (pv 0) (pa_cons pe_int pa_nil)))) (pa_cons (pe_call G__law_pattern.one (hr.mono (by decide)) (by rfl) T.g__law_pattern G__law_pattern.kp G__law_pattern.two .nil passL (pa_cons (pv 0) (pa_cons pe_int pa_nil))) (pa_cons (pe_call G__law_pattern.one (hr.mono (by decide)) (by rfl) T.g__law_pattern G__law_pattern.kp G__law_pattern.two .nil passL (pa_cons (pv 0) (pa_cons pe_int pa_nil))) (pa_cons (pe_call G__law_below.one (hr.mono (by decide)) (by rfl) T.g__law_below G__law_below.kp G__law_below.two .nil passL (pa_cons (pv 0) (pa_cons pe_int pa_nil))) pa_nil))))))), ?_⟩
  refine ⟨_, rfl, d, 9, cs, rfl, by decide, by decide, hd, hcs, fun r1 c1 a1 b1 hc1 => ⟨2, r1, rfl, rfl, ?_⟩⟩
  have hB : But d H (upd H d (.lst c1)) := But.at_d
  have hd2 : upd H d (.lst c1) d = some (.lst c1) := upd_same
  generalize upd H d (.lst c1) = H2 at *
  refine ⟨_, rfl, d, 3, c1, rfl, by decide, by decide, hd2, hc1, fun tp tk H3 n3 S3 h3 p3 l3 => ?_⟩
  obtain ⟨c8, hd3, hc8⟩ := S3.at_
  refine ⟨_, rfl, d, 3, c8, rfl, by decide, by decide, hd3, hc8, fun cp cl H4 n4 S4 h4 p4 l4 => ?_⟩
  obtain ⟨c9, hd4, hc9⟩ := S4.at_
  refine ⟨_, rfl, d, 6, c9, rfl, by decide, by decide, hd4, hc9, fun r5 c5 a5 b5 hc5 => ?_⟩
  refine ⟨(by show 4 ≤ sizeLine; decide), fun t ht => ?_⟩
  have hB5 : But d H (upd H4 d (.lst c5)) := ((hB.trans S3.but).trans S4.but).trans But.at_d
  have h34 : H4 tp = some (.tup (tk.map vn)) := S4.but _ _ (ne_of h3 hd3 (fun q => by cases q)) h3
  have h35 : upd H4 d (.lst c5) tp = some (.tup (tk.map vn)) := by rw [upd_ne (ne_of h34 hd4 (fun q => by cases q))]; exact h34
  have h45 : upd H4 d (.lst c5) cp = some (.tup (cl.map vn)) := by rw [upd_ne (ne_of h4 hd4 (fun q => by cases q))]; exact h4
  have hd5 : upd H4 d (.lst c5) d = some (.lst c5) := upd_same
  generalize upd H4 d (.lst c5) = H5 at *
  obtain ⟨m, hm⟩ : ∃ m : Nat, 2 + r1 = (m : Int) := ⟨(2 + r1).toNat, by omega⟩
  obtain ⟨lt, hlt⟩ : ∃ n : Nat, r5 = (n : Int) := ⟨r5.toNat, by omega⟩
  dsimp only
  rw [hm]
  subst hlt
  refine k t tp cp m lt tk cl _ (But.free hB5 ⟨_, hd⟩ ht ⟨_, hd5⟩) ⟨hB5.trans (But.new ht), c5, by rw [upd_ne (ne_of_none hd5 ht)]; exact hd5, hc5⟩
    ⟨upd_same, by rw [upd_ne (ne_of_none h35 ht)]; exact h35, by rw [upd_ne (ne_of_none h45 ht)]; exact h45, ⟨by omega, by omega, p3, p4, by omega⟩⟩ (by omega) l3 l4 (by omega)
end
end Tk

/-! ### The mathematics of halls -/
namespace Mm
def atp (ps : List Nat) (t : Nat) : Nat := ps.getD (t % ps.length) 0
/-- tickets taken before a tick -/
def tak (tk : List Nat) : Nat → Nat
  | 0 => 0
  | t + 1 => tak tk t + atp tk t
/-- tickets called before a tick -/
def cal (tk cl : List Nat) : Nat → Nat
  | 0 => 0
  | t + 1 => min (tak tk (t + 1)) (cal tk cl t + atp cl t)
def per (tk cl : List Nat) : Nat := Nat.lcm tk.length cl.length
section
variable {tk cl : List Nat}
theorem cal_le : ∀ t, cal tk cl t ≤ tak tk t
  | 0 => Nat.le_refl _
  | t + 1 => Nat.min_le_left _ _
theorem atp_add (ps : List Nat) (t p : Nat) (h : ps.length ∣ p) : atp ps (t + p) = atp ps t := by
  unfold atp
  obtain ⟨c, rfl⟩ := h
  rw [Nat.add_mul_mod_self_left]
theorem tak_add (p : Nat) (h : tk.length ∣ p) : ∀ t, tak tk (t + p) = tak tk t + tak tk p
  | 0 => by simp [tak]
  | t + 1 => by
    rw [show t + 1 + p = (t + p) + 1 by omega]
    show tak tk (t + p) + atp tk (t + p) = tak tk t + atp tk t + tak tk p
    rw [tak_add p h t, atp_add tk t p h]
    omega
theorem tak_mono : ∀ {a b : Nat}, a ≤ b → tak tk a ≤ tak tk b := by
  intro a b h
  induction h with
  | refl => exact Nat.le_refl _
  | step _ ih => exact Nat.le_trans ih (Nat.le_add_right _ _)
/-- who waits before a tick -/
def wt (tk cl : List Nat) (t : Nat) : Nat := tak tk t - cal tk cl t
theorem wt_cal (t : Nat) : cal tk cl t + wt tk cl t = tak tk t := by
  have := cal_le (tk := tk) (cl := cl) t
  unfold wt
  omega
theorem wt_succ (t : Nat) : wt tk cl (t + 1) = wt tk cl t + atp tk t - atp cl t := by
  have h1 := wt_cal (tk := tk) (cl := cl) t
  have h2 : cal tk cl (t + 1) = min (tak tk t + atp tk t) (cal tk cl t + atp cl t) := rfl
  have h3 : tak tk (t + 1) = tak tk t + atp tk t := rfl
  unfold wt
  rw [h2, h3]
  have h4 : wt tk cl t = tak tk t - cal tk cl t := rfl
  omega
theorem cal_succ (t : Nat) : cal tk cl (t + 1) = cal tk cl t + min (wt tk cl t + atp tk t) (atp cl t) := by
  have h1 := wt_cal (tk := tk) (cl := cl) t
  have h2 : cal tk cl (t + 1) = min (tak tk t + atp tk t) (cal tk cl t + atp cl t) := rfl
  rw [h2]
  omega
theorem cal_mono {a b : Nat} (h : a ≤ b) : cal tk cl a ≤ cal tk cl b := by
  induction h with
  | refl => exact Nat.le_refl _
  | step _ ih =>
    rw [Nat.succ_eq_add_one, cal_succ]
    omega
variable {p : Nat} (hp : 0 < p) (ht : tk.length ∣ p) (hc : cl.length ∣ p)
include ht hc in
theorem wt_up (t : Nat) : wt tk cl t ≤ wt tk cl (t + p) := by
  induction t with
  | zero => simp [wt, tak, cal]
  | succ t ih =>
    rw [show t + 1 + p = (t + p) + 1 by omega, wt_succ, wt_succ, atp_add tk t p ht, atp_add cl t p hc]
    omega
include ht hc in
theorem wt_same {s : Nat} (h : wt tk cl s = wt tk cl (s + p)) : ∀ t, s ≤ t → wt tk cl t = wt tk cl (t + p) := by
  intro t hs
  induction hs with
  | refl => exact h
  | @step t _ ih =>
    rw [show t.succ + p = (t + p) + 1 by omega, Nat.succ_eq_add_one, wt_succ, wt_succ, atp_add tk t p ht, atp_add cl t p hc, ih]
/-- from the second period on each period calls the same -/
theorem now_same (hp : 0 < p) (ht : tk.length ∣ p) (hc : cl.length ∣ p) (t : Nat) (h : p ≤ t) : min (wt tk cl (t + p) + atp tk (t + p)) (atp cl (t + p)) = min (wt tk cl t + atp tk t) (atp cl t) := by
  rw [atp_add tk t p ht, atp_add cl t p hc]
  by_cases st : ∃ s, p ≤ s ∧ s ≤ t ∧ wt tk cl s + atp tk s ≤ atp cl s ∧ s < 2 * p
  · obtain ⟨s, h1, h2, h3, h4⟩ := st
    obtain ⟨r, rfl⟩ : ∃ r, s = r + p := ⟨s - p, by omega⟩
    have u := wt_up (tk := tk) (cl := cl) ht hc r
    rw [atp_add tk r p ht, atp_add cl r p hc] at h3
    have e : wt tk cl (r + 1) = wt tk cl (r + 1 + p) := by
      rw [show r + 1 + p = (r + p) + 1 by omega, wt_succ, wt_succ, atp_add tk r p ht, atp_add cl r p hc]
      omega
    have := wt_same ht hc e t (by omega)
    rw [← this]
  · have full : ∀ k s, p ≤ s → s < 2 * p → s + k * p ≤ t → atp cl (s + k * p) ≤ wt tk cl (s + k * p) + atp tk (s + k * p) := by
      intro k
      induction k with
      | zero =>
        intro s h1 h2 h3
        by_cases q : wt tk cl s + atp tk s ≤ atp cl s
        · exact absurd ⟨s, h1, by omega, q, h2⟩ st
        · simp only [Nat.zero_mul, Nat.add_zero]
          omega
      | succ k ih =>
        intro s h1 h2 h3
        rw [Nat.succ_mul] at h3 ⊢
        have := ih s h1 h2 (by omega)
        have u := wt_up (tk := tk) (cl := cl) ht hc (s + k * p)
        rw [← Nat.add_assoc, atp_add tk _ p ht, atp_add cl _ p hc]
        omega
    have e : t = p + (t - p) % p + (t - p) / p * p := by
      have := Nat.mod_add_div (t - p) p
      rw [Nat.mul_comm] at this
      omega
    have f := full ((t - p) / p) (p + (t - p) % p) (by omega) (by have := Nat.mod_lt (t - p) hp; omega) (by omega)
    rw [← e] at f
    have u := wt_up (tk := tk) (cl := cl) ht hc t
    omega
theorem cal_per (hp : 0 < p) (ht : tk.length ∣ p) (hc : cl.length ∣ p) {t : Nat} (h : p ≤ t) : cal tk cl (t + p) + cal tk cl p = cal tk cl t + cal tk cl (2 * p) := by
  induction h with
  | refl => rw [show p + p = 2 * p by omega, Nat.add_comm]
  | @step t h ih =>
    rw [show t.succ + p = (t + p) + 1 by omega, Nat.succ_eq_add_one, cal_succ, cal_succ, now_same hp ht hc t h]
    omega
theorem cal_far (hp : 0 < p) (ht : tk.length ∣ p) (hc : cl.length ∣ p) {t : Nat} (h : p ≤ t) : ∀ k, cal tk cl (t + k * p) = cal tk cl t + k * (cal tk cl (2 * p) - cal tk cl p)
  | 0 => by simp
  | k + 1 => by
    have ih := cal_far hp ht hc h k
    have m := cal_mono (tk := tk) (cl := cl) (show p ≤ 2 * p by omega)
    have q := cal_per (tk := tk) (cl := cl) hp ht hc (t := t + k * p) (by omega)
    rw [Nat.succ_mul, Nat.succ_mul, ← Nat.add_assoc]
    omega
/-- what the program reckons -/
theorem cal_is (hp : 0 < p) (ht : tk.length ∣ p) (hc : cl.length ∣ p) (t : Nat) : cal tk cl t = (t / p - 1) * (cal tk cl (2 * p) - cal tk cl p) + cal tk cl (t - (t / p - 1) * p) := by
  rcases Nat.eq_zero_or_pos (t / p - 1) with e | e
  · rw [e]
    simp
  · have h1 : t / p * p ≤ t := Nat.div_mul_le_self t p
    have h2 : (t / p - 1) * p + p = t / p * p := by
      rw [Nat.sub_mul, Nat.one_mul]
      have : p ≤ t / p * p := Nat.le_mul_of_pos_left p (by omega)
      omega
    have q := cal_far (tk := tk) (cl := cl) hp ht hc (t := t - (t / p - 1) * p) (by omega) (t / p - 1)
    rw [show t - (t / p - 1) * p + (t / p - 1) * p = t by omega] at q
    rw [q]
    exact Nat.add_comm _ _
theorem rest_lt (hp : 0 < p) (t : Nat) : t - (t / p - 1) * p < 2 * p := by
  have h := Nat.mod_add_div t p
  have m := Nat.mod_lt t hp
  rcases Nat.eq_zero_or_pos (t / p) with e | e
  · rw [e] at h ⊢
    omega
  · obtain ⟨k, hk⟩ : ∃ k, t / p = k + 1 := ⟨t / p - 1, by omega⟩
    rw [hk] at h ⊢
    rw [Nat.mul_comm, Nat.succ_mul] at h
    simp only [Nat.add_sub_cancel]
    omega
theorem take_sum (tk : List Nat) : ∀ i, i ≤ tk.length → tak tk i = (tk.take i).sum
  | 0, _ => by simp [tak]
  | i + 1, h => by
    show tak tk i + atp tk i = _
    rw [take_sum tk i (by omega)]
    unfold atp
    rw [Nat.mod_eq_of_lt (by omega), List.getD_eq_getElem?_getD, List.getElem?_eq_getElem (by omega)]
    have e : tk.take (i + 1) = tk.take i ++ [tk[i]] := by simp
    rw [e, List.sum_append]
    simp
theorem tak_mul (tk : List Nat) : ∀ q r, tak tk (r + q * tk.length) = q * tk.sum + tak tk r
  | 0, r => by simp
  | q + 1, r => by
    rw [Nat.succ_mul, ← Nat.add_assoc, tak_add tk.length (Nat.dvd_refl _), tak_mul tk q r, take_sum tk tk.length (Nat.le_refl _), List.take_length, Nat.succ_mul]
    omega
theorem tak_is (tk : List Nat) (h : 0 < tk.length) (t : Nat) : tak tk t = t / tk.length * tk.sum + (tk.take (t % tk.length)).sum := by
  rw [← take_sum tk (t % tk.length) (Nat.le_of_lt (Nat.mod_lt t h)), ← tak_mul tk (t / tk.length)]
  congr 1
  have := Nat.mod_add_div t tk.length
  rw [Nat.mul_comm] at this
  omega
theorem per_tk : tk.length ∣ per tk cl := Nat.dvd_lcm_left _ _
theorem per_cl : cl.length ∣ per tk cl := Nat.dvd_lcm_right _ _
theorem per_pos (h1 : 0 < tk.length) (h2 : 0 < cl.length) : 0 < per tk cl := Nat.lcm_pos h1 h2
theorem per_le : per tk cl ≤ tk.length * cl.length := by
  unfold per Nat.lcm
  exact Nat.div_le_self _ _
theorem atp_le {ps : List Nat} (h9 : ∀ x ∈ ps, x ≤ 9) (t : Nat) : atp ps t ≤ 9 := by
  unfold atp
  rw [List.getD_eq_getElem?_getD]
  cases e : ps[t % ps.length]? with
  | none => simp
  | some x =>
    simp only [Option.getD_some]
    exact h9 x (List.mem_of_getElem? e)
theorem tak_le {tk : List Nat} (h9 : ∀ x ∈ tk, x ≤ 9) : ∀ t, tak tk t ≤ 9 * t
  | 0 => Nat.le_refl _
  | t + 1 => by
    have h1 := tak_le h9 t
    have h2 := atp_le h9 t
    show tak tk t + atp tk t ≤ 9 * (t + 1)
    omega
end
end Mm

/-! ### The checks of arguments -/
namespace Tk
open PySem PySem.Spec PyProof.Rows L2
/-- values of the kinds that are passed -/
inductive Arg (H : Hp) : V → Prop where
  | non : Arg H .non
  | bl (b : Bool) : Arg H (.bl b)
  | int (i : Int) : Arg H (.int i)
  | str (x : Str) : Arg H (.str x)
  | lst {a : Addr} {xs : List V} (e : H a = some (.lst xs)) : Arg H (.ref a)
  | tup {a : Addr} {xs : List V} (e : H a = some (.tup xs)) : Arg H (.ref a)
def isInt : V → Bool
  | .int _ => true
  | _ => false
def inB (lo hi : Int) : V → Bool
  | .int i => decide (lo ≤ i) && decide (i ≤ hi)
  | _ => false
def spWithin : Sp := fun vs H Q _ => ∃ (v : V) (lo hi : Int), vs = [v, .int lo, .int hi] ∧ Arg H v ∧ Q (.bl (inB lo hi v)) H
section
variable {P : Program} {w : World} {K : PySem.W.Frag} {mg : Str → Option Value} {base : Heap}
theorem boot_ty_bool : bootBuiltins "bool" = some (.type "bool") := by decide +kernel
theorem boot_ty_int : bootBuiltins "int" = some (.type "int") := by decide +kernel
theorem boot_ty_str : bootBuiltins "str" = some (.type "str") := by decide +kernel
theorem boot_ty_tuple : bootBuiltins "tuple" = some (.type "tuple") := by decide +kernel
theorem boot_ty_list : bootBuiltins "list" = some (.type "list") := by decide +kernel
theorem kit_at {a b : String} {r : Bool} (h : kitB a b = some r) : PySem.W.kitOne K (.type a) (.type b) = some r := kit_ty h
/-- the type of such a value and what isinstance says of five classes -/
theorem Arg.ty {H : Hp} {v : V} (h : Arg H v) : ∃ n : String, TyX K H v (.type n) ∧ (∃ b, kitB n "bool" = some b ∧ (b = true ↔ ∃ x, v = .bl x)) ∧ (∃ b, kitB n "int" = some b ∧ (b = true ↔ ((∃ x, v = .bl x) ∨ ∃ i, v = .int i))) := by
  cases h with
  | non => exact ⟨_, .base .non, ⟨false, by decide +kernel, by simp⟩, ⟨false, by decide +kernel, by simp⟩⟩
  | bl b => exact ⟨_, .base (.bl b), ⟨true, by decide +kernel, by simp⟩, ⟨true, by decide +kernel, by simp⟩⟩
  | int i => exact ⟨_, .base (.int i), ⟨false, by decide +kernel, by simp⟩, ⟨true, by decide +kernel, by simp⟩⟩
  | str x => exact ⟨_, .base (.str x), ⟨false, by decide +kernel, by simp⟩, ⟨false, by decide +kernel, by simp⟩⟩
  | lst e => exact ⟨_, .base (.lst e), ⟨false, by decide +kernel, by simp⟩, ⟨false, by decide +kernel, by simp⟩⟩
  | tup e => exact ⟨_, .base (.tup e), ⟨false, by decide +kernel, by simp⟩, ⟨false, by decide +kernel, by simp⟩⟩
theorem ok_is_integer_within (T : Txt K mg) : OkF P w K mg base 1 (He.ga K "is_integer_within") ["value", "low", "high"] spWithin := by
  refine FnP.okF T.f_is_integer_within sc_is_integer_within (fun _ _ _ _ _ _ us hl => match us, hl with | [_, _, _], _ => rfl) (fun vs H Q E h => ?_) (fun cdv A outer s H vs Q E hr h => ?_)
  · obtain ⟨v, lo, hi, rfl, _⟩ := h
    rfl
  obtain ⟨v, lo, hi, rfl, hv, k⟩ := h
  refine ⟨_, (pss_cons (ps_if (PW.pt (pw_or (pt_val (pe_callB (isiK (K := K)) (by rfl) T.g_isinstance (by decide +kernel) (pa_cons (pv 0) (pa_cons (pe_bltn (v := .ty "bool") (by rfl) T.g_bool boot_ty_bool rfl) pa_nil)))) (pw_or1 (pt_not (pt_val (pe_callB (isiK (K := K)) (by rfl) T.g_isinstance (by decide +kernel) (pa_cons (pv 0) (pa_cons (pe_bltn (v := .ty "int") (by rfl) T.g_int boot_ty_int rfl) pa_nil)))))))) (pss_one (ps_ret pe_bl)) pss_nil)
    (pss_one (ps_ret (pe_chain op_le op_le (pv 1) (pv 0) (pv 2))))), ?_⟩
  obtain ⟨n, ty, ⟨b1, k1, e1⟩, ⟨b2, k2, e2⟩⟩ := Arg.ty (K := K) hv
  refine ⟨_, rfl, v, .ty "bool", _, _, b1, rfl, .ty "bool", ty, kit_at k1, b1, rfl, ?_⟩
  cases b1 with
  | true =>
    obtain ⟨x, rfl⟩ := e1.mp rfl
    exact k
  | false =>
    refine ⟨_, rfl, v, .ty "int", _, _, b2, rfl, .ty "int", ty, kit_at k2, b2, rfl, ?_⟩
    cases b2 with
    | false =>
      have no : inB lo hi v = false := by
        cases v with
        | int i => exact absurd (e2.mpr (.inr ⟨i, rfl⟩)) (by simp)
        | _ => rfl
      rw [no] at k
      exact k
    | true =>
      rcases e2.mp rfl with ⟨x, rfl⟩ | ⟨i, rfl⟩
      · exact absurd (e1.mpr ⟨x, rfl⟩) (by simp)
      · refine ⟨_, rfl, _, rfl, _, _, rfl, rfl, _, rfl, ?_⟩
        refine ite2 (fun c => ?_) (fun c => ?_)
        · refine ⟨_, rfl, _, _, rfl, rfl, ?_⟩
          have c1 : decide (lo ≤ i) = true := c
          show Q (V.bl (decide (i ≤ hi))) H
          have k' : Q (V.bl (decide (lo ≤ i) && decide (i ≤ hi))) H := k
          rw [c1, Bool.true_and] at k'
          exact k'
        · have c1 : decide (lo ≤ i) = false := by
            cases q : decide (lo ≤ i) with
            | true => exact absurd q c
            | false => rfl
          have k' : Q (V.bl (decide (lo ≤ i) && decide (i ≤ hi))) H := k
          rw [c1, Bool.false_and] at k'
          exact k'
end
end Tk

/-! ### for i, x in enumerate(a tuple) -/
namespace Tk
open PySem PySem.Spec PyProof.Rows L2
set_option maxHeartbeats 1000000 in
theorem meets_enum1 {v : Value} {o : Obj} {Hs : Heap → Prop} (B : Begins v o Hs) : Meets (Builtin.«enumerate.__new__» ⟨[.type "enumerate", v], []⟩) (fun _ R s => Hs s.heap ∧
    R (.ok (.ret (.ref (s.heap.push o).objs.size))) { s with heap := (s.heap.push o).push { cls := .type "enumerate", data := .fields #[.none, .bool false, .ref s.heap.objs.size, rawInt 0, .none, .none] } }) :=
  .of_wp fun prog w A R s h => by
    obtain ⟨hp, g, d, tk, os⟩ := s
    obtain ⟨b0, b1⟩ := h
    have us := sub_enumerate
    have step : ∀ {A' : Around} {E : Value → Shared → Prop} {Q : Value → Shared → Prop}, Q (.ref hp.objs.size) ⟨hp.push o, g, d, tk, os⟩ → wpAny (model prog w) A' (pyIter v) Q E ⟨hp, g, d, tk, os⟩ :=
      fun z => B.iter prog w _ _ ⟨hp, g, d, tk, os⟩ _ b0 z
    wp_walk using step
    refine wpAny_stack_any fun st => wpAny_pure ?_
    split
    · rename_i c _ _ _ _ _
      cases (c == Value.type "enumerate") <;> (wp_walk using step; exact ⟨_, rfl, b1⟩)
    · wp_walk using step
      exact ⟨_, rfl, b1⟩
theorem enum_of_tuple {prog : Program} {w : World} {A : Around} {E : Value → Shared → Prop} {s : Shared} {t : Addr} {items : Array Value} {Q : Value → Shared → Prop} (ht : s.heap.IsTuple t items)
    (h : ∀ h', IsEnum h' (s.heap.objs.size + 1) s.heap.objs.size 0 .none → h'.IsTupleIter s.heap.objs.size t 0 → (∀ b o, s.heap.get? b = some o → h'.get? b = some o) → Q (.ref (s.heap.objs.size + 1)) { s with heap := h' }) :
    wpAny (model prog w) A (call (.type "enumerate") [.ref t]) Q E s := by
  refine callType_new F.called_enumerate (by decide) (F.typeCall_enumerate_1 _) (F.newCall_enumerate_1 _) (fun obj => F.args_object_init_2 obj _) F.entry_enumerate_new (meets_enum1 (begins_tuple t items)) ⟨ht, ?_⟩
  have z : (s.heap.push { cls := .type "tuple_iterator", data := .fields #[.ref t, .int 0 0] }).objs.size = s.heap.objs.size + 1 := Heap.size_push ..
  have e2 := Heap.get?_push_size (s.heap.push { cls := .type "tuple_iterator", data := .fields #[.ref t, .int 0 0] }) (o := { cls := .type "enumerate", data := .fields #[.none, .bool false, .ref s.heap.objs.size, rawInt 0, .none, .none] }) rfl
  show _ ∧ _
  rw [z] at e2 ⊢
  exact ⟨⟨_, e2, rfl⟩, h _ e2 ⟨_, Heap.get?_push_of_some _ (Heap.get?_push_size _ rfl), rfl, rfl⟩ fun b o x => Heap.get?_push_of_some _ (Heap.get?_push_of_some _ x)⟩
/-- the tuple at a, each item in a new pair -/
def Itu (K : PySem.W.Frag) (a : Addr) : It :=
  ⟨fun i H => ∃ (xs : List V) (x : V), SqT K H a xs ∧ xs[i]? = some x, fun i H v H' => ∃ T x, v = .ref T ∧ H T = none ∧ H' = upd H T (.tup [vnI i, x]) ∧ ∀ xs, SqT K H a xs → xs[i]? = some x, fun i H => ∃ xs : List V, SqT K H a xs ∧ xs.length ≤ i⟩
/-- an iterator at a tuple's end -/
theorem draws_end {prog : Program} {w : World} {A : Around} (hh : A.handled = none) (it t : Addr) (i : Nat) (items : Array Value) (hx : items[i]? = none) :
    Draws prog w A it [it, t] i (fun _ _ => False) (fun j h => j = i ∧ h.IsTupleIter it t i ∧ h.IsTuple t items) where
  live := fun _ _ st => let ⟨_, ⟨o, ho, _⟩, _⟩ := st; ⟨o, ho⟩
  frame := fun _ _ _ st hk => by
    obtain ⟨e, ⟨o, ho, r⟩, o2, ho2, r2⟩ := st
    exact ⟨e, ⟨o, hk it (by simp) o ho, r⟩, o2, hk t (by simp) o2 ho2, r2⟩
  item := fun j s Q E hj st _ => absurd st.1 (by omega)
  done := fun s Q E st hE => wpAny_nextOf_tuple_end hh st.2.1 st.2.2 hx hE
theorem turn_enumT {P : Program} {w : World} {K : PySem.W.Frag} {elts : List Expr} {kk : Nat} {tpos : Pos} (a e it : Addr) (h1 : e ≠ it) (h2 : a ≠ it) (h3 : a ≠ e) :
    Turn P w K (.Tuple elts kk tpos) (Itu K a) [e, it] e (fun i h => (∃ old, IsEnum h e it ((i : Nat) : Int) old) ∧ h.IsTupleIter it a i) where
  mem := List.mem_cons_self
  obj := fun i h st b hb => by
    obtain ⟨⟨old, he⟩, o, ho, hc, hd⟩ := st
    rcases List.mem_cons.mp hb with z | z
    · rw [z]
      exact ⟨_, he, fun v q => nomatch q⟩
    · exact ⟨o, by rw [List.mem_singleton.mp z]; exact ho, fun v q => by rw [hd] at q; cases q⟩
  keep := fun i h h' st k => by
    obtain ⟨⟨old, he⟩, o, ho, r⟩ := st
    exact ⟨⟨old, k e (by simp) _ he⟩, o, k it (by simp) o ho, r⟩
  item := by
    intro X hP hw hK hc i pins s σ H E I hf st hg
    subst hP hw hK
    obtain ⟨⟨old, he⟩, hit⟩ := st
    obtain ⟨xs, x, hq, hx⟩ := hg
    obtain ⟨its, rv, p, hz⟩ := I.tuple hq
    obtain ⟨u, hu, ru⟩ := rv.get hx
    have le : e < s.heap.objs.size := Heap.lt_size he
    have li : it < s.heap.objs.size := by
      obtain ⟨_, q, _⟩ := hit
      exact Heap.lt_size q
    have hi : i < its.toArray.size := by
      have := (List.getElem?_eq_some_iff.mp hu).1
      simpa using this
    refine wpAny_pyNext_enum_itemD (Draws.tuple (A := X.A.in1) (I.ok.hd hc) it a h2 its.toArray) he ⟨hit, istup_old p⟩ hi h1 (by simp [h1, h3.symm]) fun y h' tk hy ho hs hT hsz hk => ?_
    have ey : y = u := by
      have q : its[i]? = some y := by simpa using hy
      rw [hu] at q
      exact (Option.some.inj q).symm
    subst ey
    refine ⟨_, rfl, wpAny_letOwnedTupleGo_enum (s := { s with heap := h', toks := tk + 1 }) ho fun h2' he2 sb => ?_⟩
    have T2 : h2'.get? s.heap.objs.size = some { cls := .type "tuple", data := .seq #[.int i tk, y] } := (sb.2 _ (Nat.ne_of_gt le)).trans hT
    have I1 := I.turnedNew (t' := tk + 1) (ch := [e, it]) (h' := h2') (T := s.heap.objs.size) (ob := .tup [vnI i, x]) (fun b ob hb q => (sb.2 b (fun z => hb (by simp [z]))).trans (hk b ob (fun z => hb (by simp [z])) (fun z => hb (by simp [z])) q)) hf (Nat.le_refl _)
      ⟨by show 2 ≤ sizeLine; decide, [.int i tk, y], .cons ⟨_, rfl⟩ (.cons ru .nil), ⟨_, T2, rfl, _, rfl⟩⟩
    refine ⟨.ref s.heap.objs.size, _, I1, rfl, ⟨_, x, rfl, I.hok.fresh (Nat.le_refl _), rfl, fun ys hy2 => by rw [I.tuple_inj hy2 hq]; exact hx⟩, ⟨⟨y, ?_⟩, ?_⟩, fun b hb => ?_⟩
    · rw [show ((i + 1 : Nat) : Int) = (i : Int) + 1 by omega]
      exact he2
    · obtain ⟨⟨o, ho2, r⟩, _⟩ := hs
      exact ⟨o, (sb.2 it h1.symm).trans ho2, r⟩
    · have lb : b < s.heap.objs.size := by
        rcases List.mem_cons.mp hb with z | z
        · rw [z]; exact le
        · rw [List.mem_singleton.mp z]; exact li
      rw [upd_ne (Nat.ne_of_lt lb)]
      exact (hf b hb).1
  done := by
    intro X hP hw hK hc i pins s σ H E I hf st hg
    subst hP hw hK
    obtain ⟨⟨old, he⟩, hit⟩ := st
    obtain ⟨xs, hq, hx⟩ := hg
    obtain ⟨its, rv, p, hz⟩ := I.tuple hq
    have hl := rv.length
    refine wpAny_pyNext_enum_endD (draws_end (A := X.A.in1) (I.ok.hd hc) it a i its.toArray (by simp; omega)) he ⟨rfl, hit, istup_old p⟩ fun h' q => ⟨rfl, ?_⟩
    exact I.turnedL (t' := s.toks) (ch := [it]) (fun b o hb r => q b o (fun z => hb (by simp [z])) r) fun b hb => hf b (by rw [List.mem_singleton.mp hb]; simp)
  self := fun A i s Q E st h => by
    obtain ⟨⟨_, he⟩, _⟩ := st
    exact wpAny_pyIter_enum he h
def iEnumT (K : PySem.W.Frag) (ta : TA) : TI := fun σ H R => ta σ H fun vs H1 => ∃ a xs, vs = [.ref a] ∧ SqT K H1 a xs ∧ R (Itu K a) H1
theorem pi_enumT {X : Cx} {e : Expr} {ta : TA} {p pos tpos : Pos} {elts : List Expr} {kk : Nat} (hg : Gl X "enumerate") (hm : X.mg "enumerate" = none) (ha : PA X [e] ta) (hs : starEach [e] X.env = [(false, eval e X.env)] := by rfl) :
    PI X (.Tuple elts kk tpos) (.Call (.Name "enumerate" p) [e] [] pos) (iEnumT X.K ta) := by
  refine ⟨fun pins s σ H R I h => Call_ (ld_blt I hg hm boot_enumerate (PyProof.Rows.callWith_type1 (thn (ha.run pos pins s σ H _ I h) fun us s1 ⟨vs, H1, I1, r1, q1⟩ => ?_) hs rfl))⟩
  obtain ⟨a, xs, rfl, hq, q⟩ := q1
  cases r1 with
  | cons r rr =>
    cases rr
    cases r
    obtain ⟨its, rv, p', hz⟩ := I1.tuple hq
    have la : a < s1.heap.objs.size := p'.lt
    refine enum_of_tuple (istup_old p') fun h' he hit hk => wpAny_pyIter_enum he ?_
    refine ⟨s1.heap.objs.size + 1, [s1.heap.objs.size + 1, s1.heap.objs.size], _, _, H1, rfl, I1.kept (t' := s1.toks) hk, turn_enumT a (s1.heap.objs.size + 1) s1.heap.objs.size (Nat.succ_ne_self _) (Nat.ne_of_lt la) (Nat.ne_of_lt (Nat.lt_succ_of_lt la)), ⟨⟨.none, he⟩, hit⟩, fun b hb => ?_, q⟩
    have hle : s1.heap.objs.size ≤ b := by
      rcases List.mem_cons.mp hb with z | z
      · rw [z]; exact Nat.le_succ _
      · rw [List.mem_singleton.mp z]; exact Nat.le_refl _
    exact I1.fpOk hle (I1.hok.fresh hle)
/-- its loop -/
theorem for_enumT {K : PySem.W.Frag} {a : Addr} {xs : List V} {g : TG} {tb : TS} {D : Ends} {σ : L2.St} {H : Hp} (Pv : Nat → L2.St → Hp → Prop) (h0 : Pv 0 σ H) (hl : ∀ i σ H, i ≤ xs.length → Pv i σ H → SqT K H a xs)
    (hs : ∀ i x σ H, xs[i]? = some x → Pv i σ H → ∀ T, H T = none → g (.ref T) σ (upd H T (.tup [vnI i, x])) fun σ2 H2 => tb { D with nx := Pv (i + 1), ct := Pv (i + 1), bk := D.nx } σ2 H2) (hd : ∀ σ H, Pv xs.length σ H → D.nx σ H) :
    ∃ W : Nat → Nat → L2.St → Hp → Prop, (∃ m, W 0 m σ H) ∧ ∀ i m σ H, W i m σ H →
      ((Itu K a).stop i H ∧ D.nx σ H) ∨ ((Itu K a).go i H ∧ ∃ N : L2.St → Hp → Prop, (∀ σ' H', N σ' H' → ∃ m', m' < m ∧ W (i + 1) m' σ' H') ∧ ∀ x H', (Itu K a).yld i H x H' → g x σ H' fun σ2 H2 => tb { D with nx := N, ct := N, bk := D.nx } σ2 H2) := by
  refine ⟨fun i m σ H => m = xs.length - i ∧ i ≤ xs.length ∧ Pv i σ H, ⟨_, rfl, Nat.zero_le _, h0⟩, fun i m σ H w => ?_⟩
  obtain ⟨rfl, hi, p⟩ := w
  have sq := hl i σ H hi p
  rcases Nat.lt_or_ge i xs.length with lt | ge
  · have at_ : xs[i]? = some xs[i] := by simp [lt]
    refine .inr ⟨⟨xs, xs[i], sq, at_⟩, Pv (i + 1), fun σ' H' p' => ⟨_, (by omega : xs.length - (i + 1) < xs.length - i), rfl, lt, p'⟩, fun x H' y => ?_⟩
    obtain ⟨T, x', rfl, hT, rfl, hx⟩ := y
    exact hs i x' σ H (hx xs sq) p T hT
  · obtain rfl : i = xs.length := by omega
    exact .inl ⟨⟨xs, sq, Nat.le_refl _⟩, hd σ H p⟩
end Tk

/-! ### The checks, of what is valid -/
namespace Tk
open PySem PySem.Spec PyProof.Rows L2
def spTick : Sp := fun vs H Q _ => ∃ t : Int, vs = [.int t] ∧ 0 ≤ t ∧ t ≤ 1000000000000000000 ∧ Q .non H
def spFii : Sp := fun vs H Q _ => ∃ (p : Addr) (ps : List Nat), vs = [.ref p] ∧ H p = some (.tup (ps.map vn)) ∧ Pat ps ∧ ∀ H', Same H H' → Q .non H'
def spChk : Sp := fun vs H Q _ => ∃ (v : V) (p : Addr) (ps : List Nat), vs = [v, .ref p] ∧ H p = some (.tup (ps.map vn)) ∧ Pat ps ∧ ∀ H', Same H H' → Q .non H'
def spChall : Sp := fun vs H Q _ => ∃ (tp cp : Addr) (m lt : Nat) (tk cl : List Nat), vs = [vn m, .ref tp, .ref cp, vn lt] ∧ H tp = some (.tup (tk.map vn)) ∧ H cp = some (.tup (cl.map vn)) ∧ Parts m tk cl lt ∧ ∀ H', Same H H' → Q .non H'
theorem inB_in {lo hi i : Int} (h1 : lo ≤ i) (h2 : i ≤ hi) : inB lo hi (.int i) = true := by
  show (decide (lo ≤ i) && decide (i ≤ hi)) = true
  rw [decide_eq_true h1, decide_eq_true h2]
  rfl
theorem Same.upd2 {H : Hp} {a : Addr} {o : HO} (h : H a = none) {H0 : Hp} (s : Same H0 H) : Same H0 (upd H a o) := s.trans (Same.new h)
section
variable {P : Program} {w : World} {K : PySem.W.Frag} {mg : Str → Option Value} {base : Heap}
theorem ok_check_tick (T : Txt K mg) : OkF P w K mg base 2 (He.ga K "check_tick") ["tick"] spTick := by
  have G_is_integer_within : OkF P w K mg base 1 (He.ga K "is_integer_within") ["value", "low", "high"] spWithin := ok_is_integer_within T
  refine FnP.okF T.f_check_tick sc_check_tick (fun _ _ _ _ _ _ us hl => match us, hl with | [_], _ => rfl) (fun vs H Q E h => ?_) (fun cdv A outer s H vs Q E hr h => ?_)
  · obtain ⟨t, rfl, _⟩ := h
    rfl
  obtain ⟨t, rfl, t0, t1, k⟩ := h
  refine ⟨_, (pss_one (ps_if (pt_not (pt_val (pe_call G_is_integer_within.one (hr.mono (by decide)) (by rfl) T.g_is_integer_within G_is_integer_within.kp G_is_integer_within.two .nil passL (pa_cons (pv 0) (pa_cons pe_int (pa_cons (pe_gint (by rfl) T.c_LAST_TICK) pa_nil)))))) (pss_one ps_never) pss_nil)), ?_⟩
  refine ⟨_, rfl, .int t, 0, 1000000000000000000, rfl, .int t, true, by rw [inB_in t0 t1], ?_⟩
  exact k
theorem ok_first_invalid_item (T : Txt K mg) : OkF P w K mg base 2 (He.ga K "first_invalid_item") ["pattern"] spFii := by
  have G_is_integer_within : OkF P w K mg base 1 (He.ga K "is_integer_within") ["value", "low", "high"] spWithin := ok_is_integer_within T
  refine FnP.okF T.f_first_invalid_item sc_first_invalid_item (fun _ _ _ _ _ _ us hl => match us, hl with | [_], _ => rfl) (fun vs H Q E h => ?_) (fun cdv A outer s H vs Q E hr h => ?_)
  · obtain ⟨p, ps, rfl, _⟩ := h
    rfl
  obtain ⟨p, ps, rfl, hp, hP, k⟩ := h
  refine ⟨_, (pss_cons (ps_if (PW.pt (pw_or (pt_not (pt_val (pe_callB (isiK (K := K)) (by rfl) T.g_isinstance (by decide +kernel) (pa_cons (pv 0) (pa_cons (pe_bltn (v := .ty "tuple") (by rfl) T.g_tuple boot_ty_tuple rfl) pa_nil))))) (pw_or1 (pt_cmpR op_eq (pe_callB (lenK (K := K)) (by rfl) T.g_len (by decide +kernel) (pa_cons (pv 0) pa_nil)) pe_int (nomark _))))) (pss_one (ps_ret pe_int)) pss_nil)
    (pss_cons (ps_for own_cx rfl (pi_enumT (by rfl) T.g_enumerate (pa_cons (pv 0) pa_nil)) (pg_tup rfl (pgs_cons (pg_name (i := 1) sc_first_invalid_item.nd rfl (Or.inl rfl)) (pgs_cons (pg_name (i := 2) sc_first_invalid_item.nd rfl (Or.inl rfl)) pgs_nil)))
      (pss_one (ps_if (PW.pt (pw_or (pt_cmpR op_eq (pv 1) (pe_gint (by rfl) T.c_MOST_ITEMS) (nomark _)) (pw_or1 (pt_not (pt_val (pe_call G_is_integer_within.one (hr.mono (by decide)) (by rfl) T.g_is_integer_within G_is_integer_within.kp G_is_integer_within.two .nil passL (pa_cons (pv 2) (pa_cons pe_int (pa_cons (pe_gint (by rfl) T.c_GREATEST_ITEM) pa_nil))))))))) (pss_one (ps_ret (pv 1))) pss_nil)))
    (pss_one (ps_ret pe_non)))), ?_⟩
  -- not a tuple, or empty
  refine ⟨_, rfl, .ref p, .ty "tuple", .type "tuple", _, true, rfl, .ty "tuple", .base (.tup hp), kit_at (by decide +kernel), true, rfl, ?_⟩
  refine ⟨_, rfl, p, _, rfl, .inr (SqT.of hp), rfl, _, rfl, ?_⟩
  refine ite2 (fun c => ?_) (fun _ => ?_)
  · exfalso
    have e : V.int ((ps.map vn).length : Int) = V.int 0 := of_decide_eq_true c
    have e2 : ((ps.map vn).length : Int) = 0 := by injection e
    rw [List.length_map] at e2
    have := hP.pos
    omega
  refine ⟨_, rfl, p, _, rfl, SqT.of hp, for_enumT (K := K) (a := p) (xs := ps.map vn) (fun i σ H2 => ∃ a b, σ = [some (.ref p), a, b] ∧ Same H H2) ⟨_, _, rfl, Same.refl H⟩
    (fun i σ H2 _ ⟨_, _, _, e⟩ => SqT.of (e _ _ hp)) ?_ ?_⟩
  · rintro i x σ H2 hx ⟨a, b, rfl, hS⟩ Tp hT
    have hi : i < ps.length := by
      have := (List.getElem?_eq_some_iff.mp hx).1
      rwa [List.length_map] at this
    obtain ⟨y, rfl, hy⟩ : ∃ y, x = vn y ∧ ps[i]? = some y := by
      rw [List.getElem?_map] at hx
      cases e : ps[i]? with
      | none => rw [e] at hx; cases hx
      | some u => rw [e] at hx; exact ⟨u, (Option.some.inj hx).symm, rfl⟩
    have y9 := hP.nine y (List.mem_of_getElem? hy)
    have hS2 : Same H (upd H2 Tp (.tup [vnI i, vn y])) := Same.upd2 hT hS
    refine ⟨Tp, _, rfl, SqT.of upd_same, rfl, _, _, rfl, _, _, rfl, rfl, ?_⟩
    refine ⟨_, rfl, rfl, _, rfl, ?_⟩
    refine ite2 (fun c => ?_) (fun _ => ?_)
    · exfalso
      have e : V.int (i : Int) = V.int 12 := of_decide_eq_true c
      have e2 : (i : Int) = 12 := by injection e
      have := hP.len
      omega
    refine ⟨_, rfl, vn y, 0, 9, rfl, .int _, true, by rw [inB_in (by omega) (by omega)], ?_⟩
    exact ⟨_, _, rfl, hS2⟩
  · rintro σ H2 ⟨a, b, rfl, hS⟩
    exact k H2 hS
theorem ok_check_pattern (T : Txt K mg) : OkF P w K mg base 3 (He.ga K "check_pattern") ["part", "pattern"] spChk := by
  have G_first_invalid_item : OkF P w K mg base 2 (He.ga K "first_invalid_item") ["pattern"] spFii := ok_first_invalid_item T
  refine FnP.okF T.f_check_pattern sc_check_pattern (fun _ _ _ _ _ _ us hl => match us, hl with | [_, _], _ => rfl) (fun vs H Q E h => ?_) (fun cdv A outer s H vs Q E hr h => ?_)
  · obtain ⟨v, p, ps, rfl, _⟩ := h
    rfl
  obtain ⟨v, p, ps, rfl, hp, hP, k⟩ := h
  refine ⟨_, (pss_cons (ps_set (i := 2) sc_check_pattern.nd rfl (Or.inl rfl) (pe_call G_first_invalid_item.one (hr.mono (by decide)) (by rfl) T.g_first_invalid_item G_first_invalid_item.kp G_first_invalid_item.two .nil passL (pa_cons (pv 1) pa_nil)))
    (pss_one (ps_if (pt_cmpR (show OpR _ (compareOp .IsNot) Rd.rNotN from op_notN) (pv 2) pe_non (nomark _)) (pss_one ps_never) pss_nil))), ?_⟩
  refine ⟨_, rfl, p, ps, rfl, hp, hP, fun H' hS => ?_⟩
  refine ⟨_, rfl, rfl, _, rfl, ?_⟩
  exact k H' hS
theorem ok_check_hall (T : Txt K mg) : OkF P w K mg base 4 (He.ga K "check_hall") ["modulus", "takes", "calls", "lateness"] spChall := by
  have G_is_integer_within : OkF P w K mg base 1 (He.ga K "is_integer_within") ["value", "low", "high"] spWithin := ok_is_integer_within T
  have G_check_pattern : OkF P w K mg base 3 (He.ga K "check_pattern") ["part", "pattern"] spChk := ok_check_pattern T
  refine FnP.okF T.f_check_hall sc_check_hall (fun _ _ _ _ _ _ us hl => match us, hl with | [_, _, _, _], _ => rfl) (fun vs H Q E h => ?_) (fun cdv A outer s H vs Q E hr h => ?_)
  · obtain ⟨tp, cp, m, lt, tk, cl, rfl, _⟩ := h
    rfl
  obtain ⟨tp, cp, m, lt, tk, cl, rfl, htp, hcp, hP, k⟩ := h
  refine ⟨_, (pss_cons (ps_if (pt_not (pt_val (pe_call G_is_integer_within.one (hr.mono (by decide)) (by rfl) T.g_is_integer_within G_is_integer_within.kp G_is_integer_within.two .nil passL (pa_cons (pv 0) (pa_cons (pe_gint (by rfl) T.c_LEAST_MODULUS) (pa_cons (pe_gint (by rfl) T.c_GREATEST_MODULUS) pa_nil)))))) (pss_one ps_never) pss_nil)
    (pss_cons (ps_expr (pe_call G_check_pattern.one (hr.mono (by decide)) (by rfl) T.g_check_pattern G_check_pattern.kp G_check_pattern.two .nil passL (pa_cons pe_str (pa_cons (pv 1) pa_nil))))
    (pss_cons (ps_expr (pe_call G_check_pattern.one (hr.mono (by decide)) (by rfl) T.g_check_pattern G_check_pattern.kp G_check_pattern.two .nil passL (pa_cons pe_str (pa_cons (pv 2) pa_nil))))
    (pss_one (ps_if (pt_not (pt_val (pe_call G_is_integer_within.one (hr.mono (by decide)) (by rfl) T.g_is_integer_within G_is_integer_within.kp G_is_integer_within.two .nil passL (pa_cons (pv 3) (pa_cons pe_int (pa_cons (pe_gint (by rfl) T.c_GREATEST_LATENESS) pa_nil)))))) (pss_one ps_never) pss_nil))))), ?_⟩
  have m2 := hP.m2
  have m4 := hP.m4
  have l9 := hP.l99
  refine ⟨_, rfl, vn m, 2, 10000, rfl, .int _, true, by rw [inB_in (by omega) (by omega)], ?_⟩
  refine ⟨_, rfl, _, tp, tk, rfl, htp, hP.tkP, fun H1 S1 => ?_⟩
  refine ⟨_, rfl, _, cp, cl, rfl, S1 _ _ hcp, hP.clP, fun H2 S2 => ?_⟩
  refine ⟨_, rfl, vn lt, 0, 99, rfl, .int _, true, by rw [inB_in (by omega) (by omega)], ?_⟩
  exact k H2 (S1.trans S2)
end
end Tk

/-! ### The hall -/
namespace Tk
open PySem PySem.Spec PyProof.Rows L2 Mm
def calV (tk cl : List Nat) (n : Nat) : List V := (List.range (n + 1)).map fun t => vn (cal tk cl t)
theorem calV_len {tk cl : List Nat} {n : Nat} : (calV tk cl n).length = n + 1 := by unfold calV; simp
theorem calV_at {tk cl : List Nat} {n t : Nat} (h : t ≤ n) : (calV tk cl n)[t]? = some (vn (cal tk cl t)) := by
  unfold calV
  rw [List.getElem?_map, List.getElem?_range (by omega)]
  rfl
theorem calV_succ {tk cl : List Nat} {n : Nat} : calV tk cl (n + 1) = calV tk cl n ++ [vn (cal tk cl (n + 1))] := by
  unfold calV
  rw [List.range_succ, List.map_append]
  rfl
theorem pat_at {ps : List Nat} (h : 0 < ps.length) {z : Int} {i : Nat} (e : z = (i : Int)) : atI (ps.map vn) (z % ((ps.map vn).length : Int)) = some (vn (atp ps i)) := by
  subst e
  rw [List.length_map, show (i : Int) % (ps.length : Int) = ((i % ps.length : Nat) : Int) from (Int.natCast_emod _ _).symm]
  refine atn ?_
  have lt := Nat.mod_lt i h
  rw [List.getElem?_map]
  unfold atp
  rw [List.getD_eq_getElem?_getD, List.getElem?_eq_getElem lt]
  rfl
def hfs (m : Nat) (tp cp : Addr) (lt : Nat) (lp : Addr) : List (Str × V) := putF "_called" (.ref lp) (putF "lateness" (vn lt) (putF "calls" (.ref cp) (putF "takes" (.ref tp) (putF "modulus" (vn m) []))))
theorem hfs_no {m : Nat} {tp cp : Addr} {lt : Nat} {lp : Addr} {x : Str} (h1 : ¬ x = "_called") (h2 : ¬ x = "lateness") (h3 : ¬ x = "calls") (h4 : ¬ x = "takes") (h5 : ¬ x = "modulus") : (hfs m tp cp lt lp).lookup x = none := by
  unfold hfs
  rw [lookup_putF, if_neg h1, lookup_putF, if_neg h2, lookup_putF, if_neg h3, lookup_putF, if_neg h4, lookup_putF, if_neg h5]
  rfl
theorem hfs_takes {m : Nat} {tp cp : Addr} {lt : Nat} {lp : Addr} : (hfs m tp cp lt lp).lookup ("takes" : Str) = some (.ref tp) := by
  unfold hfs
  rw [lookup_putF, if_neg (by decide +kernel), lookup_putF, if_neg (by decide +kernel), lookup_putF, if_neg (by decide +kernel), lookup_putF, if_pos rfl]
theorem hfs_calls {m : Nat} {tp cp : Addr} {lt : Nat} {lp : Addr} : (hfs m tp cp lt lp).lookup ("calls" : Str) = some (.ref cp) := by
  unfold hfs
  rw [lookup_putF, if_neg (by decide +kernel), lookup_putF, if_neg (by decide +kernel), lookup_putF, if_pos rfl]
theorem hfs_lateness {m : Nat} {tp cp : Addr} {lt : Nat} {lp : Addr} : (hfs m tp cp lt lp).lookup ("lateness" : Str) = some (vn lt) := by
  unfold hfs
  rw [lookup_putF, if_neg (by decide +kernel), lookup_putF, if_pos rfl]
theorem hfs_called {m : Nat} {tp cp : Addr} {lt : Nat} {lp : Addr} : (hfs m tp cp lt lp).lookup ("_called" : Str) = some (.ref lp) := by
  unfold hfs
  rw [lookup_putF, if_pos rfl]
theorem hfs_modulus {m : Nat} {tp cp : Addr} {lt : Nat} {lp : Addr} : (hfs m tp cp lt lp).lookup ("modulus" : Str) = some (vn m) := by
  unfold hfs
  rw [lookup_putF, if_neg (by decide +kernel), lookup_putF, if_neg (by decide +kernel), lookup_putF, if_neg (by decide +kernel), lookup_putF, if_neg (by decide +kernel), lookup_putF, if_pos rfl]
/-- a hall at h, its numbers of calls at lp -/
structure HallAt (C : Addr) (H : Hp) (h : Addr) (m : Nat) (tk cl : List Nat) (lt : Nat) (lp : Addr) : Prop where
  ex : ∃ dx tp cp, H h = some (.ins C dx (hfs m tp cp lt lp)) ∧ H tp = some (.tup (tk.map vn)) ∧ H cp = some (.tup (cl.map vn))
  lst : H lp = some (.lst (calV tk cl (2 * per tk cl)))
  ok : Parts m tk cl lt
theorem HallAt.but {C d h lp : Addr} {H H' : Hp} {m lt : Nat} {tk cl : List Nat} {cs : List V} (p : HallAt C H h m tk cl lt lp) (b : But d H H') (hd : H d = some (.lst cs)) (n : lp ≠ d) : HallAt C H' h m tk cl lt lp := by
  obtain ⟨dx, tp, cp, h1, h2, h3⟩ := p.ex
  exact ⟨⟨dx, tp, cp, b _ _ (ne_of h1 hd (fun q => by cases q)) h1, b _ _ (ne_of h2 hd (fun q => by cases q)) h2, b _ _ (ne_of h3 hd (fun q => by cases q)) h3⟩, b _ _ n p.lst, p.ok⟩
theorem HallAt.same {C h lp : Addr} {H H' : Hp} {m lt : Nat} {tk cl : List Nat} (p : HallAt C H h m tk cl lt lp) (b : Same H H') : HallAt C H' h m tk cl lt lp := by
  obtain ⟨dx, tp, cp, h1, h2, h3⟩ := p.ex
  exact ⟨⟨dx, tp, cp, b _ _ h1, b _ _ h2, b _ _ h3⟩, b _ _ p.lst, p.ok⟩
def spCount : Sp := fun vs H Q _ => ∃ (tp cp : Addr) (tk cl : List Nat) (n : Nat), vs = [.ref tp, .ref cp, vn n] ∧ H tp = some (.tup (tk.map vn)) ∧ H cp = some (.tup (cl.map vn)) ∧ Pat tk ∧ Pat cl ∧ n ≤ 1000 ∧
  ∀ l H', H l = none → Same H H' → H' l = some (.lst (calV tk cl n)) → Q (.ref l) H'
def spPeriod (C : Addr) : Sp := fun vs H Q _ => ∃ (h dx tp cp : Addr) (fs : List (Str × V)) (tk cl : List Nat), vs = [.ref h] ∧ H h = some (.ins C dx fs) ∧ fs.lookup ("takes" : Str) = some (.ref tp) ∧ fs.lookup ("calls" : Str) = some (.ref cp) ∧
  H tp = some (.tup (tk.map vn)) ∧ H cp = some (.tup (cl.map vn)) ∧ Pat tk ∧ Pat cl ∧ Q (vn (per tk cl)) H
def spInit (C : Addr) : Sp := fun vs H Q _ => ∃ (x dx tp cp : Addr) (m lt : Nat) (tk cl : List Nat), vs = [.ref x, vn m, .ref tp, .ref cp, vn lt] ∧ H x = some (.ins C dx []) ∧ H tp = some (.tup (tk.map vn)) ∧ H cp = some (.tup (cl.map vn)) ∧ Parts m tk cl lt ∧
  ∀ H' lp, But x H H' → H lp = none → HallAt C H' x m tk cl lt lp → Q .non H'
theorem per_144 {tk cl : List Nat} (h1 : Pat tk) (h2 : Pat cl) : per tk cl ≤ 144 := by
  have := per_le (tk := tk) (cl := cl)
  have a := Nat.mul_le_mul h1.len h2.len
  omega
theorem vn_int {z : Int} {n : Nat} (h : z = (n : Int)) : V.int z = vn n := by rw [h]
section
variable {P : Program} {w : World} {K : PySem.W.Frag} {mg : Str → Option Value} {base : Heap}
theorem ok_count_calls (T : Txt K mg) : OkF P w K mg base 1 (He.ga K "count_calls") ["takes", "calls", "ticks"] spCount := by
  refine FnP.okF T.f_count_calls sc_count_calls (fun _ _ _ _ _ _ us hl => match us, hl with | [_, _, _], _ => rfl) (fun vs H Q E h => ?_) (fun cdv A outer s H vs Q E hr h => ?_)
  · obtain ⟨tp, cp, tk, cl, n, rfl, _⟩ := h
    rfl
  obtain ⟨tp, cp, tk, cl, n, rfl, htp, hcp, hT, hC, hn, k⟩ := h
  refine ⟨_, (pss_cons (ps_set (i := 3) sc_count_calls.nd rfl (Or.inl rfl) (pe_lst (pa_cons pe_int pa_nil)))
    (pss_cons (ps_set (i := 4) sc_count_calls.nd rfl (Or.inl rfl) pe_int)
    (pss_cons (ps_for own_cx rfl (pi_range1 (by rfl) T.g_range (pa_cons (pv 2) pa_nil)) (pg_name (i := 5) sc_count_calls.nd rfl (Or.inl rfl))
      (pss_cons (ps_aug (i := 4) sc_count_calls.nd rfl (Or.inl rfl) (pe_ix (ixTK (K := K)) (pv 0) (pe_op op_mod (pv 5) (pe_callB (lenK (K := K)) (by rfl) T.g_len (by decide +kernel) (pa_cons (pv 0) pa_nil))) (fun _ _ => rfl)) ip_add)
    (pss_cons (ps_set (i := 6) sc_count_calls.nd rfl (Or.inl rfl) (pe_callB (show CallR _ (.builtin "min") Rd.rMin2 from call_min2 (by rfl)) (by rfl) T.g_min (by decide +kernel) (pa_cons (pv 4) (pa_cons (pe_ix (ixTK (K := K)) (pv 1) (pe_op op_mod (pv 5) (pe_callB (lenK (K := K)) (by rfl) T.g_len (by decide +kernel) (pa_cons (pv 1) pa_nil))) (fun _ _ => rfl)) pa_nil))))
    (pss_cons (ps_aug (i := 4) sc_count_calls.nd rfl (Or.inl rfl) (pv 6) ip_sub)
    (pss_one (ps_expr (pe_bm PySem.F.plainAttrs_list PySem.F.slot_list_append PySem.F.type_list_append mt_append (pv 3) (pa_cons (pe_op op_add (pe_ix (ixLK (K := K)) (pv 3) (pv 5) (fun _ _ => rfl)) (pv 6)) pa_nil))))))))
    (pss_one (ps_ret (pv 3)))))), ?_⟩
  refine ⟨(by show 1 ≤ sizeLine; decide), fun l hl => ?_⟩
  have nl : ∀ {q : Addr} {o : HO}, H q = some o → q ≠ l := fun e => ne_of_none e hl
  refine ⟨_, rfl, (n : Int), rfl, by omega, by omega, for_range (lo := 0) (n := ((n : Int)).toNat) (fun i σ H2 => ∃ a b, σ = [some (.ref tp), some (.ref cp), some (vn n), some (.ref l), some (vn (wt tk cl i)), a, b] ∧ H2 = upd H l (.lst (calV tk cl i)))
    ⟨_, _, rfl, rfl⟩ ?_ ?_⟩
  · rintro i σ H2 hi ⟨a, b, rfl, rfl⟩
    have hi2 : i < n := by simpa using hi
    have t1 : upd H l (.lst (calV tk cl i)) tp = some (.tup (tk.map vn)) := by rw [upd_ne (nl htp)]; exact htp
    have t2 : upd H l (.lst (calV tk cl i)) cp = some (.tup (cl.map vn)) := by rw [upd_ne (nl hcp)]; exact hcp
    have L1 := hT.pos
    have L2 := hC.pos
    -- waiting += takes[tick % len(takes)]
    refine ⟨_, rfl, _, rfl, _, rfl, _, rfl, tp, _, rfl, .inr (SqT.of t1), _, _, rfl, rfl, (by show (0 : Int) < ((tk.map vn).length : Int); rw [List.length_map]; omega), tp, _, _, _, rfl, rfl, SqT.of t1, pat_at L1 (Int.zero_add _), _, _, rfl, rfl, ?_⟩
    -- now = min(waiting, calls[tick % len(calls)])
    refine ⟨_, rfl, _, rfl, _, rfl, _, rfl, cp, _, rfl, .inr (SqT.of t2), _, _, rfl, rfl, (by show (0 : Int) < ((cl.map vn).length : Int); rw [List.length_map]; omega), cp, _, _, _, rfl, rfl, SqT.of t2, pat_at L2 (Int.zero_add _), _, _, rfl, ?_⟩
    have em : V.int (if (atp cl i : Int) < ((wt tk cl i : Int) + (atp tk i : Int)) then (atp cl i : Int) else ((wt tk cl i : Int) + (atp tk i : Int))) = vn (min (wt tk cl i + atp tk i) (atp cl i)) := by
      refine vn_int ?_
      split <;> omega
    rw [em]
    -- waiting -= now
    refine ⟨_, rfl, _, rfl, _, _, rfl, rfl, ?_⟩
    -- called.append(called[tick] + now)
    refine ⟨_, rfl, .inl ⟨rfl, _, SqL.of upd_same⟩, _, rfl, _, rfl, l, _, _, _, rfl, rfl, SqL.of upd_same, (show atI (calV tk cl i) ((0 : Int) + (i : Int)) = some (vn (cal tk cl i)) by rw [Int.zero_add]; exact atn (calV_at (Nat.le_refl i))), _, rfl, _, _, rfl, rfl, ?_⟩
    refine ⟨l, _, _, rfl, rfl, upd_same, small1000 (by rw [calV_len]; omega), some (.int (0 + (i : Int))), some (vn (min (wt tk cl i + atp tk i) (atp cl i))), ?_, ?_⟩
    · have e1 : V.int ((wt tk cl i : Int) + (atp tk i : Int) - ((min (wt tk cl i + atp tk i) (atp cl i) : Nat) : Int)) = vn (wt tk cl (i + 1)) := vn_int (by rw [wt_succ]; omega)
      rw [← e1]
      rfl
    · rw [upd_upd, calV_succ]
      have e2 : V.int ((cal tk cl i : Int) + ((min (wt tk cl i + atp tk i) (atp cl i) : Nat) : Int)) = vn (cal tk cl (i + 1)) := vn_int (by rw [cal_succ]; omega)
      rw [← e2]
  · rintro σ H2 ⟨a, b, rfl, rfl⟩
    refine ⟨_, rfl, k l _ hl (Same.new hl) ?_⟩
    rw [upd_same]
    simp
theorem ok_period (T : Txt K mg) : OkF P w K mg base 1 (getAt K (He.ga K "Hall") "period") ["self"] (spPeriod (He.ga K "Hall")) := by
  refine FnP.okF T.f_period sc_period (fun _ _ _ _ _ _ us hl => match us, hl with | [_], _ => rfl) (fun vs H Q E h => ?_) (fun cdv A outer s H vs Q E hr h => ?_)
  · obtain ⟨h, _, _, _, _, _, _, rfl, _⟩ := h
    rfl
  obtain ⟨h, dx, tp, cp, fs, tk, cl, rfl, hh, f1, f2, htp, hcp, hT, hC, k⟩ := h
  refine ⟨_, (pss_one (ps_ret (pfun cr_lcm (by rfl) T.g_lcm (pa_cons (pe_callB (lenK (K := K)) (by rfl) T.g_len (by decide +kernel) (pa_cons (pe_fld (pv 0) rfl) pa_nil)) (pa_cons (pe_callB (lenK (K := K)) (by rfl) T.g_len (by decide +kernel) (pa_cons (pe_fld (pv 0) rfl) pa_nil)) pa_nil))))), ?_⟩
  have a1 := hT.len
  have a2 := hC.len
  refine ⟨_, rfl, h, _, dx, fs, _, rfl, hh, T.cl_Hall, T.n_takes, f1, tp, _, rfl, .inr (SqT.of htp), ?_⟩
  refine ⟨_, rfl, h, _, dx, fs, _, rfl, hh, T.cl_Hall, T.n_calls, f2, cp, _, rfl, .inr (SqT.of hcp), ?_⟩
  refine ⟨_, _, rfl, by rw [List.length_map]; omega, by rw [List.length_map]; omega, ?_⟩
  rw [List.length_map, List.length_map]
  exact k
theorem ok_init (T : Txt K mg) : OkF P w K mg base 5 (He.ma K (He.ga K "Hall") "__init__") ["self", "modulus", "takes", "calls", "lateness"] (spInit (He.ga K "Hall")) := by
  have G_check_hall : OkF P w K mg base 4 (He.ga K "check_hall") ["modulus", "takes", "calls", "lateness"] spChall := ok_check_hall T
  have G_count_calls : OkF P w K mg base 1 (He.ga K "count_calls") ["takes", "calls", "ticks"] spCount := ok_count_calls T
  have G_period : OkF P w K mg base 1 (getAt K (He.ga K "Hall") "period") ["self"] (spPeriod (He.ga K "Hall")) := ok_period T
  refine FnP.okF T.f_init sc_init (fun _ _ _ _ _ _ us hl => match us, hl with | [_, _, _, _, _], _ => rfl) (fun vs H Q E h => ?_) (fun cdv A outer s H vs Q E hr h => ?_)
  · obtain ⟨x, _, _, _, _, _, _, _, rfl, _⟩ := h
    rfl
  obtain ⟨x, dx, tp, cp, m, lt, tk, cl, rfl, hx, htp, hcp, hP, k⟩ := h
  refine ⟨_, (pss_cons (ps_expr (pe_call G_check_hall.one (hr.mono (by decide)) (by rfl) T.g_check_hall G_check_hall.kp G_check_hall.two .nil passL (pa_cons (pv 1) (pa_cons (pv 2) (pa_cons (pv 3) (pa_cons (pv 4) pa_nil))))))
    (pss_cons (ps_fld (pv 0) (pv 1) rfl)
    (pss_cons (ps_fld (pv 0) (pv 2) rfl)
    (pss_cons (ps_fld (pv 0) (pv 3) rfl)
    (pss_cons (ps_fld (pv 0) (pv 4) rfl)
    (pss_one (ps_fld (pv 0) (pe_call G_count_calls.one (hr.mono (by decide)) (by rfl) T.g_count_calls G_count_calls.kp G_count_calls.two .nil passL (pa_cons (pv 2) (pa_cons (pv 3) (pa_cons (pe_op op_mul pe_int (pe_prop (pv 0) T.cl_Hall T.p_period G_period.one (hr.mono (by decide)) G_period.two .nil passL (by rfl))) pa_nil)))) rfl))))))), ?_⟩
  refine ⟨_, rfl, _, rfl, _, rfl, _, rfl, tp, cp, m, lt, tk, cl, rfl, htp, hcp, hP, fun H1 S1 => ?_⟩
  have x1 := S1 _ _ hx
  have n1 : tp ≠ x := ne_of htp hx (fun q => by cases q)
  have n2 : cp ≠ x := ne_of hcp hx (fun q => by cases q)
  have len1 : ∀ (f : Str) (v : V) (fs : List (Str × V)) (n : Nat), fs.length ≤ n → (putF f v fs).length ≤ n + 1 := fun f v fs n h => Nat.le_trans (length_putF f v fs) (Nat.succ_le_succ h)
  refine ⟨_, rfl, _, rfl, x, _, dx, _, rfl, x1, T.cl_Hall, T.n_modulus, (by decide), ?_⟩
  refine ⟨_, rfl, _, rfl, x, _, dx, _, rfl, upd_same, T.cl_Hall, T.n_takes, Nat.lt_of_le_of_lt (len1 _ _ _ 0 (Nat.le_refl 0)) (by decide), ?_⟩
  refine ⟨_, rfl, _, rfl, x, _, dx, _, rfl, upd_same, T.cl_Hall, T.n_calls, Nat.lt_of_le_of_lt (len1 _ _ _ 1 (len1 _ _ _ 0 (Nat.le_refl 0))) (by decide), ?_⟩
  refine ⟨_, rfl, _, rfl, x, _, dx, _, rfl, upd_same, T.cl_Hall, T.n_lateness, Nat.lt_of_le_of_lt (len1 _ _ _ 2 (len1 _ _ _ 1 (len1 _ _ _ 0 (Nat.le_refl 0)))) (by decide), ?_⟩
  rw [upd_upd, upd_upd, upd_upd]
  have t1 : ∀ o, upd H1 x o tp = some (.tup (tk.map vn)) := fun o => by rw [upd_ne n1]; exact S1 _ _ htp
  have t2 : ∀ o, upd H1 x o cp = some (.tup (cl.map vn)) := fun o => by rw [upd_ne n2]; exact S1 _ _ hcp
  have p144 := per_144 hP.tkP hP.clP
  -- self._called = count_calls(takes, calls, 2 * self.period)
  refine ⟨_, rfl, _, rfl, _, rfl, x, dx, _, rfl, upd_same, x, dx, tp, cp, _, tk, cl, rfl, upd_same, ?_, ?_, t1 _, t2 _, hP.tkP, hP.clP, ?_⟩
  · rw [lookup_putF, if_neg (by decide +kernel), lookup_putF, if_neg (by decide +kernel), lookup_putF, if_pos rfl]
  · rw [lookup_putF, if_neg (by decide +kernel), lookup_putF, if_pos rfl]
  refine ⟨2, _, rfl, rfl, .inl ⟨by decide, by decide⟩, tp, cp, tk, cl, 2 * per tk cl, by simp, t1 _, t2 _, hP.tkP, hP.clP, by omega, fun lp H2 n3 S2 h2 => ?_⟩
  have nx : x ≠ lp := fun e => by rw [e, upd_same] at n3; cases n3
  have n4 : H lp = none := by
    rw [upd_ne (Ne.symm nx)] at n3
    exact S1.free n3
  refine ⟨_, rfl, x, _, dx, _, rfl, S2 _ _ upd_same, T.cl_Hall, T.n__called, Nat.lt_of_le_of_lt (len1 _ _ _ 3 (len1 _ _ _ 2 (len1 _ _ _ 1 (len1 _ _ _ 0 (Nat.le_refl 0))))) (by decide), ?_⟩
  refine k _ lp (fun b o nb e => ?_) n4 ⟨⟨dx, tp, cp, upd_same, ?_, ?_⟩, ?_, hP⟩
  · rw [upd_ne nb]
    exact S2 _ _ (by rw [upd_ne nb]; exact S1 _ _ e)
  · rw [upd_ne n1]
    exact S2 _ _ (t1 _)
  · rw [upd_ne n2]
    exact S2 _ _ (t2 _)
  · rw [upd_ne (Ne.symm nx)]
    exact h2
end
end Tk

/-! ### The hall's methods -/
namespace Tk
open PySem PySem.Spec PyProof.Rows L2 Mm
def spTaken (C : Addr) : Sp := fun vs H Q _ => ∃ (h lp : Addr) (z : Int) (m lt : Nat) (tk cl : List Nat), vs = [.ref h, .int z] ∧ HallAt C H h m tk cl lt lp ∧ ∀ H', Same H H' → Q (vn (tak tk z.toNat)) H'
def spCalled (C : Addr) : Sp := fun vs H Q _ => ∃ (h lp : Addr) (z : Int) (m lt : Nat) (tk cl : List Nat), vs = [.ref h, .int z] ∧ HallAt C H h m tk cl lt lp ∧ Q (vn (cal tk cl z.toNat)) H
def spWaiting (C : Addr) : Sp := fun vs H Q _ => ∃ (h lp : Addr) (n : Nat) (m lt : Nat) (tk cl : List Nat), vs = [.ref h, vn n] ∧ n ≤ 1000000000000000000 ∧ HallAt C H h m tk cl lt lp ∧ ∀ H', Same H H' → Q (vn (wt tk cl (n + 1))) H'
def grow (tk cl : List Nat) : Nat := wt tk cl (2 * per tk cl + 1) - wt tk cl (per tk cl + 1)
def spGrowth (C : Addr) : Sp := fun vs H Q _ => ∃ (h lp : Addr) (m lt : Nat) (tk cl : List Nat), vs = [.ref h] ∧ HallAt C H h m tk cl lt lp ∧ ∀ H', Same H H' → Q (vn (grow tk cl)) H'
theorem map_vn (tk : List Nat) : (tk.map (fun n : Nat => (n : Int))).map V.int = tk.map vn := by rw [List.map_map]; rfl
theorem sum_cast (tk : List Nat) : (tk.map (fun n : Nat => (n : Int))).sum = ((tk.sum : Nat) : Int) := by
  induction tk with
  | nil => rfl
  | cons a r ih => rw [List.map_cons, List.sum_cons, List.sum_cons, ih]; omega
theorem max0 (z : Int) : (if (0 : Int) > z then (0 : Int) else z) = ((z.toNat : Nat) : Int) := by split <;> omega
section
variable {P : Program} {w : World} {K : PySem.W.Frag} {mg : Str → Option Value} {base : Heap}
theorem ok_called (T : Txt K mg) : OkF P w K mg base 3 (He.ma K (He.ga K "Hall") "called") ["self", "tick"] (spCalled (He.ga K "Hall")) := by
  have G_period : OkF P w K mg base 1 (getAt K (He.ga K "Hall") "period") ["self"] (spPeriod (He.ga K "Hall")) := ok_period T
  refine FnP.okF T.f_called sc_called (fun _ _ _ _ _ _ us hl => match us, hl with | [_, _], _ => rfl) (fun vs H Q E h => ?_) (fun cdv A outer s H vs Q E hr h => ?_)
  · obtain ⟨h, _, _, _, _, _, _, rfl, _⟩ := h
    rfl
  obtain ⟨h, lp, z, m, lt, tk, cl, rfl, hA, k⟩ := h
  obtain ⟨dx, tp, cp, hh, htp, hcp⟩ := hA.ex
  have p0 := per_pos hA.ok.tkP.pos hA.ok.clP.pos
  have p144 := per_144 hA.ok.tkP hA.ok.clP
  have ht := per_tk (tk := tk) (cl := cl)
  have hc := per_cl (tk := tk) (cl := cl)
  generalize hp : per tk cl = p at *
  have hL : SqL K H lp (calV tk cl (2 * p)) := SqL.of (by rw [← hp]; exact hA.lst)
  refine ⟨_, (pss_cons (ps_set (i := 2) sc_called.nd rfl (Or.inl rfl) (pe_prop (pv 0) T.cl_Hall T.p_period G_period.one (hr.mono (by decide)) G_period.two .nil passL (by rfl)))
    (pss_cons (ps_set (i := 3) sc_called.nd rfl (Or.inl rfl) (pe_callB (show CallR _ (.builtin "max") Rd.rMax2 from call_max2 (by rfl)) (by rfl) T.g_max (by decide +kernel) (pa_cons (pe_op op_sub (pe_op op_fdiv (pv 1) (pv 2)) pe_int) (pa_cons pe_int pa_nil))))
    (pss_cons (ps_set (i := 4) sc_called.nd rfl (Or.inl rfl) (pe_op op_sub (pe_ix (ixLK (K := K)) (pe_fld (pv 0) rfl) (pe_op op_mul pe_int (pv 2)) (fun _ _ => rfl)) (pe_ix (ixLK (K := K)) (pe_fld (pv 0) rfl) (pv 2) (fun _ _ => rfl))))
    (pss_one (ps_ret (pe_op op_add (pe_op op_mul (pv 3) (pv 4)) (pe_ix (ixLK (K := K)) (pe_fld (pv 0) rfl) (pe_op op_sub (pe_callB (show CallR _ (.builtin "max") Rd.rMax2 from call_max2 (by rfl)) (by rfl) T.g_max (by decide +kernel) (pa_cons (pv 1) (pa_cons pe_int pa_nil))) (pe_op op_mul (pv 3) (pv 2))) (fun _ _ => rfl)))))))), ?_⟩
  refine ⟨_, rfl, h, dx, _, rfl, hh, h, dx, tp, cp, _, tk, cl, rfl, hh, hfs_takes, hfs_calls, htp, hcp, hA.ok.tkP, hA.ok.clP, ?_⟩
  rw [hp]
  -- skipped
  refine ⟨_, rfl, _, rfl, _, _, rfl, rfl, ⟨by omega, by omega⟩, _, _, rfl, rfl, _, _, rfl, ?_⟩
  have es : (if (0 : Int) > z / (p : Int) - 1 then (0 : Int) else z / (p : Int) - 1) = ((z.toNat / p - 1 : Nat) : Int) := by
    rcases Int.lt_or_le z 0 with n | n
    · have h1 : z / (p : Int) < 0 := Int.ediv_lt_of_lt_mul (by omega) (by omega)
      have h2 : z.toNat = 0 := by omega
      rw [h2, Nat.zero_div]
      split <;> omega
    · obtain ⟨q, rfl⟩ : ∃ q : Nat, z = (q : Int) := ⟨z.toNat, by omega⟩
      have h1 : (q : Int) / (p : Int) = ((q / p : Nat) : Int) := (Int.natCast_ediv _ _).symm
      rw [h1, Int.toNat_natCast]
      split <;> omega
  rw [es]
  generalize hs : z.toNat / p - 1 = sk
  -- in_period
  have mono := cal_mono (tk := tk) (cl := cl) (show p ≤ 2 * p by omega)
  have a1 : atI (calV tk cl (2 * p)) ((2 : Int) * (p : Int)) = some (vn (cal tk cl (2 * p))) := by
    rw [show (2 : Int) * (p : Int) = ((2 * p : Nat) : Int) by omega]
    exact atn (calV_at (Nat.le_refl _))
  have a2 : atI (calV tk cl (2 * p)) (p : Int) = some (vn (cal tk cl p)) := atn (calV_at (by omega))
  refine ⟨_, rfl, h, _, dx, _, _, rfl, hh, T.cl_Hall, T.n__called, hfs_called, _, rfl, _, _, rfl, rfl, .inl ⟨by decide, by decide⟩, lp, _, _, _, rfl, rfl, hL, a1, ?_⟩
  refine ⟨_, rfl, h, _, dx, _, _, rfl, hh, T.cl_Hall, T.n__called, hfs_called, _, rfl, lp, _, _, _, rfl, rfl, hL, a2, _, _, rfl, rfl, ?_⟩
  -- the end
  have small : cal tk cl (2 * p) - cal tk cl p ≤ 100000 := by
    have := cal_le (tk := tk) (cl := cl) (2 * p)
    have := tak_le hA.ok.tkP.nine (2 * p)
    omega
  refine ⟨_, rfl, _, rfl, _, _, rfl, rfl, .inr ⟨by omega, by omega⟩, ?_⟩
  refine ⟨_, rfl, h, _, dx, _, _, rfl, hh, T.cl_Hall, T.n__called, hfs_called, _, rfl, _, _, rfl, ?_⟩
  rw [max0]
  refine ⟨_, rfl, _, rfl, _, _, rfl, rfl, .inr ⟨by omega, by omega⟩, _, _, rfl, rfl, ?_⟩
  have sk_le : sk * p ≤ z.toNat := by
    rw [← hs]
    have := Nat.div_mul_le_self z.toNat p
    have := Nat.mul_le_mul_right p (Nat.sub_le (z.toNat / p) 1)
    omega
  have a3 : atI (calV tk cl (2 * p)) ((z.toNat : Int) - (sk : Int) * (p : Int)) = some (vn (cal tk cl (z.toNat - sk * p))) := by
    rw [show (z.toNat : Int) - (sk : Int) * (p : Int) = ((z.toNat - sk * p : Nat) : Int) by rw [Int.ofNat_sub sk_le, Int.natCast_mul]]
    refine atn (calV_at ?_)
    have := rest_lt p0 z.toNat
    rw [hs] at this
    omega
  refine ⟨lp, _, _, _, rfl, rfl, hL, a3, _, _, rfl, rfl, ?_⟩
  have e := cal_is p0 ht hc z.toNat
  rw [hs] at e
  have ev : V.int ((sk : Int) * ((cal tk cl (2 * p) : Int) - (cal tk cl p : Int)) + (cal tk cl (z.toNat - sk * p) : Int)) = vn (cal tk cl z.toNat) := by
    refine vn_int ?_
    rw [e, Int.natCast_add, Int.natCast_mul, Int.ofNat_sub mono]
  show Q (V.int ((sk : Int) * ((cal tk cl (2 * p) : Int) - (cal tk cl p : Int)) + (cal tk cl (z.toNat - sk * p) : Int))) H
  rw [ev]
  exact k
end
end Tk

/-! ### The law's own defs: hall, length, counts -/
namespace Tk
open PySem PySem.Spec PyProof.Rows L2 Mm
def fV (f : Nat → Nat) (n : Nat) : List V := (List.range (n + 1)).map fun t => vn (f t)
theorem fV_len {f : Nat → Nat} {n : Nat} : (fV f n).length = n + 1 := by unfold fV; simp
theorem fV_at {f : Nat → Nat} {n t : Nat} (h : t ≤ n) : (fV f n)[t]? = some (vn (f t)) := by
  unfold fV
  rw [List.getElem?_map, List.getElem?_range (by omega)]
  rfl
theorem fV_succ {f : Nat → Nat} {n : Nat} : fV f (n + 1) = fV f n ++ [vn (f (n + 1))] := by
  unfold fV
  rw [List.range_succ, List.map_append]
  rfl
theorem at_last {xs : List V} {n : Nat} {x : V} (hl : xs.length = n + 1) (h : xs[n]? = some x) : atI xs (-(1 : Int)) = some x := by
  unfold atI ixN
  rw [hl, if_neg (by omega), if_pos (by omega)]
  show xs[(-(1 : Int) + ((n + 1 : Nat) : Int)).toNat]? = some x
  rw [show (-(1 : Int) + ((n + 1 : Nat) : Int)).toNat = n by omega]
  exact h
def spLHall (C : Addr) : Sp := fun vs H Q _ => ∃ (t tp cp : Addr) (m lt : Nat) (tk cl : List Nat), vs = [.ref t] ∧ PartsAt H t m tp tk cp cl lt ∧
  ∀ h lp H', H h = none → H lp = none → Same H H' → HallAt C H' h m tk cl lt lp → Q (.ref h) H'
theorem small10k {n : Nat} (h : n ≤ 10000) : n + 1 ≤ sizeLine := Nat.le_trans (Nat.succ_le_succ h) (by decide)
def spLength : Sp := fun vs H Q _ => ∃ (t tp cp : Addr) (m lt : Nat) (tk cl : List Nat), vs = [.ref t] ∧ PartsAt H t m tp tk cp cl lt ∧ Q (vn (per tk cl)) H
def spCounts : Sp := fun vs H Q _ => ∃ (t tp cp : Addr) (m lt : Nat) (tk cl : List Nat) (n : Nat), vs = [.ref t, vn n] ∧ PartsAt H t m tp tk cp cl lt ∧ n ≤ 10000 ∧
  ∀ r a b H', H r = none → H a = none → H b = none → a ≠ b → Same H H' → H' r = some (.tup [.ref a, .ref b]) → H' a = some (.lst (fV (tak tk) n)) → H' b = some (.lst (fV (cal tk cl) n)) → Q (.ref r) H'
theorem at3 {a b c d : V} {j : Nat} {x : V} (h : [a, b, c, d][j]? = some x) : atI [a, b, c, d] (j : Int) = some x := atn h
/-- the least multiple of n that c divides -/
theorem least_lcm {n c k : Nat} (hk : 0 < k) (h : c ∣ k * n) (no : ∀ j, 0 < j → j < k → ¬ c ∣ j * n) (hn : 0 < n) (hc : 0 < c) : k * n = Nat.lcm n c := by
  have d1 : Nat.lcm n c ∣ k * n := Nat.lcm_dvd (Nat.dvd_mul_left n k) h
  obtain ⟨j, hj⟩ := Nat.dvd_lcm_left n c
  have hp : 0 < Nat.lcm n c := Nat.lcm_pos hn hc
  have j0 : 0 < j := by
    rcases Nat.eq_zero_or_pos j with e | e
    · rw [e] at hj
      omega
    · exact e
  have e2 : Nat.lcm n c = j * n := by rw [hj, Nat.mul_comm]
  rcases Nat.lt_or_ge j k with lt | ge
  · exact absurd (by rw [← e2]; exact Nat.dvd_lcm_right n c) (no j j0 lt)
  · have h1 := Nat.le_of_dvd (Nat.mul_pos hk hn) d1
    have h2 := Nat.mul_le_mul_right n ge
    omega
theorem below_lcm {n c k : Nat} (no : ∀ j, 0 < j → j < k → ¬ c ∣ j * n) (hn : 0 < n) (hc : 0 < c) : k * n ≤ Nat.lcm n c := by
  obtain ⟨j, hj⟩ := Nat.dvd_lcm_left n c
  have hp : 0 < Nat.lcm n c := Nat.lcm_pos hn hc
  have e2 : Nat.lcm n c = j * n := by rw [hj, Nat.mul_comm]
  have j0 : 0 < j := by
    rcases Nat.eq_zero_or_pos j with e | e
    · rw [e] at hj
      omega
    · exact e
  rcases Nat.lt_or_ge j k with lt | ge
  · exact absurd (by rw [← e2]; exact Nat.dvd_lcm_right n c) (no j j0 lt)
  · rw [e2]
    exact Nat.mul_le_mul_right n ge
section
variable {P : Program} {w : World} {K : PySem.W.Frag} {mg : Str → Option Value} {base : Heap}
theorem ok__law_hall (T : Txt K mg) : OkF P w K mg base 7 (He.ga K "_law_hall") ["_law_parts"] (spLHall (He.ga K "Hall")) := by
  have G_init : OkF P w K mg base 5 (He.ma K (He.ga K "Hall") "__init__") ["self", "modulus", "takes", "calls", "lateness"] (spInit (He.ga K "Hall")) := ok_init T
  refine FnP.okF T.f__law_hall sc__law_hall (fun _ _ _ _ _ _ us hl => match us, hl with | [_], _ => rfl) (fun vs H Q E h => ?_) (fun cdv A outer s H vs Q E hr h => ?_)
  · obtain ⟨t, _, _, _, _, _, _, rfl, _⟩ := h
    rfl
  obtain ⟨t, tp, cp, m, lt, tk, cl, rfl, hP, k⟩ := h
  refine ⟨_, (pss_one (ps_ret (pe_make T.mk_Hall G_init.one (hr.mono (by decide)) (by rfl) T.g_Hall G_init.two .nil passL (pa_cons (pe_ix (ixTK (K := K)) (pv 0) pe_int (fun _ _ => rfl)) (pa_cons (pe_ix (ixTK (K := K)) (pv 0) pe_int (fun _ _ => rfl)) (pa_cons (pe_ix (ixTK (K := K)) (pv 0) pe_int (fun _ _ => rfl)) (pa_cons (pe_ix (ixTK (K := K)) (pv 0) pe_int (fun _ _ => rfl)) pa_nil))))))), ?_⟩
  have S := SqT.of (K := K) hP.at_
  refine ⟨_, rfl, t, _, 0, _, rfl, rfl, S, at3 (j := 0) rfl, _, rfl, t, _, 1, _, rfl, rfl, S, at3 (j := 1) rfl, _, rfl, t, _, 2, _, rfl, rfl, S, at3 (j := 2) rfl, _, rfl, t, _, 3, _, rfl, rfl, S, at3 (j := 3) rfl, fun x dx nx ndx nex => ?_⟩
  have S1 : Same H (upd (upd H dx (.own x)) x (.ins (He.ga K "Hall") dx [])) := fun b o e => by
    rw [upd_ne (ne_of_none e nx), upd_ne (ne_of_none e ndx)]
    exact e
  refine ⟨x, dx, tp, cp, m, lt, tk, cl, rfl, upd_same, S1 _ _ hP.tkA, S1 _ _ hP.clA, hP.ok, fun H' lp B n hA => ⟨rfl, ?_⟩⟩
  refine k x lp H' nx (S1.free n) (fun b o e => ?_) hA
  exact B b o (ne_of_none e nx) (S1 b o e)
theorem ok__law_length (T : Txt K mg) : OkF P w K mg base 1 (He.ga K "_law_length") ["_law_parts"] spLength := by
  refine FnP.okF T.f__law_length sc__law_length (fun _ _ _ _ _ _ us hl => match us, hl with | [_], _ => rfl) (fun vs H Q E h => ?_) (fun cdv A outer s H vs Q E hr h => ?_)
  · obtain ⟨t, _, _, _, _, _, _, rfl, _⟩ := h
    rfl
  obtain ⟨t, tp, cp, m, lt, tk, cl, rfl, hP, k⟩ := h
  have n0 := hP.ok.tkP.pos
  have c0 := hP.ok.clP.pos
  have p144 := per_144 hP.ok.tkP hP.ok.clP
  refine ⟨_, (pss_cons (ps_set (i := 1) sc__law_length.nd rfl (Or.inl rfl) (pe_callB (lenK (K := K)) (by rfl) T.g_len (by decide +kernel) (pa_cons (pe_ix (ixTK (K := K)) (pv 0) pe_int (fun _ _ => rfl)) pa_nil)))
    (pss_cons (ps_while own_cx (pt_cmpR op_gt (pe_op op_mod (pv 1) (pe_callB (lenK (K := K)) (by rfl) T.g_len (by decide +kernel) (pa_cons (pe_ix (ixTK (K := K)) (pv 0) pe_int (fun _ _ => rfl)) pa_nil))) pe_int (nomark _))
      (pss_one (ps_set (i := 1) sc__law_length.nd rfl (Or.inl rfl) (pe_op op_add (pv 1) (pe_callB (lenK (K := K)) (by rfl) T.g_len (by decide +kernel) (pa_cons (pe_ix (ixTK (K := K)) (pv 0) pe_int (fun _ _ => rfl)) pa_nil))))))
    (pss_one (ps_ret (pv 1))))), ?_⟩
  have S := SqT.of (K := K) hP.at_
  have St := SqT.of (K := K) hP.tkA
  have Sc := SqT.of (K := K) hP.clA
  refine ⟨_, rfl, t, _, 1, _, rfl, rfl, S, at3 (j := 1) rfl, tp, _, rfl, .inr St, ?_⟩
  refine ⟨fun mm σ H2 => ∃ q : Nat, 0 < q ∧ (∀ j, 0 < j → j < q → ¬ cl.length ∣ j * tk.length) ∧ σ = [some (.ref t), some (vn (q * tk.length))] ∧ H2 = H ∧ mm = 300 - q * tk.length, ⟨_, 1, by omega, fun j h1 h2 => by omega, ?_, rfl, rfl⟩, ?_⟩
  · rw [Nat.one_mul, List.length_map]
    rfl
  · rintro mm σ H2 ⟨q, q0, no, rfl, rfl, rfl⟩
    have le := below_lcm (c := cl.length) no n0 c0
    have le2 : q * tk.length ≤ 144 := Nat.le_trans le p144
    refine ⟨_, rfl, _, rfl, t, _, 2, _, rfl, rfl, S, at3 (j := 2) rfl, cp, _, rfl, .inr Sc, _, _, rfl, rfl, (by show (0 : Int) < ((cl.map vn).length : Int); rw [List.length_map]; omega), _, _, rfl, rfl, _, rfl, ?_⟩
    have em : ((q * tk.length : Nat) : Int) % ((cl.map vn).length : Int) = ((q * tk.length % cl.length : Nat) : Int) := by rw [List.length_map]; exact (Int.natCast_emod _ _).symm
    rw [em]
    refine ite2 (fun c => ?_) (fun c => ?_)
    · have c2 : (0 : Int) < ((q * tk.length % cl.length : Nat) : Int) := of_decide_eq_true c
      refine ⟨_, fun σ' H' z => z, ?_⟩
      refine ⟨_, rfl, _, rfl, t, _, 1, _, rfl, rfl, S, at3 (j := 1) rfl, tp, _, rfl, .inr St, _, _, rfl, rfl, ?_⟩
      refine ⟨300 - (q + 1) * tk.length, by rw [Nat.succ_mul]; omega, q + 1, by omega, fun j j0 jq => ?_, ?_, rfl, rfl⟩
      · rcases Nat.lt_or_ge j q with lt | ge
        · exact no j j0 lt
        · obtain rfl : j = q := by omega
          intro d
          have := Nat.mod_eq_zero_of_dvd d
          omega
      · rw [List.length_map, Nat.succ_mul]
        have e : V.int (((q * tk.length : Nat) : Int) + ((tk.length : Nat) : Int)) = vn (q * tk.length + tk.length) := vn_int (Int.natCast_add _ _).symm
        rw [← e]
        rfl
    · have c2 : ¬ (0 : Int) < ((q * tk.length % cl.length : Nat) : Int) := fun h => c (decide_eq_true h)
      have d : cl.length ∣ q * tk.length := Nat.dvd_of_mod_eq_zero (by omega)
      have e := least_lcm q0 d no n0 c0
      refine ⟨_, rfl, ?_⟩
      show Q (vn (q * tk.length)) _
      rw [e]
      exact k
theorem ok__law_counts (T : Txt K mg) : OkF P w K mg base 1 (He.ga K "_law_counts") ["_law_parts", "_law_ticks"] spCounts := by
  refine FnP.okF T.f__law_counts sc__law_counts (fun _ _ _ _ _ _ us hl => match us, hl with | [_, _], _ => rfl) (fun vs H Q E h => ?_) (fun cdv A outer s H vs Q E hr h => ?_)
  · obtain ⟨t, _, _, _, _, _, _, _, rfl, _⟩ := h
    rfl
  obtain ⟨t, tp, cp, m, lt, tk, cl, n, rfl, hP, hn, k⟩ := h
  have n0 := hP.ok.tkP.pos
  have c0 := hP.ok.clP.pos
  refine ⟨_, (pss_cons (ps_par (i := 2) (j := 3) (by rfl) sc__law_counts.nd rfl rfl (by decide) rfl rfl (pa_cons (pe_lst (pa_cons pe_int pa_nil)) (pa_cons (pe_lst (pa_cons pe_int pa_nil)) pa_nil)) (by rfl))
    (pss_cons (ps_for own_cx rfl (pi_range1 (by rfl) T.g_range (pa_cons (pv 1) pa_nil)) (pg_name (i := 4) sc__law_counts.nd rfl (Or.inl rfl))
      (pss_cons (ps_expr (pe_bm PySem.F.plainAttrs_list PySem.F.slot_list_append PySem.F.type_list_append mt_append (pv 2) (pa_cons (pe_op op_add (pe_ix (ixLK (K := K)) (pv 2) (pe_un un_neg pe_int) (fun _ _ => rfl)) (pe_ix (ixTK (K := K)) (pe_ix (ixTK (K := K)) (pv 0) pe_int (fun _ _ => rfl)) (pe_op op_mod (pv 4) (pe_callB (lenK (K := K)) (by rfl) T.g_len (by decide +kernel) (pa_cons (pe_ix (ixTK (K := K)) (pv 0) pe_int (fun _ _ => rfl)) pa_nil))) (fun _ _ => rfl))) pa_nil)))
    (pss_one (ps_expr (pe_bm PySem.F.plainAttrs_list PySem.F.slot_list_append PySem.F.type_list_append mt_append (pv 3) (pa_cons (pe_callB (show CallR _ (.builtin "min") Rd.rMin2 from call_min2 (by rfl)) (by rfl) T.g_min (by decide +kernel) (pa_cons (pe_ix (ixLK (K := K)) (pv 2) (pe_un un_neg pe_int) (fun _ _ => rfl)) (pa_cons (pe_op op_add (pe_ix (ixLK (K := K)) (pv 3) (pe_un un_neg pe_int) (fun _ _ => rfl)) (pe_ix (ixTK (K := K)) (pe_ix (ixTK (K := K)) (pv 0) pe_int (fun _ _ => rfl)) (pe_op op_mod (pv 4) (pe_callB (lenK (K := K)) (by rfl) T.g_len (by decide +kernel) (pa_cons (pe_ix (ixTK (K := K)) (pv 0) pe_int (fun _ _ => rfl)) pa_nil))) (fun _ _ => rfl))) pa_nil))) pa_nil))))))
    (pss_one (ps_ret (pe_tup (pa_cons (pv 2) (pa_cons (pv 3) pa_nil))))))), ?_⟩
  refine ⟨(by show 1 ≤ sizeLine; decide), fun a ha => ⟨(by show 1 ≤ sizeLine; decide), fun b hb => ⟨_, _, rfl, ?_⟩⟩⟩
  have nab : a ≠ b := fun e => by rw [← e, upd_same] at hb; cases hb
  have hb0 : H b = none := by rw [upd_ne nab.symm] at hb; exact hb
  have Sab : ∀ x y, Same H (upd (upd H a x) b y) := fun x y q o e => by
    rw [upd_ne (ne_of_none e hb0), upd_ne (ne_of_none e ha)]
    exact e
  refine ⟨_, rfl, (n : Int), rfl, by omega, by omega, for_range (lo := 0) (n := ((n : Int)).toNat) (fun i σ H2 => ∃ v, σ = [some (.ref t), some (vn n), some (.ref a), some (.ref b), v] ∧ H2 = upd (upd H a (.lst (fV (tak tk) i))) b (.lst (fV (cal tk cl) i)))
    ⟨_, rfl, rfl⟩ ?_ ?_⟩
  · rintro i σ H2 hi ⟨v, rfl, rfl⟩
    have hi2 : i < n := by simpa using hi
    have P2 : ∀ x y, PartsAt (upd (upd H a x) b y) t m tp tk cp cl lt := fun x y => hP.same (Sab x y)
    generalize hX : HO.lst (fV (tak tk) i) = X
    have hA : ∀ y, upd (upd H a X) b y a = some X := fun y => by rw [upd_ne nab]; exact upd_same
    have La : ∀ y, SqL K (upd (upd H a X) b y) a (fV (tak tk) i) := fun y => SqL.of (by rw [hA, hX])
    have St := fun x y => SqT.of (K := K) (P2 x y).at_
    have last1 : atI (fV (tak tk) i) (-(1 : Int)) = some (vn (tak tk i)) := at_last fV_len (fV_at (Nat.le_refl i))
    -- taken.append(taken[-1] + takes[tick % n])
    refine ⟨_, rfl, .inl ⟨rfl, _, La _⟩, _, rfl, 1, rfl, a, _, _, _, rfl, rfl, La _, last1, _, rfl, t, _, 1, _, rfl, rfl, St _ _, at3 (j := 1) rfl, _, rfl, _, rfl, t, _, 1, _, rfl, rfl, St _ _, at3 (j := 1) rfl, tp, _, rfl, .inr (SqT.of (P2 _ _).tkA), _, _, rfl, rfl,
      (by show (0 : Int) < ((tk.map vn).length : Int); rw [List.length_map]; omega), tp, _, _, _, rfl, rfl, SqT.of (P2 _ _).tkA, pat_at n0 (Int.zero_add _), _, _, rfl, rfl, ?_⟩
    refine ⟨a, _, _, rfl, rfl, by rw [hA, hX], small10k (by rw [fV_len]; omega), ?_⟩
    have e1 : fV (tak tk) i ++ [V.int ((tak tk i : Int) + (atp tk i : Int))] = fV (tak tk) (i + 1) := by
      rw [fV_succ]
      rfl
    rw [e1]
    have sw : upd (upd (upd H a X) b (.lst (fV (cal tk cl) i))) a (.lst (fV (tak tk) (i + 1))) = upd (upd H a (.lst (fV (tak tk) (i + 1)))) b (.lst (fV (cal tk cl) i)) := by
      funext q
      unfold upd
      by_cases h1 : q = a
      · rw [if_pos h1, if_neg (by rw [h1]; exact nab), if_pos h1]
      · rw [if_neg h1, if_neg h1]
        by_cases h2 : q = b
        · rw [if_pos h2, if_pos h2]
        · rw [if_neg h2, if_neg h2, if_neg h1]
    rw [sw]
    have La2 : SqL K (upd (upd H a (.lst (fV (tak tk) (i + 1)))) b (.lst (fV (cal tk cl) i))) a (fV (tak tk) (i + 1)) := SqL.of (by rw [upd_ne nab]; exact upd_same)
    have Lb2 : SqL K (upd (upd H a (.lst (fV (tak tk) (i + 1)))) b (.lst (fV (cal tk cl) i))) b (fV (cal tk cl) i) := SqL.of upd_same
    have last2 : atI (fV (tak tk) (i + 1)) (-(1 : Int)) = some (vn (tak tk (i + 1))) := at_last fV_len (fV_at (Nat.le_refl (i + 1)))
    have last3 : atI (fV (cal tk cl) i) (-(1 : Int)) = some (vn (cal tk cl i)) := at_last fV_len (fV_at (Nat.le_refl i))
    -- called.append(min(taken[-1], called[-1] + calls[tick % n]))
    refine ⟨_, rfl, .inl ⟨rfl, _, Lb2⟩, _, rfl, 1, rfl, a, _, _, _, rfl, rfl, La2, last2, _, rfl, 1, rfl, b, _, _, _, rfl, rfl, Lb2, last3, _, rfl, t, _, 2, _, rfl, rfl, St _ _, at3 (j := 2) rfl, _, rfl, _, rfl, t, _, 2, _, rfl, rfl, St _ _, at3 (j := 2) rfl, cp, _, rfl, .inr (SqT.of (P2 _ _).clA), _, _, rfl, rfl,
      (by show (0 : Int) < ((cl.map vn).length : Int); rw [List.length_map]; omega), cp, _, _, _, rfl, rfl, SqT.of (P2 _ _).clA, pat_at c0 (Int.zero_add _), _, _, rfl, rfl, _, _, rfl, ?_⟩
    refine ⟨b, _, _, rfl, rfl, upd_same, small10k (by rw [fV_len]; omega), _, rfl, ?_⟩
    rw [upd_upd, fV_succ (f := cal tk cl)]
    have e2 : V.int (if ((cal tk cl i : Int) + (atp cl i : Int)) < (tak tk (i + 1) : Int) then ((cal tk cl i : Int) + (atp cl i : Int)) else (tak tk (i + 1) : Int)) = vn (cal tk cl (i + 1)) := by
      refine vn_int ?_
      have : cal tk cl (i + 1) = min (tak tk (i + 1)) (cal tk cl i + atp cl i) := rfl
      rw [this]
      split <;> omega
    rw [← e2]
  · rintro σ H2 ⟨v, rfl, rfl⟩
    have en : ((n : Int)).toNat = n := by simp
    rw [en]
    refine ⟨_, rfl, _, rfl, (by show 2 ≤ sizeLine; decide), fun r hr' => ?_⟩
    have nra : r ≠ a := fun e => by rw [e, upd_ne nab, upd_same] at hr'; cases hr'
    have nrb : r ≠ b := fun e => by rw [e, upd_same] at hr'; cases hr'
    have hr0 : H r = none := by rw [upd_ne nrb, upd_ne nra] at hr'; exact hr'
    refine k r a b _ hr0 ha hb0 nab ((Sab _ _).trans (Same.new hr')) upd_same (by rw [upd_ne nra.symm, upd_ne nab]; exact upd_same) (by rw [upd_ne nrb.symm]; exact upd_same)
end
end Tk

/-! ### Counts that repeat -/
namespace Tk
open PySem PySem.Spec PyProof.Rows L2 Mm
structure Per (p : Nat) (f : Nat → Nat) : Prop where
  p0 : 0 < p
  p144 : p ≤ 144
  step : ∀ t, p ≤ t → f (t + p) + f p = f t + f (2 * p)
  up : f p ≤ f (2 * p)
  bd : f (2 * p) ≤ 100000
theorem Per.far {p : Nat} {f : Nat → Nat} (h : Per p f) {t : Nat} (ht : p ≤ t) : ∀ k, f (t + k * p) = f t + k * (f (2 * p) - f p)
  | 0 => by simp
  | k + 1 => by
    have ih := h.far ht k
    have q := h.step (t + k * p) (by omega)
    have u := h.up
    rw [Nat.succ_mul, Nat.succ_mul, ← Nat.add_assoc]
    omega
theorem tak_per (p : Nat) {tk : List Nat} (h : tk.length ∣ p) (h0 : 0 < p) (h144 : p ≤ 144) (h9 : ∀ x ∈ tk, x ≤ 9) : Per p (tak tk) where
  p0 := h0
  p144 := h144
  step := fun t ht => by
    have h1 := tak_add (tk := tk) p h t
    have h2 := tak_add (tk := tk) p h p
    rw [show p + p = 2 * p by omega] at h2
    omega
  up := tak_mono (by omega)
  bd := by
    have := tak_le h9 (2 * p)
    omega
theorem cal_Per {tk cl : List Nat} (h1 : Pat tk) (h2 : Pat cl) : Per (per tk cl) (cal tk cl) where
  p0 := per_pos h1.pos h2.pos
  p144 := per_144 h1 h2
  step := fun t ht => cal_per (per_pos h1.pos h2.pos) per_tk per_cl ht
  up := cal_mono (by omega)
  bd := by
    have a := tak_le h1.nine (2 * per tk cl)
    have b := cal_le (tk := tk) (cl := cl) (2 * per tk cl)
    have c := per_144 h1 h2
    omega
end Tk

/-! ### tick_of, by what its function counts -/
namespace Tk
open PySem PySem.Spec PyProof.Rows L2 Mm LamX
/-- what tick_of answers: F counts, p is the period -/
inductive TickIs (F : Nat → Nat) (p n : Nat) : V → Prop where
  | no (h1 : F p ≤ n) (h2 : F (2 * p) = F p) : TickIs F p n .non
  | at_ (T : Nat) (h1 : F T ≤ n) (h2 : n < F (T + 1)) (h3 : n < F p ∨ F (2 * p) ≠ F p) : TickIs F p n (vn T)
section
variable {X : Cx}
def TTick (c' : Addr) (q : Str) (tl : V → Hp → VK → Prop) (ys : List V) (H : Hp) (Q : VK) : Prop := ∃ (p n : Nat) (F : Nat → Nat), ys = [vn p, vn n] ∧ H c' = some (CodeO c' q) ∧ Per p F ∧ (∀ t, F t ≤ F (t + 1)) ∧ F 0 = 0 ∧
  (∀ (z : Nat) H1 Q1, Same H H1 → (∀ H', Same H1 H' → Q1 (vn (F z)) H') → tl (vn z) H1 Q1) ∧ ∀ v H', Same H H' → TickIs F p n v → Q v H'
end
end Tk

/-! ### Tables of code objects along the way -/
namespace Tk
open PySem PySem.Spec PyProof.Rows L2 Mm LamX
/-- the name of a function that the def x makes -/
def qnm (x : Str) : Str := (x ++ ".<locals>.") ++ "<lambda>"
/-- the tables and the names of what they tell -/
def TT (K : PySem.W.Frag) : List (Addr × Str) := mkl.map fun p => ((ctAt K (p.1 K)).2, qnm p.2)
structure Tbs (K : PySem.W.Frag) (mg : Str → Option Value) (base : Heap) : Prop where
  all : ∀ p ∈ mkl, TabB base mg (ctAt K (p.1 K)).1 (ctAt K (p.1 K)).2
  apart : (mkl.map fun p => (ctAt K (p.1 K)).2).Nodup
theorem uniq1 : ∀ {l : List (Addr × Str)}, (l.map (·.1)).Nodup → ∀ {x : Addr × Str}, x ∈ l → ∀ p ∈ l, p.1 = x.1 → p.2 = x.2
  | [], _, _, h, _, _, _ => by cases h
  | a :: l, nd, x, hx, p, hp, e => by
    obtain ⟨n1, n2⟩ := List.nodup_cons.mp (show (a.1 :: l.map (·.1)).Nodup from nd)
    rcases List.mem_cons.mp hx with e1 | e1 <;> rcases List.mem_cons.mp hp with e2 | e2
    · rw [e1, e2]
    · subst e1
      exact absurd (List.mem_map.mpr ⟨p, e2, e⟩) n1
    · subst e2
      exact absurd (List.mem_map.mpr ⟨x, e1, e.symm⟩) n1
    · exact uniq1 n2 e1 p e2 e
theorem Tbs.x {K : PySem.W.Frag} {mg : Str → Option Value} {base : Heap} (t : Tbs K mg base) {p : Mk_ × Str} (hp : p ∈ mkl) : ∀ y ∈ TT K, y.1 = (ctAt K (p.1 K)).2 → y.2 = qnm p.2 := fun y hy e => by
  refine uniq1 (l := TT K) (x := ((ctAt K (p.1 K)).2, qnm p.2)) ?_ (List.mem_map.mpr ⟨p, hp, rfl⟩) y hy e
  show ((mkl.map fun p => ((ctAt K (p.1 K)).2, qnm p.2)).map (·.1)).Nodup
  rw [List.map_map]
  exact t.apart
theorem Tbs.tx {P : Program} {w : World} {K : PySem.W.Frag} {mg : Str → Option Value} {base : Heap} {N : List Str} {scope : Scope} {f : Addr} {A : Around} {outer : List Env} {s : Shared} {H : Hp} {E : XK} {CX : CXT} (t : Tbs K mg base) {p : Mk_ × Str} (hp : p ∈ mkl) {cdv : Value} (hc : cdv = .ref (codeAt K (p.1 K))) :
    TabX (cxOf CX P w K mg base N p.2 scope f cdv A outer s H E) (TT K) :=
  ⟨(ctAt K (p.1 K)).1, (ctAt K (p.1 K)).2, t.all p hp, hc, List.mem_map.mpr ⟨p, hp, rfl⟩, t.x hp⟩
/-- all but tables stays, the tables tell what they should -/
def Ext (K : PySem.W.Frag) (H H' : Hp) : Prop := ExtN H H' ∧ Tabs (TT K) H'
section
variable {K : PySem.W.Frag} {H H1 H2 : Hp}
theorem extn_same (a : Same H H1) : ExtN H H1 := fun b o e _ => a b o e
theorem Ext.trans (a : Ext K H H1) (b : Ext K H1 H2) : Ext K H H2 := ⟨a.1.trans b.1, b.2⟩
theorem Ext.of (t : Tabs (TT K) H) (a : Same H H1) : Ext K H H1 := ⟨extn_same a, t.ext a⟩
theorem Ext.same (a : Ext K H H1) (b : Same H1 H2) : Ext K H H2 := a.trans (.of a.2 b)
theorem Ext.lst (a : Ext K H H1) {b : Addr} {xs : List V} (e : H b = some (.lst xs)) : H1 b = some (.lst xs) := a.1 _ _ e fun _ z => by cases z
theorem Ext.tup (a : Ext K H H1) {b : Addr} {xs : List V} (e : H b = some (.tup xs)) : H1 b = some (.tup xs) := a.1 _ _ e fun _ z => by cases z
theorem Ext.ins (a : Ext K H H1) {b c d : Addr} {xs : List (Str × V)} (e : H b = some (.ins c d xs)) : H1 b = some (.ins c d xs) := a.1 _ _ e fun _ z => by cases z
theorem HallAt.ext {C h lp : Addr} {m lt : Nat} {tk cl : List Nat} (p : HallAt C H h m tk cl lt lp) (b : Ext K H H1) : HallAt C H1 h m tk cl lt lp := by
  obtain ⟨dx, tp, cp, h1, h2, h3⟩ := p.ex
  exact ⟨⟨dx, tp, cp, b.ins h1, b.tup h2, b.tup h3⟩, b.lst p.lst, p.ok⟩
theorem PartsAt.ext {t tp cp : Addr} {m lt : Nat} {tk cl : List Nat} (p : PartsAt H t m tp tk cp cl lt) (b : Ext K H H1) : PartsAt H1 t m tp tk cp cl lt :=
  ⟨b.tup p.at_, b.tup p.tkA, b.tup p.clA, p.ok⟩
/-- the tables bear a change of the list at d -/
theorem tabs_but {d : Addr} {cs : List V} {T : List (Addr × Str)} (t : Tabs T H) (hd : H d = some (.lst cs)) (b : But d H H1) : Tabs T H1 := fun p hp => by
  obtain ⟨ps, h1, h2, h3⟩ := t p hp
  refine ⟨ps, b _ _ (fun z => by rw [z, hd] at h1; cases h1) h1, h2, fun pos cv hc => ?_⟩
  obtain ⟨c, e1, e2⟩ := h3 pos cv hc
  refine ⟨c, e1, b _ _ (fun z => ?_) e2⟩
  rw [z, hd] at e2
  have := Option.some.inj e2
  unfold CodeO at this
  cases this
theorem tabs_nil {T : List (Addr × Str)} (h : ∀ p ∈ T, H p.1 = some (.tbl #[])) : Tabs T H := fun p hp => TabS.nil (h p hp)
end
end Tk

/-! ### tick_of_take, tick_of_call, ticket_times, display -/
namespace Tk
open PySem PySem.Spec PyProof.Rows L2 Mm LamX
def spTickOf (K : PySem.W.Frag) (C : Addr) (F : List Nat → List Nat → Nat → Nat) : Sp := fun vs H Q _ => ∃ (h lp : Addr) (n m lt : Nat) (tk cl : List Nat), vs = [.ref h, vn n] ∧ HallAt C H h m tk cl lt lp ∧ Tabs (TT K) H ∧
  ∀ v H', Ext K H H' → TickIs (F tk cl) (per tk cl) n v → Q v H'
section
variable {P : Program} {w : World} {K : PySem.W.Frag} {mg : Str → Option Value} {base : Heap}
/-- what ticket_times answers -/
inductive TimesIs (tk cl : List Nat) (n : Nat) (H : Hp) : V → Prop where
  | no (h : TickIs (tak tk) (per tk cl) n .non) : TimesIs tk cl n H .non
  | at_ (T : Nat) (v : V) (r : Addr) (hr : H r = some (.tup [vn T, v])) (h1 : TickIs (tak tk) (per tk cl) n (vn T)) (h2 : TickIs (cal tk cl) (per tk cl) n v) : TimesIs tk cl n H (.ref r)
def spTimes (K : PySem.W.Frag) (C : Addr) : Sp := fun vs H Q _ => ∃ (h lp : Addr) (n m lt : Nat) (tk cl : List Nat), vs = [.ref h, vn n] ∧ n ≤ 1000000000000000000 ∧ HallAt C H h m tk cl lt lp ∧ Tabs (TT K) H ∧
  ∀ v H', Ext K H H' → TimesIs tk cl n H' v → Q v H'
def dispV (m : Nat) (tk cl : List Nat) (t : Nat) : V := if cal tk cl (t + 1) = 0 then .non else vn ((cal tk cl (t + 1) - 1) % m)
def spDisplay (C : Addr) : Sp := fun vs H Q _ => ∃ (h lp : Addr) (t m lt : Nat) (tk cl : List Nat), vs = [.ref h, vn t] ∧ t ≤ 1000000000000000000 ∧ HallAt C H h m tk cl lt lp ∧ Q (dispV m tk cl t) H
theorem ok_display (T : Txt K mg) : OkF P w K mg base 4 (He.ga K "display") ["hall", "tick"] (spDisplay (He.ga K "Hall")) := by
  have G_check_tick : OkF P w K mg base 2 (He.ga K "check_tick") ["tick"] spTick := ok_check_tick T
  have G_called : OkF P w K mg base 3 (He.ma K (He.ga K "Hall") "called") ["self", "tick"] (spCalled (He.ga K "Hall")) := ok_called T
  refine FnP.okF T.f_display sc_display (fun _ _ _ _ _ _ us hl => match us, hl with | [_, _], _ => rfl) (fun vs H Q E h => ?_) (fun cdv A outer s H vs Q E hr h => ?_)
  · obtain ⟨h, _, _, _, _, _, _, rfl, _⟩ := h
    rfl
  obtain ⟨h, lp, t, m, lt, tk, cl, rfl, ht, hA, k⟩ := h
  refine ⟨_, (pss_cons (ps_expr (pe_call G_check_tick.one (hr.mono (by decide)) (by rfl) T.g_check_tick G_check_tick.kp G_check_tick.two .nil passL (pa_cons (pv 1) pa_nil)))
    (pss_cons (ps_set (i := 2) sc_display.nd rfl (Or.inl rfl) (pe_meth (pv 0) T.cl_Hall T.m_called G_called.one (hr.mono (by decide)) G_called.two .nil passL (pa_cons (pe_op op_add (pv 1) pe_int) pa_nil)))
    (pss_cons (ps_if (pt_cmpR op_eq (pv 2) pe_int (nomark _)) (pss_one (ps_ret pe_non)) pss_nil)
    (pss_one (ps_ret (pe_op op_mod (pe_op op_sub (pv 2) pe_int) (pe_fld (pv 0) rfl))))))), ?_⟩
  obtain ⟨dx, tp, cp, hh, htp, hcp⟩ := hA.ex
  refine ⟨_, rfl, (t : Int), rfl, by omega, by omega, ?_⟩
  refine ⟨_, rfl, h, dx, _, rfl, hh, hfs_no (by decide +kernel) (by decide +kernel) (by decide +kernel) (by decide +kernel) (by decide +kernel), _, rfl, _, _, rfl, rfl, h, lp, (t : Int) + 1, m, lt, tk, cl, rfl, hA, ?_⟩
  rw [show ((t : Int) + 1).toNat = t + 1 by omega]
  have m2 := hA.ok.m2
  unfold dispV at k
  refine ⟨_, rfl, rfl, _, rfl, ite2 (fun c => ?_) (fun c => ?_)⟩
  · have c1 : cal tk cl (t + 1) = 0 := by
      have e : V.int ((cal tk cl (t + 1) : Nat) : Int) = V.int 0 := of_decide_eq_true c
      injection e
      omega
    rw [if_pos c1] at k
    exact k
  · have c1 : ¬ cal tk cl (t + 1) = 0 := fun e => c (decide_eq_true (by rw [e]; rfl))
    rw [if_neg c1] at k
    refine ⟨_, rfl, _, _, rfl, rfl, _, rfl, h, _, dx, _, _, rfl, hh, T.cl_Hall, T.n_modulus, hfs_modulus, _, _, rfl, rfl, (by show (0 : Int) < (m : Int); omega), ?_⟩
    have ev : V.int ((((cal tk cl (t + 1) : Nat) : Int) - 1) % (m : Int)) = vn ((cal tk cl (t + 1) - 1) % m) := by
      refine vn_int ?_
      rw [show ((cal tk cl (t + 1) : Nat) : Int) - 1 = ((cal tk cl (t + 1) - 1 : Nat) : Int) by omega, Int.natCast_emod]
    rw [← ev] at k
    exact k
end
end Tk

/-! ### Reading step by step: what each reading asks, as a rule -/
namespace Tk
open PySem PySem.Spec PyProof.Rows L2
theorem Same.get {H H' : Hp} {b : Addr} {o : HO} (S : Same H H') (h : H b = some o) : H' b = some o := S b o h
theorem Same.tr {H H1 H2 : Hp} (b : Same H1 H2) (a : Same H H1) : Same H H2 := fun c o h => b c o (a c o h)
theorem Same.nw {p : Addr} {H0 H : Hp} {o : HO} (h : H p = none) (S : Same H0 H) : Same H0 (upd H p o) := fun b u e => by rw [upd_ne (ne_of_none (S b u e) h)]; exact S b u e
theorem Same.fr {H H' : Hp} {p : Addr} (S : Same H H') (h : H' p = none) : H p = none := by
  cases q : H p with
  | none => rfl
  | some o => rw [S p o q] at h; cases h
theorem sqt_sm {K : PySem.W.Frag} {H H' : Hp} {a : Addr} {xs : List V} (e : Same H H') (h : SqT K H a xs) : SqT K H' a xs := by
  rcases h with (h | ⟨o, h⟩) | h
  · exact .inl (.inl (e _ _ h))
  · exact .inl (.inr ⟨o, e _ _ h⟩)
  · exact .inr h
namespace Rd
variable {K : PySem.W.Frag} {σ : L2.St} {H : Hp} {Q : VK} {QA : List V → Hp → Prop} {QB : Bool → Hp → Prop} {D : Ends} {ta tb tc te : TE} {t : TA} {tt tu : L2.TT} {ts tr : TS}
/-! expressions -/
theorem var {i : Nat} {v : V} (h : σ[i]? = some (some v)) (k : Q v H) : tVar i σ H Q := ⟨v, h, k⟩
theorem c {v : V} (k : Q v H) : tC v σ H Q := k
theorem op {r : R2} (k : ta σ H fun x H1 => tb σ H1 fun y H2 => r x y H2 Q) : tOp r ta tb σ H Q := k
theorem un {r : V → Hp → VK → Prop} (k : ta σ H fun x H1 => r x H1 Q) : tUn r ta σ H Q := k
theorem i0 {g : Int → Int → V} {i j : Int} (k : Q (g i j) H) : rI0 g (.int i) (.int j) H Q := ⟨i, j, rfl, rfl, k⟩
theorem i1 {C : Int → Int → Prop} {g : Int → Int → V} {i j : Int} (hc : C i j) (k : Q (g i j) H) : rI C g (.int i) (.int j) H Q := ⟨i, j, rfl, rfl, hc, k⟩
theorem u1 {g : Int → V} {i : Int} (k : Q (g i) H) : rU g (.int i) H Q := ⟨i, rfl, k⟩
theorem eq {x y : V} (h : scal x y = true) (k : Q (.bl (decide (x = y))) H) : rEq x y H Q := ⟨h, k⟩
theorem ne {x y : V} (h : scal x y = true) (k : Q (.bl (!decide (x = y))) H) : rNe x y H Q := ⟨h, k⟩
def toB (Q : Bool → Hp → Prop) : VK := fun x H' => ∃ k, x = .bl k ∧ Q k H'
theorem toB_i {b : Bool} (k : QB b H) : toB QB (.bl b) H := ⟨b, rfl, k⟩
theorem tst (k : te σ H (toB QB)) : tTest te σ H QB := k
theorem bv (k : te σ H (toB QB)) : tB te σ H QB := k
def andK (tb : TE) (σ : L2.St) (Q : VK) : VK := fun x H1 => ∃ c, x = .bl c ∧ if c = true then tb σ H1 Q else Q (.bl false) H1
theorem andV (k : ta σ H (andK tb σ Q)) : tAndV ta tb σ H Q := k
theorem andK_i {b : Bool} (k : if b = true then tb σ H Q else Q (.bl false) H) : andK tb σ Q (.bl b) H := ⟨b, rfl, k⟩
def orK (tb : TE) (σ : L2.St) (Q : VK) : VK := fun x H1 => ∃ c, x = .bl c ∧ if c = true then Q (.bl true) H1 else tb σ H1 Q
theorem orV (k : ta σ H (orK tb σ Q)) : tOrV ta tb σ H Q := k
theorem orK_i {b : Bool} (k : if b = true then Q (.bl true) H else tb σ H Q) : orK tb σ Q (.bl b) H := ⟨b, rfl, k⟩
def notK (Q : VK) : VK := fun x H1 => ∃ c, x = .bl c ∧ Q (.bl (!c)) H1
theorem notV (k : ta σ H (notK Q)) : tNotV ta σ H Q := k
theorem notK_i {b : Bool} (k : Q (.bl (!b)) H) : notK Q (.bl b) H := ⟨b, rfl, k⟩
theorem and (k : tt σ H fun c H1 => if c = true then tu σ H1 QB else QB false H1) : tAnd tt tu σ H QB := k
theorem or (k : tt σ H fun c H1 => if c = true then QB true H1 else tu σ H1 QB) : tOr tt tu σ H QB := k
theorem not (k : tt σ H fun c H1 => QB (!c) H1) : tNot tt σ H QB := k
theorem tif (k : tt σ H fun c H1 => if c = true then ta σ H1 Q else tb σ H1 Q) : tIf tt ta tb σ H Q := k
theorem yes (k : QB true H) : tYes σ H QB := k
def chainK (r r' : R2) (x : V) (tc : TE) (σ : L2.St) (Q : VK) : VK := fun y H2 => r x y H2 fun z H3 => ∃ k, z = .bl k ∧ (if k = true then tc σ H3 fun w' H4 => r' y w' H4 Q else Q (.bl false) H3)
def chainL (r' : R2) (y : V) (tc : TE) (σ : L2.St) (Q : VK) : VK := fun z H3 => ∃ k, z = .bl k ∧ (if k = true then tc σ H3 fun w' H4 => r' y w' H4 Q else Q (.bl false) H3)
theorem chain {r r' : R2} (k : ta σ H fun x H1 => tb σ H1 fun y H2 => r x y H2 (chainL r' y tc σ Q)) : tChain r r' ta tb tc σ H Q := k
theorem chainL_i {r' : R2} {y : V} {b : Bool} (k : if b = true then tc σ H fun w' H4 => r' y w' H4 Q else Q (.bl false) H) : chainL r' y tc σ Q (.bl b) H := ⟨b, rfl, k⟩
/-! arguments, calls -/
theorem nil (k : QA [] H) : tNil σ H QA := k
theorem cons {tr : TA} (k : ta σ H fun x H1 => tr σ H1 fun xs H2 => QA (x :: xs) H2) : tCons ta tr σ H QA := k
def tupK (Q : VK) : List V → Hp → Prop := fun xs H1 => xs.length ≤ sizeLine ∧ ∀ p, H1 p = none → Q (.ref p) (upd H1 p (.tup xs))
theorem tup (k : t σ H (tupK Q)) : tTup t σ H Q := k
theorem tupK_i {xs : List V} (hz : xs.length ≤ 1000) (k : ∀ p H', H p = none → Same H H' → H' p = some (.tup xs) → Q (.ref p) H') : tupK Q xs H := ⟨Nat.le_trans hz (by decide), fun p hp => k p _ hp (Same.nw hp (Same.refl H)) upd_same⟩
def lstK (Q : VK) : List V → Hp → Prop := fun xs H1 => xs.length ≤ sizeLine ∧ ∀ p, H1 p = none → Q (.ref p) (upd H1 p (.lst xs))
theorem lst (k : t σ H (lstK Q)) : tLst t σ H Q := k
theorem lstK_i {xs : List V} (hz : xs.length ≤ 1000) (k : ∀ p H', H p = none → Same H H' → H' p = some (.lst xs) → Q (.ref p) H') : lstK Q xs H := ⟨Nat.le_trans hz (by decide), fun p hp => k p _ hp (Same.nw hp (Same.refl H)) upd_same⟩
def callK (sp : Sp) (dvs : List V) (Q : VK) (E : XK) : List V → Hp → Prop := fun vs H1 => sp (vs ++ dvs) H1 Q E
theorem call {sp : Sp} {dvs : List V} {E : XK} (k : t σ H (callK sp dvs Q E)) : tCall sp dvs E t σ H Q := k
theorem callK_i {sp : Sp} {vs : List V} {E : XK} (k : sp vs H Q E) : callK sp [] Q E vs H := by
  unfold callK
  rw [List.append_nil]
  exact k
def fldK (K : PySem.W.Frag) (f : Str) (Q : VK) : VK := fun x H1 => ∃ a C dx fs v, x = .ref a ∧ H1 a = some (.ins C dx fs) ∧ Cls K C ∧ NoAttr K C f ∧ fs.lookup f = some v ∧ Q v H1
theorem fld {f : Str} (k : ta σ H (fldK K f Q)) : tFld K ta f σ H Q := k
def methK (m : Str) (sp : Sp) (C : Addr) (dvs : List V) (E : XK) (t : TA) (σ : L2.St) (Q : VK) : VK := fun x H1 => ∃ a dx fs, x = .ref a ∧ H1 a = some (.ins C dx fs) ∧ fs.lookup m = none ∧ t σ H1 fun vs H2 => sp (x :: (vs ++ dvs)) H2 Q E
theorem meth {C : Addr} {m : Str} {sp : Sp} {dvs : List V} {E : XK} (k : ta σ H (methK m sp C dvs E t σ Q)) : tMeth C m sp dvs E ta t σ H Q := k
def propK (sp : Sp) (C : Addr) (dvs : List V) (E : XK) (Q : VK) : VK := fun x H1 => ∃ a dx fs, x = .ref a ∧ H1 a = some (.ins C dx fs) ∧ sp (.ref a :: dvs) H1 Q E
theorem prop {C : Addr} {sp : Sp} {dvs : List V} {E : XK} (k : ta σ H (propK sp C dvs E Q)) : tProp C sp dvs E ta σ H Q := k
def makeK (C : Addr) (sp : Sp) (dvs : List V) (E : XK) (Q : VK) : List V → Hp → Prop := fun vs H1 => ∀ x dx, H1 x = none → H1 dx = none → dx ≠ x →
  sp (.ref x :: (vs ++ dvs)) (upd (upd H1 dx (.own x)) x (.ins C dx [])) (fun v H2 => v = .non ∧ Q (.ref x) H2) E
theorem make {C : Addr} {sp : Sp} {dvs : List V} {E : XK} (k : t σ H (makeK C sp dvs E Q)) : tMake C sp dvs E t σ H Q := k
theorem cmeth {C : Addr} {sp : Sp} {E : XK} (k : ta σ H fun x H1 => x = .ref C ∧ t σ H1 fun vs H2 => sp (.ref C :: vs) H2 Q E) : ClX.tCMeth C sp E ta t σ H Q := k
theorem cb {r : List V → Hp → VK → Prop} (k : t σ H fun vs H1 => r vs H1 Q) : tCB r t σ H Q := k
def bmK (K : PySem.W.Frag) (T : String) (r : V → List V → Hp → VK → Prop) (t : TA) (σ : L2.St) (Q : VK) : VK := fun x H1 => tyV K T x H1 ∧ t σ H1 fun xs H2 => r x xs H2 Q
theorem bm {T : String} {r : V → List V → Hp → VK → Prop} (k : ta σ H (bmK K T r t σ Q)) : tBM K T r ta t σ H Q := k
theorem bmK_l {r : V → List V → Hp → VK → Prop} {p : Addr} {xs : List V} (hq : SqL K H p xs) (k : t σ H fun ys H2 => r (.ref p) ys H2 Q) : bmK K "list" r t σ Q (.ref p) H := ⟨.inl ⟨rfl, _, hq⟩, k⟩
def m0K (r : V → List V → Hp → VK → Prop) (Q : VK) : VK := fun x H1 => (∃ a, x = .str a) ∧ r x [] H1 Q
theorem m0 {r : V → List V → Hp → VK → Prop} (k : ta σ H (m0K r Q)) : tM0 r ta σ H Q := k
theorem m0K_i {r : V → List V → Hp → VK → Prop} {a : Str} (k : r (.str a) [] H Q) : m0K r Q (.str a) H := ⟨⟨a, rfl⟩, k⟩
def m1K (r : V → List V → Hp → VK → Prop) (te : TE) (σ : L2.St) (Q : VK) : VK := fun x H1 => (∃ a, x = .str a) ∧ te σ H1 fun y H2 => r x [y] H2 Q
theorem m1 {r : V → List V → Hp → VK → Prop} (k : ta σ H (m1K r te σ Q)) : tM1 r ta te σ H Q := k
theorem m1K_i {r : V → List V → Hp → VK → Prop} {a : Str} (k : te σ H fun y H2 => r (.str a) [y] H2 Q) : m1K r te σ Q (.str a) H := ⟨⟨a, rfl⟩, k⟩
/-! starred items -/
def starK (K : PySem.W.Frag) (t : TA) (σ : L2.St) (QA : List V → Hp → Prop) : VK := fun x H1 => ∃ p xs, x = V.ref p ∧ (SqT K H1 p xs ∨ SqL K H1 p xs) ∧ t σ H1 fun ys H2 => QA (xs ++ ys) H2
theorem star (k : te σ H (starK K t σ QA)) : StX.tStar K te t σ H QA := k
theorem starK_t {p : Addr} {xs : List V} (hq : SqT K H p xs) (k : t σ H fun ys H2 => QA (xs ++ ys) H2) : starK K t σ QA (.ref p) H := ⟨p, xs, rfl, .inl hq, k⟩
theorem starK_l {p : Addr} {xs : List V} (hq : SqL K H p xs) (k : t σ H fun ys H2 => QA (xs ++ ys) H2) : starK K t σ QA (.ref p) H := ⟨p, xs, rfl, .inr hq, k⟩
/-! items, lengths, slices -/
theorem ixL {p : Addr} {xs : List V} {i : Int} {v : V} (hq : SqL K H p xs) (ha : atI xs i = some v) (k : Q v H) : rIxL K (.ref p) (.int i) H Q := ⟨p, xs, i, v, rfl, rfl, hq, ha, k⟩
theorem ixT {p : Addr} {xs : List V} {i : Int} {v : V} (hq : SqT K H p xs) (ha : atI xs i = some v) (k : Q v H) : rIxT K (.ref p) (.int i) H Q := ⟨p, xs, i, v, rfl, rfl, hq, ha, k⟩
theorem ixL0 {p : Addr} {xs : List V} {v : V} (hq : SqL K H p (v :: xs)) (k : Q v H) : rIxL K (.ref p) (.int 0) H Q := ⟨p, _, 0, v, rfl, rfl, hq, atn (i := 0) rfl, k⟩
theorem ixT0 {p : Addr} {xs : List V} {v : V} (hq : SqT K H p (v :: xs)) (k : Q v H) : rIxT K (.ref p) (.int 0) H Q := ⟨p, _, 0, v, rfl, rfl, hq, atn (i := 0) rfl, k⟩
theorem lenL {p : Addr} {xs : List V} (hq : SqL K H p xs) (k : Q (.int xs.length) H) : Evl.rLenS K [.ref p] H Q := ⟨p, xs, rfl, .inl hq, k⟩
theorem lenT {p : Addr} {xs : List V} (hq : SqT K H p xs) (k : Q (.int xs.length) H) : Evl.rLenS K [.ref p] H Q := ⟨p, xs, rfl, .inr hq, k⟩
theorem mx {i j : Int} (k : Q (.int (max i j)) H) : rMax2 [.int i, .int j] H Q := ⟨i, j, rfl, by
  have e : (if j > i then j else i) = max i j := by
    rw [Int.max_def]
    split <;> split <;> omega
  rw [e]
  exact k⟩
theorem mn {i j : Int} (k : Q (.int (min i j)) H) : rMin2 [.int i, .int j] H Q := ⟨i, j, rfl, by
  have e : (if j < i then j else i) = min i j := by
    rw [Int.min_def]
    split <;> split <;> omega
  rw [e]
  exact k⟩
theorem isN {x : V} (k : Q (.bl (decide (x = .non))) H) : rIsN x .non H Q := ⟨rfl, k⟩
theorem notN {x : V} (k : Q (.bl (!decide (x = .non))) H) : rNotN x .non H Q := ⟨rfl, k⟩
theorem noPart {QO : Option Int → Hp → Prop} (k : QO none H) : tNoPart σ H QO := k
def partK (QO : Option Int → Hp → Prop) : VK := fun x H1 => ∃ i, x = .int i ∧ QO (some i) H1
theorem part {QO : Option Int → Hp → Prop} (k : ta σ H (partK QO)) : tPart ta σ H QO := k
theorem partK_i {QO : Option Int → Hp → Prop} {i : Int} (k : QO (some i) H) : partK QO (.int i) H := ⟨i, rfl, k⟩
theorem slc {r : V → Option Int → Option Int → Hp → VK → Prop} {tl th : TO} (k : ta σ H fun x H1 => tl σ H1 fun l H2 => th σ H2 fun u H3 => r x l u H3 Q) : tSl r ta tl th σ H Q := k
theorem slT {a : Addr} {xs : List V} {lo hi : Option Int} (hq : SqT K H a xs) (k : ∀ p H', Same H H' → SqT K H' p (cutV xs lo hi) → Q (.ref p) H') : rSlA K (.ref a) lo hi H Q := by
  refine ⟨a, xs, rfl, hq, fun ⟨h1, h2⟩ => ?_, fun _ p hp => k p _ (Same.nw hp (Same.refl H)) (SqT.of upd_same)⟩
  have e : cutV xs lo hi = xs := by
    unfold cutV
    rw [h1, h2]
    simp
  exact k a H (Same.refl H) (by rw [e]; exact hq)
theorem catA {a b : Addr} {xs ys : List V} (h1 : SqT K H a xs) (h2 : SqT K H b ys) (n1 : xs ≠ []) (n2 : ys ≠ []) (hz : xs.length + ys.length ≤ 1000) (k : ∀ p H', H p = none → Same H H' → H' p = some (.tup (xs ++ ys)) → Q (.ref p) H') : rCatA K (.ref a) (.ref b) H Q :=
  ⟨a, b, xs, ys, rfl, rfl, h1, h2, Nat.le_trans hz (by decide), fun e => absurd e n1, fun _ e => absurd e n2, fun _ _ p hp => k p _ hp (Same.nw hp (Same.refl H)) upd_same⟩
theorem slTr {a : Addr} {xs : List V} {lo hi : Option Int} (hq : H a = some (.tup xs)) (k : ∀ p H', Same H H' → H' p = some (.tup (cutV xs lo hi)) → Q (.ref p) H') : rSlA K (.ref a) lo hi H Q := by
  refine ⟨a, xs, rfl, SqT.of hq, fun ⟨h1, h2⟩ => ?_, fun _ p hp => k p _ (Same.nw hp (Same.refl H)) upd_same⟩
  have e : cutV xs lo hi = xs := by
    unfold cutV
    rw [h1, h2]
    simp
  exact k a H (Same.refl H) (by rw [e]; exact hq)
theorem catTr {a b : Addr} {xs ys : List V} (h1 : H a = some (.tup xs)) (h2 : H b = some (.tup ys)) (hz : xs.length + ys.length ≤ 1000) (k : ∀ p H', Same H H' → H' p = some (.tup (xs ++ ys)) → Q (.ref p) H') : rCatA K (.ref a) (.ref b) H Q :=
  ⟨a, b, xs, ys, rfl, rfl, SqT.of h1, SqT.of h2, Nat.le_trans hz (by decide), fun e => k b H (Same.refl H) (by rw [e]; exact h2), fun _ e => k a H (Same.refl H) (by rw [e, List.append_nil]; exact h1), fun _ _ p hp => k p _ (Same.nw hp (Same.refl H)) upd_same⟩
theorem slL {a : Addr} {xs : List V} {lo hi : Option Int} (hq : SqL K H a xs) (k : ∀ p H', H p = none → Same H H' → H' p = some (.lst (cutV xs lo hi)) → Q (.ref p) H') : rSlL K (.ref a) lo hi H Q :=
  ⟨a, xs, rfl, hq, fun p hp => k p _ hp (Same.nw hp (Same.refl H)) upd_same⟩
theorem lstL {p : Addr} {xs : List V} (hq : SqL K H p xs) (k : ∀ q H', H q = none → Same H H' → H' q = some (.lst xs) → Q (.ref q) H') : rLst K [.ref p] H Q := ⟨p, xs, rfl, .inl hq, fun q hp => k q _ hp (Same.nw hp (Same.refl H)) upd_same⟩
theorem lstT {p : Addr} {xs : List V} (hq : SqT K H p xs) (k : ∀ q H', H q = none → Same H H' → H' q = some (.lst xs) → Q (.ref q) H') : rLst K [.ref p] H Q := ⟨p, xs, rfl, .inr hq, fun q hp => k q _ hp (Same.nw hp (Same.refl H)) upd_same⟩
theorem tplL {p : Addr} {xs : List V} (hq : SqL K H p xs) (k : ∀ q H', H q = none → Same H H' → H' q = some (.tup xs) → Q (.ref q) H') : rTpl K [.ref p] H Q := ⟨p, xs, rfl, .inl ⟨hq, fun q hp => k q _ hp (Same.nw hp (Same.refl H)) upd_same⟩⟩
theorem addS {i j : Str} (h : i.length + j.length ≤ 100000) (k : Q (.str (i ++ j)) H) : rAddS (.str i) (.str j) H Q := ⟨i, j, rfl, rfl, Nat.le_trans h (by decide), k⟩
theorem lenS {z : Str} (h : z.length ≤ 100000) (k : Q (.int z.length) H) : rLenStr [.str z] H Q := ⟨z, rfl, Nat.le_trans h (by decide), k⟩
theorem join {a : Str} {p : Addr} {ys : List Str} (hq : SqL K H p (ys.map V.str)) (hz : (ys.map (·.length)).sum + ys.length * a.length ≤ 16777216) (k : Q (.str (Txt.join a ys)) H) : rJoin K (.str a) [.ref p] H Q := ⟨a, p, ys, rfl, rfl, .inl hq, hz, k⟩
theorem split {a b : Str} (hb : (b.length == 0) = false) (hz : a.length ≤ 100000) (k : ∀ p H', H p = none → Same H H' → H' p = some (.lst ((Txt.split a b).map V.str)) → Q (.ref p) H') : rSplit (.str a) [.str b] H Q :=
  ⟨a, b, rfl, rfl, hb, Nat.le_trans (m := 100002) (by omega) (by decide), fun p hp => k p _ hp (Same.nw hp (Same.refl H)) upd_same⟩
theorem catL {a b : Addr} {xs ys : List V} (h1 : H a = some (.lst xs)) (h2 : H b = some (.lst ys)) (hz : xs.length + ys.length ≤ 100000) (k : ∀ p H', H p = none → Same H H' → H' p = some (.lst (xs ++ ys)) → Q (.ref p) H') : rCat (.ref a) (.ref b) H Q :=
  ⟨a, b, xs, ys, rfl, rfl, h1, h2, Nat.le_trans hz (by decide), fun p hp => k p _ hp (Same.nw hp (Same.refl H)) upd_same⟩
theorem catK (k : ta σ H fun x H1 => tb σ H1 fun y H2 => rCat x y H2 Q) : tOp rCat ta tb σ H Q := k
theorem sumL {a : Addr} {ns : List Int} (hq : SqL K H a (ns.map V.int)) (k : Q (.int ns.sum) H) : rSum K [.ref a] H Q := ⟨a, ns, rfl, hq, k⟩
theorem sumT {a : Addr} {ns : List Int} (hq : SqT K H a (ns.map V.int)) (k : Q (.int ns.sum) H) : rSumT K [.ref a] H Q := ⟨a, ns, rfl, hq, k⟩
theorem int1_i {i : Int} (k : Q (.int i) H) : rInt1 [.int i] H Q := .inl ⟨i, rfl, k⟩
theorem int1_b {b : Bool} (k : Q (.int (if b = true then 1 else 0)) H) : rInt1 [.bl b] H Q := .inr ⟨b, rfl, k⟩
/-! list(range(..)) -/
def rgK (Q : VK) : Int → Int → Hp → Prop := fun a b H1 => RgOk a b ∧ ∀ q, H1 q = none → Q (.ref q) (upd H1 q (.lst (rgV a b)))
theorem lrg {tr : L2.St → Hp → (Int → Int → Hp → Prop) → Prop} (k : tr σ H (rgK Q)) : tLstRg tr σ H Q := k
def rg1K (R : Int → Int → Hp → Prop) : VK := fun x H1 => ∃ n, x = .int n ∧ R 0 n H1
theorem rg1 {R : Int → Int → Hp → Prop} (k : ta σ H (rg1K R)) : tRg1 ta σ H R := k
theorem rg1K_i {R : Int → Int → Hp → Prop} {n : Int} (k : R 0 n H) : rg1K R (.int n) H := ⟨n, rfl, k⟩
def rg2K (R : Int → Int → Hp → Prop) (x : V) : VK := fun y H2 => ∃ i j, x = .int i ∧ y = .int j ∧ R i j H2
theorem rg2 {R : Int → Int → Hp → Prop} (k : ta σ H fun x H1 => tb σ H1 (rg2K R x)) : tRg2 ta tb σ H R := k
theorem rg2K_i {R : Int → Int → Hp → Prop} {i j : Int} (k : R i j H) : rg2K R (.int i) (.int j) H := ⟨i, j, rfl, rfl, k⟩
/-! targets, statements -/
theorem name {i : Nat} {v : V} {QS : L2.St → Hp → Prop} (k : QS (σ.set i (some v)) H) : gName i v σ H QS := k
theorem gtup {n : Nat} {tg : TGs} {a : Addr} {xs : List V} {QS : L2.St → Hp → Prop} (hq : SqT K H a xs) (hl : xs.length = n) (k : tg xs σ H QS) : gTup K n tg (.ref a) σ H QS := ⟨a, xs, rfl, hq, hl, k⟩
theorem glst {n : Nat} {tg : TGs} {a : Addr} {xs : List V} {QS : L2.St → Hp → Prop} (hq : SqL K H a xs) (hl : xs.length = n) (k : tg xs σ H QS) : gLst K n tg (.ref a) σ H QS := ⟨a, xs, rfl, hq, hl, k⟩
theorem gcons {tg : TG} {tu : TGs} {v : V} {r : List V} {QS : L2.St → Hp → Prop} (k : tg v σ H fun σ' H' => tu r σ' H' QS) : gCons tg tu (v :: r) σ H QS := ⟨v, r, rfl, k⟩
theorem gnil {QS : L2.St → Hp → Prop} (k : QS σ H) : gNil [] σ H QS := ⟨rfl, k⟩
theorem seq (k : ts { D with nx := tr D } σ H) : tSeq ts tr D σ H := k
theorem next (k : D.nx σ H) : tNext D σ H := k
theorem cont (k : D.ct σ H) : tCont D σ H := k
theorem drop (k : te σ H fun _ H1 => D.nx σ H1) : tDrop te D σ H := k
theorem ret (k : te σ H D.rt) : tRet te D σ H := k
theorem retN (k : D.rt .non H) : tRetN D σ H := k
theorem ifS (k : tt σ H fun b H1 => if b = true then ts D σ H1 else tr D σ H1) : tIfS tt ts tr D σ H := k
theorem asg {g : TG} (k : te σ H fun x H1 => g x σ H1 D.nx) : tAsg te g D σ H := k
def parK (i j : Nat) (σ : L2.St) (D : Ends) : List V → Hp → Prop := fun vs H1 => ∃ v w, vs = [v, w] ∧ D.nx ((σ.set i (some v)).set j (some w)) H1
theorem par {i j : Nat} (k : t σ H (parK i j σ D)) : tPar i j t D σ H := k
theorem parK_i {i j : Nat} {v w : V} (k : D.nx ((σ.set i (some v)).set j (some w)) H) : parK i j σ D [v, w] H := ⟨v, w, rfl, k⟩
def par3K (i j l : Nat) (σ : L2.St) (D : Ends) : List V → Hp → Prop := fun vs H1 => ∃ u v w, vs = [u, v, w] ∧ D.nx (((σ.set i (some u)).set j (some v)).set l (some w)) H1
theorem par3 {i j l : Nat} (k : t σ H (par3K i j l σ D)) : tPar3 i j l t D σ H := k
theorem par3K_i {i j l : Nat} {u v w : V} (k : D.nx (((σ.set i (some u)).set j (some v)).set l (some w)) H) : par3K i j l σ D [u, v, w] H := ⟨u, v, w, rfl, k⟩
theorem aug {i : Nat} {x : V} {ti : TIp} (h : σ[i]? = some (some x)) (k : te σ H fun y H1 => ti x y H1 fun z H2 => D.nx (σ.set i (some z)) H2) : tAug i te ti D σ H := ⟨x, h, k⟩
theorem ip {f : Int → Int → Int} {i j : Int} (k : Q (.int (f i j)) H) : ipI f (.int i) (.int j) H Q := ⟨i, j, rfl, rfl, k⟩
theorem ift {A B : Prop} (h : A) : if true = true then A else B := by rw [if_pos rfl]; exact h
theorem iff {A B : Prop} (h : B) : if false = true then A else B := by rw [if_neg Bool.false_ne_true]; exact h
theorem ifnt {A B : Prop} (h : B) : if (!true) = true then A else B := by rw [if_neg (by decide)]; exact h
theorem ifnf {A B : Prop} (h : A) : if (!false) = true then A else B := by rw [if_pos (show (!false) = true from rfl)]; exact h
theorem inS {x : V} {p : Addr} {xs : List V} (hq : SqL K H p xs ∨ SqT K H p xs) (fx : flatV x = true) (fs : xs.all flatV = true) (k : Q (.bl (inV x xs)) H) : rIn K false x (.ref p) H Q := ⟨p, xs, rfl, hq, fx, fs, by rw [if_neg (by decide)]; exact k⟩
theorem niS {x : V} {p : Addr} {xs : List V} (hq : SqL K H p xs ∨ SqT K H p xs) (fx : flatV x = true) (fs : xs.all flatV = true) (k : Q (.bl (!inV x xs)) H) : rIn K true x (.ref p) H Q := ⟨p, xs, rfl, hq, fx, fs, by rw [if_pos rfl]; exact k⟩
theorem bb {b : Bool} {A B : Prop} (h1 : b = true → A) (h2 : b = false → B) : if b = true then A else B := by
  cases b with
  | true => exact ift (h1 rfl)
  | false => exact iff (h2 rfl)
/-! tests whose answer is known, or both -/
section
variable {A B : Prop} {p : Prop} {ip : Decidable p} {a b : Int}
theorem dT (h : p) (k : A) : if decide p = true then A else B := by rw [if_pos (decide_eq_true h)]; exact k
theorem dF (h : ¬ p) (k : B) : if decide p = true then A else B := by rw [if_neg (by rw [decide_eq_false h]; decide)]; exact k
theorem nT (h : p) (k : B) : if (!decide p) = true then A else B := by rw [decide_eq_true h]; exact ifnt k
theorem nF (h : ¬ p) (k : A) : if (!decide p) = true then A else B := by rw [decide_eq_false h]; exact ifnf k
theorem d2 (h1 : p → A) (h2 : ¬ p → B) : if decide p = true then A else B := by
  by_cases h : p
  · exact dT h (h1 h)
  · exact dF h (h2 h)
theorem n2 (h1 : p → B) (h2 : ¬ p → A) : if (!decide p) = true then A else B := by
  by_cases h : p
  · exact nT h (h1 h)
  · exact nF h (h2 h)
theorem int_non {i : Int} : ¬ V.int i = V.non := fun q => by cases q
theorem ref_non {r : Addr} : ¬ V.ref r = V.non := fun q => by cases q
theorem vi (h : a ≠ b) : ¬ V.int a = V.int b := fun q => h (by injection q)
theorem eT (h : a = b) (k : A) : if decide (V.int a = V.int b) = true then A else B := dT (by rw [h]) k
theorem eF (h : a ≠ b) (k : B) : if decide (V.int a = V.int b) = true then A else B := dF (vi h) k
theorem e2 (h1 : a = b → A) (h2 : a ≠ b → B) : if decide (V.int a = V.int b) = true then A else B := by
  by_cases h : a = b
  · exact eT h (h1 h)
  · exact eF h (h2 h)
theorem neT (h : a = b) (k : B) : if (!decide (V.int a = V.int b)) = true then A else B := nT (by rw [h]) k
theorem neF (h : a ≠ b) (k : A) : if (!decide (V.int a = V.int b)) = true then A else B := nF (vi h) k
theorem ne2 (h1 : a = b → B) (h2 : a ≠ b → A) : if (!decide (V.int a = V.int b)) = true then A else B := by
  by_cases h : a = b
  · exact neT h (h1 h)
  · exact neF h (h2 h)
end
/-- a test that is false whichever way it goes -/
theorem ifF {ts tr : TS} {tt : L2.TT} {P : Hp → Prop} (h : ∀ Q : Bool → Hp → Prop, (∀ H', P H' → Q false H') → tt σ H Q) (k : ∀ H', P H' → tr D σ H') : tIfS tt ts tr D σ H := h _ fun H' p => iff (k H' p)
theorem ifT {ts tr : TS} {tt : L2.TT} {P : Hp → Prop} (h : ∀ Q : Bool → Hp → Prop, (∀ H', P H' → Q true H') → tt σ H Q) (k : ∀ H', P H' → ts D σ H') : tIfS tt ts tr D σ H := h _ fun H' p => ift (k H' p)
theorem cut {ts tr : TS} (P : L2.St → Hp → Prop) (h : ts { D with nx := P } σ H) (k : ∀ σ' H', P σ' H' → tr D σ' H') : Evl.tCut ts tr D σ H := ⟨P, h, k⟩
/-- a if c else b, both names: one value that goes on -/
theorem ifVV {c : Bool} {i j : Nat} {v u : V} (hi : σ[i]? = some (some v)) (hj : σ[j]? = some (some u)) (h : ∀ w, (c = true → w = v) → (c = false → w = u) → Q w H) : if c = true then tVar i σ H Q else tVar j σ H Q := by
  cases c with
  | true => exact ift ⟨v, hi, h v (fun _ => rfl) (fun q => by cases q)⟩
  | false => exact iff ⟨u, hj, h u (fun q => by cases q) (fun _ => rfl)⟩
/-- a if c else b: what is known of the value goes on -/
theorem ifM {c : Bool} (P : V → Hp → Prop) (hA : c = true → ∀ K' : VK, (∀ v H', P v H' → K' v H') → ta σ H K') (hB : c = false → ∀ K' : VK, (∀ v H', P v H' → K' v H') → tb σ H K') (k : ∀ v H', P v H' → Q v H') : if c = true then ta σ H Q else tb σ H Q := by
  cases c with
  | true => exact ift (hA rfl _ k)
  | false => exact iff (hB rfl _ k)
/-! appending to what is there -/
theorem app {l : Addr} {xs : List V} {y : V} (h : H l = some (.lst xs)) (hz : xs.length < 100000) (k : Q .non (upd H l (.lst (xs ++ [y])))) : rAppend (.ref l) [y] H Q := ⟨l, xs, y, rfl, rfl, h, Nat.lt_of_lt_of_le hz (by decide), k⟩
/-! equality of data: rd_eq takes it by the data's readings -/
theorem eqD {x y : V} {d e : PyData} (h1 : L2.Dp K H x d) (h2 : L2.Dp K H y e) (s1 : SeqAt.shaped d = true) (s2 : SeqAt.shaped e = true) (k : Q (.bl (PyData.eqv d e)) H) : rEqD K x y H Q := ⟨d, e, h1, h2, s1, s2, k⟩
theorem range_get {α β : Type} (l : List α) (d : α) (g : α → β) : (List.range l.length).map (fun i => g (l.getD i d)) = l.map g := by
  refine List.ext_getElem? fun i => ?_
  rw [List.getElem?_map, List.getElem?_map]
  by_cases h : i < l.length
  · rw [List.getElem?_range h, List.getElem?_eq_getElem h]
    simp [List.getD_eq_getElem?_getD, List.getElem?_eq_getElem h]
  · rw [List.getElem?_eq_none (by simp; omega), List.getElem?_eq_none (by omega)]
    rfl
theorem getD_of {α : Type} {l : List α} {i : Nat} {x d : α} (h : l[i]? = some x) : l.getD i d = x := by
  rw [List.getD_eq_getElem?_getD, h]
  rfl
/-! what is walked -/
def rngK (R : It → Hp → Prop) : List V → Hp → Prop := fun vs H1 => ∃ j : Int, vs = [.int j] ∧ -(2 ^ 62) ≤ j ∧ j < 2 ^ 62 ∧ R (Itr 0 j.toNat) H1
theorem rng {R : It → Hp → Prop} (k : t σ H (rngK R)) : iRng1 t σ H R := k
theorem rngK_n {R : It → Hp → Prop} {n : Nat} (h : n ≤ 1000000000) (k : R (Itr 0 n) H) : rngK R [.int (n : Int)] H := ⟨n, rfl, by omega, by omega, by rw [Int.toNat_natCast]; exact k⟩
theorem rngK_z {R : It → Hp → Prop} {z : Int} (h : z.toNat ≤ 1000000000) (h0 : -1000000000 ≤ z) (k : R (Itr 0 z.toNat) H) : rngK R [.int z] H := ⟨z, rfl, by omega, by omega, k⟩
theorem rngK_lit {R : It → Hp → Prop} {n : Nat} (h : n ≤ 1000000000) (k : R (Itr 0 (OfNat.ofNat n : Nat)) H) : rngK R [.int (OfNat.ofNat n : Int)] H := rngK_n h k
def rng2K (R : It → Hp → Prop) : List V → Hp → Prop := fun vs H1 => ∃ i j : Int, vs = [.int i, .int j] ∧ (-(2 ^ 62) ≤ i ∧ i < 2 ^ 62 ∧ -(2 ^ 62) ≤ j ∧ j < 2 ^ 62) ∧ R (Itr i (j - i).toNat) H1
theorem rng2 {R : It → Hp → Prop} (k : t σ H (rng2K R)) : iRng2 t σ H R := k
theorem rng2K_i {R : It → Hp → Prop} {i j : Int} (hb : -(2 ^ 62) ≤ i ∧ i < 2 ^ 62 ∧ -(2 ^ 62) ≤ j ∧ j < 2 ^ 62) (k : R (Itr i (j - i).toNat) H) : rng2K R [.int i, .int j] H := ⟨i, j, rfl, hb, k⟩
def zipK (K : PySem.W.Frag) (R : It → Hp → Prop) : List V → Hp → Prop := fun vs H1 => ∃ a b xs ys, vs = [.ref a, .ref b] ∧ ((SqL K H1 a xs ∧ SqL K H1 b ys ∧ R (L2.Itz K a b) H1) ∨ (SqT K H1 a xs ∧ SqT K H1 b ys ∧ R (RZ.ItzT K a b) H1))
theorem zip {R : It → Hp → Prop} (k : t σ H (zipK K R)) : RZ.iZipA K t σ H R := k
theorem zipK_t {R : It → Hp → Prop} {a b : Addr} {xs ys : List V} (ha : SqT K H a xs) (hb : SqT K H b ys) (k : R (RZ.ItzT K a b) H) : zipK K R [.ref a, .ref b] H := ⟨a, b, xs, ys, rfl, .inr ⟨ha, hb, k⟩⟩
def listK (K : PySem.W.Frag) (R : It → Hp → Prop) : VK := fun x H1 => ∃ a, x = .ref a ∧ (∃ xs, SqL K H1 a xs) ∧ R (Itl K a) H1
theorem ilist {R : It → Hp → Prop} (k : ta σ H (listK K R)) : iList K ta σ H R := k
theorem listK_i {R : It → Hp → Prop} {a : Addr} {xs : List V} (hq : SqL K H a xs) (k : R (Itl K a) H) : listK K R (.ref a) H := ⟨a, rfl, ⟨xs, hq⟩, k⟩
def ituK (K : PySem.W.Frag) (R : It → Hp → Prop) : VK := fun x H1 => ∃ a, x = .ref a ∧ (∃ xs, SqT K H1 a xs) ∧ R (Itt K a) H1
theorem itup {R : It → Hp → Prop} (k : ta σ H (ituK K R)) : iTup K ta σ H R := k
theorem ituK_i {R : It → Hp → Prop} {a : Addr} {xs : List V} (hq : SqT K H a xs) (k : R (Itt K a) H) : ituK K R (.ref a) H := ⟨a, rfl, ⟨xs, hq⟩, k⟩
def forK (g : TG) (tb : TS) (D : Ends) (σ : L2.St) (J : It) (H1 : Hp) : Prop := ∃ W : Nat → Nat → L2.St → Hp → Prop, (∃ m, W 0 m σ H1) ∧ ∀ i m σ H, W i m σ H →
  (J.stop i H ∧ D.nx σ H) ∨ (J.go i H ∧ ∃ N : L2.St → Hp → Prop, (∀ σ' H', N σ' H' → ∃ m', m' < m ∧ W (i + 1) m' σ' H') ∧ ∀ x H', J.yld i H x H' → g x σ H' fun σ2 H2 => tb { D with nx := N, ct := N, bk := D.nx } σ2 H2)
theorem tfor {wi : TI} {g : TG} (k : wi σ H (forK g ts D σ)) : tFor wi g ts D σ H := k
def lcK (g : TG) (tt : L2.TT) (te : TE) (vs : List Nat) (σ : L2.St) (Q : VK) (J : It) (H1 : Hp) : Prop := ∀ D, H1 D = none → ∃ W : Nat → Nat → Hp → Prop, (∃ m, W 0 m (upd H1 D (.lst []))) ∧ ∀ i m H, W i m H →
  (J.stop i H ∧ Q (.ref D) H) ∨ (J.go i H ∧ ∃ Nx : Hp → Prop, (∀ H', Nx H' → ∃ m', m' < m ∧ W (i + 1) m' H') ∧ ∀ x H', J.yld i H x H' → g x (wipe σ vs) H' fun σ2 H2 => wipe σ2 vs = wipe σ vs ∧ tt σ2 H2 fun b H3 =>
    if b = true then te σ2 H3 fun y H4 => ∃ acc, H4 D = some (.lst acc) ∧ acc.length < sizeLine ∧ Nx (upd H4 D (.lst (acc ++ [y]))) else Nx H3)
theorem tlc {wi : TI} {g : TG} {vs : List Nat} (k : wi σ H (lcK g tt te vs σ Q)) : tLc wi g tt te vs σ H Q := k
/-- for i in range(n): the items are 0, 1, .. -/
theorem for_rng {n : Nat} {g : TG} (Pv : Nat → L2.St → Hp → Prop) (h0 : Pv 0 σ H) (hs : ∀ (i : Nat) σ H, i < n → Pv i σ H → g (.int (i : Int)) σ H fun σ2 H2 => ts { D with nx := Pv (i + 1), ct := Pv (i + 1), bk := D.nx } σ2 H2) (hd : ∀ σ H, Pv n σ H → D.nx σ H) :
    forK g ts D σ (Itr 0 n) H :=
  for_range (lo := 0) (n := n) Pv h0 (fun i σ H hi p => by have z := hs i σ H hi p; rw [Int.zero_add]; exact z) hd
/-- from lo -/
theorem for_rng2 {lo : Int} {n : Nat} {g : TG} (Pv : Nat → L2.St → Hp → Prop) (h0 : Pv 0 σ H) (hs : ∀ (i : Nat) σ H, i < n → Pv i σ H → g (.int (lo + i)) σ H fun σ2 H2 => ts { D with nx := Pv (i + 1), ct := Pv (i + 1), bk := D.nx } σ2 H2) (hd : ∀ σ H, Pv n σ H → D.nx σ H) :
    forK g ts D σ (Itr lo n) H := for_range (lo := lo) (n := n) Pv h0 hs hd
theorem for_lst {a : Addr} {xs : List V} {g : TG} (Pv : Nat → L2.St → Hp → Prop) (h0 : Pv 0 σ H) (hl : ∀ i σ H, i ≤ xs.length → Pv i σ H → SqL K H a xs)
    (hs : ∀ i x σ H, xs[i]? = some x → Pv i σ H → g x σ H fun σ2 H2 => ts { D with nx := Pv (i + 1), ct := Pv (i + 1), bk := D.nx } σ2 H2) (hd : ∀ σ H, Pv xs.length σ H → D.nx σ H) : forK g ts D σ (Itl K a) H := for_list Pv h0 hl hs hd
theorem for_tpl {a : Addr} {xs : List V} {g : TG} (Pv : Nat → L2.St → Hp → Prop) (h0 : Pv 0 σ H) (hl : ∀ i σ H, i ≤ xs.length → Pv i σ H → SqT K H a xs)
    (hs : ∀ i x σ H, xs[i]? = some x → Pv i σ H → g x σ H fun σ2 H2 => ts { D with nx := Pv (i + 1), ct := Pv (i + 1), bk := D.nx } σ2 H2) (hd : ∀ σ H, Pv xs.length σ H → D.nx σ H) : forK g ts D σ (Itt K a) H := for_tup Pv h0 hl hs hd
/-- an item's turn: what the item is worth, nothing that was there changed -/
def Turn1 (g : TG) (te : TE) (σ : L2.St) (vs : List Nat) (x : V) (y : V) (H0 : Hp) : Prop :=
  ∀ H' (QS : L2.St → Hp → Prop), Same H0 H' → (∀ σ2, wipe σ2 vs = wipe σ vs → (∀ Q' : VK, (∀ H'', Same H' H'' → Q' y H'') → te σ2 H' Q') → QS σ2 H') → g x (wipe σ vs) H' QS
theorem turn1 {i : Nat} {x y : V} {H0 : Hp} {vs : List Nat} (hw : wipe ((wipe σ vs).set i (some x)) vs = wipe σ vs) (h : ∀ H', Same H0 H' → ∀ Q' : VK, (∀ H'', Same H' H'' → Q' y H'') → te ((wipe σ vs).set i (some x)) H' Q') : Turn1 (gName i) te σ vs x y H0 :=
  fun H' QS S k => k _ hw fun Q' q => h H' S Q' q
theorem turn_tup2 {K : PySem.W.Frag} {i j : Nat} {r : Addr} {a b y : V} {H0 : Hp} {vs : List Nat} (hw : wipe (((wipe σ vs).set i (some a)).set j (some b)) vs = wipe σ vs) (hx : SqT K H0 r [a, b]) (h : ∀ H', Same H0 H' → ∀ Q' : VK, (∀ H'', Same H' H'' → Q' y H'') → te (((wipe σ vs).set i (some a)).set j (some b)) H' Q') :
    Turn1 (gTup K 2 (gCons (gName i) (gCons (gName j) gNil))) te σ vs (.ref r) y H0 :=
  fun H' QS S k => ⟨r, _, rfl, sqt_sm S hx, rfl, _, _, rfl, _, _, rfl, rfl, k _ hw fun Q' q => h H' S Q' q⟩
/-- [e for i in range(n)], e worth f i -/
theorem lc_rng {n : Nat} {g : TG} {vs : List Nat} (f : Nat → V) (hn : n ≤ 100000) (hs : ∀ i : Nat, i < n → Turn1 g te σ vs (.int (i : Int)) (f i) H) (k : ∀ D H', H D = none → Same H H' → H' D = some (.lst ((List.range n).map f)) → Q (.ref D) H') :
    lcK g tYes te vs σ Q (Itr 0 n) H := fun D hD => by
  refine lc_range (lo := 0) (n := n) (fun i H2 => Same H H2 ∧ H2 D = some (.lst ((List.range i).map f))) ⟨Same.nw hD (Same.refl H), upd_same⟩ ?_ fun H2 ⟨S2, h2⟩ => k D H2 hD S2 h2
  rintro i H2 hi ⟨S2, h2⟩
  rw [Int.zero_add]
  refine hs i hi H2 _ S2 fun σ2 hw q => ⟨hw, yes (ift (q _ fun H4 S4 => ⟨_, S4 _ _ h2, Nat.lt_of_le_of_lt (m := 100000) (by simp; omega) (by decide), fun b o e => ?_, ?_⟩))⟩
  · rw [upd_ne (ne_of_none e hD)]
    exact S4 _ _ (S2 _ _ e)
  · rw [upd_same, List.range_succ, List.map_append]
    rfl
theorem lc_rngL {n : Nat} {lo : Int} {g : TG} {vs : List Nat} (f : Nat → V) (hn : n ≤ 100000) (hs : ∀ i : Nat, i < n → Turn1 g te σ vs (.int (lo + i)) (f i) H) (k : ∀ D H', H D = none → Same H H' → H' D = some (.lst ((List.range n).map f)) → Q (.ref D) H') :
    lcK g tYes te vs σ Q (Itr lo n) H := fun D hD => by
  refine lc_range (lo := lo) (n := n) (fun i H2 => Same H H2 ∧ H2 D = some (.lst ((List.range i).map f))) ⟨Same.nw hD (Same.refl H), upd_same⟩ ?_ fun H2 ⟨S2, h2⟩ => k D H2 hD S2 h2
  rintro i H2 hi ⟨S2, h2⟩
  refine hs i hi H2 _ S2 fun σ2 hw q => ⟨hw, yes (ift (q _ fun H4 S4 => ⟨_, S4 _ _ h2, Nat.lt_of_le_of_lt (m := 100000) (by simp; omega) (by decide), fun b o e => ?_, ?_⟩))⟩
  · rw [upd_ne (ne_of_none e hD)]
    exact S4 _ _ (S2 _ _ e)
  · rw [upd_same, List.range_succ, List.map_append]
    rfl
/-- a comprehension whose items are new objects: R tells what the i-th item is -/
theorem lc_rngR {n : Nat} {lo : Int} {idx : Nat} {vs : List Nat} (R : Nat → V → Hp → Prop) (hn : n ≤ 100000) (hw : ∀ v : V, wipe ((wipe σ vs).set idx (some v)) vs = wipe σ vs)
    (hs : ∀ i : Nat, i < n → ∀ H' D, H D = none → Same H H' → H' D ≠ none → ∀ Q' : VK, (∀ y H'', Same H' H'' → (∀ Hx, But D H'' Hx → R i y Hx) → Q' y H'') → te ((wipe σ vs).set idx (some (.int (lo + i)))) H' Q')
    (k : ∀ D ys H', H D = none → Same H H' → H' D = some (.lst ys) → ys.length = n → (∀ (i : Nat) y, ys[i]? = some y → R i y H') → Q (.ref D) H') : lcK (gName idx) tYes te vs σ Q (Itr lo n) H := fun D hD => by
  refine lc_range (lo := lo) (n := n) (fun i H2 => ∃ ys : List V, Same H H2 ∧ H2 D = some (.lst ys) ∧ ys.length = i ∧ ∀ (j : Nat) y, ys[j]? = some y → ∀ Hx, But D H2 Hx → R j y Hx) ⟨[], Same.nw hD (Same.refl H), upd_same, rfl, fun j y h => by cases h⟩ ?_ fun H2 ⟨ys, S2, h2, hl, hR⟩ => k D ys H2 hD S2 h2 hl fun j y h => hR j y h H2 fun _ _ _ e => e
  rintro i H2 hi ⟨ys, S2, h2, hl, hR⟩
  refine ⟨hw _, yes (ift (hs i hi H2 D hD S2 (by rw [h2]; simp) _ fun y H4 S4 hy => ⟨_, S4 _ _ h2, Nat.lt_of_le_of_lt (m := 100000) (by omega) (by decide), ys ++ [y], fun b o e => ?_, upd_same, by simp [hl], fun j z hz Hx hb => ?_⟩))⟩
  · rw [upd_ne (ne_of_none e hD)]
    exact S4 _ _ (S2 _ _ e)
  · have b4 : But D H4 Hx := fun b o ne e => hb b o ne (by rw [upd_ne ne]; exact e)
    rcases Nat.lt_or_ge j ys.length with lt1 | ge1
    · rw [List.getElem?_append_left lt1] at hz
      exact hR j z hz Hx fun b o ne e => b4 b o ne (S4 _ _ e)
    · rw [List.getElem?_append_right ge1] at hz
      have ej : j - ys.length = 0 := by
        have := (List.getElem?_eq_some_iff.mp hz).1
        simp at this
        omega
      rw [ej] at hz
      obtain rfl : y = z := Option.some.inj hz
      obtain rfl : j = i := by omega
      exact hy Hx b4
/-- over a range by steps -/
theorem for_itc {lo c : Int} {n : Nat} {g : TG} (Pv : Nat → L2.St → Hp → Prop) (h0 : Pv 0 σ H) (hs : ∀ (i : Nat) σ H, i < n → Pv i σ H → g (.int (lo + (i : Nat) * c)) σ H fun σ2 H2 => ts { D with nx := Pv (i + 1), ct := Pv (i + 1), bk := D.nx } σ2 H2) (hd : ∀ σ H, Pv n σ H → D.nx σ H) :
    forK g ts D σ (Itc lo c n) H := for_rangeC Pv h0 hs hd
def rng3K (R : It → Hp → Prop) : List V → Hp → Prop := fun vs H1 => ∃ (i j c : Int) (n : Nat), vs = [.int i, .int j, .int c] ∧ RgC i j c n ∧ R (Itc i c n) H1
theorem rng3 {R : It → Hp → Prop} (k : t σ H (rng3K R)) : iRng3 t σ H R := k
theorem rng3K_i {R : It → Hp → Prop} {i j c : Int} {n : Nat} (h : RgC i j c n) (k : R (Itc i c n) H) : rng3K R [.int i, .int j, .int c] H := ⟨i, j, c, n, rfl, h, k⟩
/-- [e for x in a list], e worth f of the place -/
theorem lc_lst {a : Addr} {xs : List V} {g : TG} {vs : List Nat} (f : Nat → V) (ha : SqL K H a xs) (hn : xs.length ≤ 100000) (hs : ∀ i x, xs[i]? = some x → Turn1 g te σ vs x (f i) H) (k : ∀ D H', H D = none → Same H H' → H' D = some (.lst ((List.range xs.length).map f)) → Q (.ref D) H') :
    lcK g tYes te vs σ Q (Itl K a) H := fun D hD => by
  refine lc_list (K := K) (a := a) (xs := xs) (fun i H2 => Same H H2 ∧ H2 D = some (.lst ((List.range i).map f))) ⟨Same.nw hD (Same.refl H), upd_same⟩ (fun i H2 _ ⟨S2, _⟩ => S2.seq ha) ?_ fun H2 ⟨S2, h2⟩ => k D H2 hD S2 h2
  rintro i x H2 hx ⟨S2, h2⟩
  have hi : i < xs.length := (List.getElem?_eq_some_iff.mp hx).1
  refine hs i x hx H2 _ S2 fun σ2 hw q => ⟨hw, yes (ift (q _ fun H4 S4 => ⟨_, S4 _ _ h2, Nat.lt_of_le_of_lt (m := 100000) (by simp; omega) (by decide), fun b o e => ?_, ?_⟩))⟩
  · rw [upd_ne (ne_of_none e hD)]
    exact S4 _ _ (S2 _ _ e)
  · rw [upd_same, List.range_succ, List.map_append]
    rfl
theorem lc_tpl {a : Addr} {xs : List V} {g : TG} {vs : List Nat} (f : Nat → V) (ha : SqT K H a xs) (hn : xs.length ≤ 100000) (hs : ∀ i x, xs[i]? = some x → Turn1 g te σ vs x (f i) H) (k : ∀ D H', H D = none → Same H H' → H' D = some (.lst ((List.range xs.length).map f)) → Q (.ref D) H') :
    lcK g tYes te vs σ Q (Itt K a) H := fun D hD => by
  refine lc_tup (K := K) (a := a) (xs := xs) (fun i H2 => Same H H2 ∧ H2 D = some (.lst ((List.range i).map f))) ⟨Same.nw hD (Same.refl H), upd_same⟩ (fun i H2 _ ⟨S2, _⟩ => sqt_sm S2 ha) ?_ fun H2 ⟨S2, h2⟩ => k D H2 hD S2 h2
  rintro i x H2 hx ⟨S2, h2⟩
  have hi : i < xs.length := (List.getElem?_eq_some_iff.mp hx).1
  refine hs i x hx H2 _ S2 fun σ2 hw q => ⟨hw, yes (ift (q _ fun H4 S4 => ⟨_, S4 _ _ h2, Nat.lt_of_le_of_lt (m := 100000) (by simp; omega) (by decide), fun b o e => ?_, ?_⟩))⟩
  · rw [upd_ne (ne_of_none e hD)]
    exact S4 _ _ (S2 _ _ e)
  · rw [upd_same, List.range_succ, List.map_append]
    rfl
/-- with an if: the test's answer, the item's worth -/
def Turn2 (g : TG) (tt : L2.TT) (te : TE) (σ : L2.St) (vs : List Nat) (x : V) (b : Bool) (y : V) (H0 : Hp) : Prop :=
  ∀ H' (QS : L2.St → Hp → Prop), Same H0 H' → (∀ σ2, wipe σ2 vs = wipe σ vs → (∀ Q' : Bool → Hp → Prop, (∀ H'', Same H' H'' → Q' b H'') → tt σ2 H' Q') → (∀ H1, Same H' H1 → b = true → ∀ Q' : VK, (∀ H'', Same H1 H'' → Q' y H'') → te σ2 H1 Q') → QS σ2 H') → g x (wipe σ vs) H' QS
theorem turn2 {i : Nat} {x y : V} {b : Bool} {H0 : Hp} {vs : List Nat} (hw : wipe ((wipe σ vs).set i (some x)) vs = wipe σ vs) (h1 : ∀ H', Same H0 H' → ∀ Q' : Bool → Hp → Prop, (∀ H'', Same H' H'' → Q' b H'') → tt ((wipe σ vs).set i (some x)) H' Q')
    (h2 : ∀ H', Same H0 H' → b = true → ∀ Q' : VK, (∀ H'', Same H' H'' → Q' y H'') → te ((wipe σ vs).set i (some x)) H' Q') : Turn2 (gName i) tt te σ vs x b y H0 :=
  fun H' QS S k => k _ hw (fun Q' q => h1 H' S Q' q) fun H1 S1 hb Q' q => h2 H1 (S.trans S1) hb Q' q
theorem lc_rng_if {n : Nat} {lo : Int} {g : TG} {vs : List Nat} (c : Nat → Bool) (f : Nat → V) (hn : n ≤ 100000) (hs : ∀ i : Nat, i < n → Turn2 g tt te σ vs (.int (lo + i)) (c i) (f i) H) (k : ∀ D H', H D = none → Same H H' → H' D = some (.lst (((List.range n).filter c).map f)) → Q (.ref D) H') :
    lcK g tt te vs σ Q (Itr lo n) H := fun D hD => by
  refine lc_range (lo := lo) (n := n) (fun i H2 => Same H H2 ∧ H2 D = some (.lst (((List.range i).filter c).map f))) ⟨Same.nw hD (Same.refl H), upd_same⟩ ?_ fun H2 ⟨S2, h2⟩ => k D H2 hD S2 h2
  rintro i H2 hi ⟨S2, h2⟩
  have e1 : (List.range (i + 1)).filter c = (List.range i).filter c ++ if c i = true then [i] else [] := by
    rw [List.range_succ, List.filter_append]
    congr 1
    by_cases h : c i = true <;> simp [h]
  have hl : ((List.range i).filter c).length ≤ i := by
    have := List.length_filter_le c (List.range i)
    rw [List.length_range] at this
    exact this
  refine hs i hi H2 _ S2 fun σ2 hw q1 q2 => ⟨hw, q1 _ fun H3 S3 => ?_⟩
  have h3 := S3 _ _ h2
  refine bb (fun hc => q2 H3 S3 hc _ fun H4 S4 => ⟨_, S4 _ _ h3, Nat.lt_of_le_of_lt (m := 100000) (by rw [List.length_map]; omega) (by decide), fun b o e => ?_, ?_⟩) fun hc => ⟨S2.trans S3, ?_⟩
  · rw [upd_ne (ne_of_none e hD)]
    exact S4 _ _ (S3 _ _ (S2 _ _ e))
  · rw [upd_same, e1, if_pos hc, List.map_append]
    rfl
  · rw [e1, if_neg (by rw [hc]; decide), List.append_nil]
    exact h3
theorem lc_rng0_if {n : Nat} {g : TG} {vs : List Nat} (c : Nat → Bool) (f : Nat → V) (hn : n ≤ 100000) (hs : ∀ i : Nat, i < n → Turn2 g tt te σ vs (.int (i : Int)) (c i) (f i) H) (k : ∀ D H', H D = none → Same H H' → H' D = some (.lst (((List.range n).filter c).map f)) → Q (.ref D) H') :
    lcK g tt te vs σ Q (Itr 0 n) H := lc_rng_if (lo := 0) c f hn (fun i hi => by have z := hs i hi; rw [Int.zero_add]; exact z) k
theorem lc_lst_if {a : Addr} {xs : List V} {g : TG} {vs : List Nat} (c : Nat → Bool) (f : Nat → V) (ha : SqL K H a xs) (hn : xs.length ≤ 100000) (hs : ∀ i x, xs[i]? = some x → Turn2 g tt te σ vs x (c i) (f i) H) (k : ∀ D H', H D = none → Same H H' → H' D = some (.lst (((List.range xs.length).filter c).map f)) → Q (.ref D) H') :
    lcK g tt te vs σ Q (Itl K a) H := fun D hD => by
  refine lc_list (K := K) (a := a) (xs := xs) (fun i H2 => Same H H2 ∧ H2 D = some (.lst (((List.range i).filter c).map f))) ⟨Same.nw hD (Same.refl H), upd_same⟩ (fun i H2 _ ⟨S2, _⟩ => S2.seq ha) ?_ fun H2 ⟨S2, h2⟩ => k D H2 hD S2 h2
  rintro i x H2 hx ⟨S2, h2⟩
  have hi : i < xs.length := (List.getElem?_eq_some_iff.mp hx).1
  have e1 : (List.range (i + 1)).filter c = (List.range i).filter c ++ if c i = true then [i] else [] := by
    rw [List.range_succ, List.filter_append]
    congr 1
    by_cases h : c i = true <;> simp [h]
  have hl : ((List.range i).filter c).length ≤ i := by
    have := List.length_filter_le c (List.range i)
    rw [List.length_range] at this
    exact this
  refine hs i x hx H2 _ S2 fun σ2 hw q1 q2 => ⟨hw, q1 _ fun H3 S3 => ?_⟩
  have h3 := S3 _ _ h2
  refine bb (fun hc => q2 H3 S3 hc _ fun H4 S4 => ⟨_, S4 _ _ h3, Nat.lt_of_le_of_lt (m := 100000) (by rw [List.length_map]; omega) (by decide), fun b o e => ?_, ?_⟩) fun hc => ⟨S2.trans S3, ?_⟩
  · rw [upd_ne (ne_of_none e hD)]
    exact S4 _ _ (S3 _ _ (S2 _ _ e))
  · rw [upd_same, e1, if_pos hc, List.map_append]
    rfl
  · rw [e1, if_neg (by rw [hc]; decide), List.append_nil]
    exact h3
end Rd
end Tk

/-! ### Equal data -/
namespace Tk
open PySem PySem.Spec PyProof.Rows L2
def flat : V → Bool
  | .non => true
  | .bl _ => true
  | .int _ => true
  | .str _ => true
  | _ => false
/-- one level of data -/
def Nx (K : PySem.W.Frag) (R : Hp → V → V → Prop) (H : Hp) (v u : V) : Prop :=
  (v = u ∧ flat v = true) ∨ (∃ a b xs ys, v = .ref a ∧ u = .ref b ∧ SqL K H a xs ∧ SqL K H b ys ∧ xs.length = ys.length ∧ xs.length ≤ 100000 ∧ ∀ (i : Nat) x y, xs[i]? = some x → ys[i]? = some y → R H x y) ∨
  (∃ a b xs ys, v = .ref a ∧ u = .ref b ∧ SqT K H a xs ∧ SqT K H b ys ∧ xs.length = ys.length ∧ xs.length ≤ 100000 ∧ ∀ (i : Nat) x y, xs[i]? = some x → ys[i]? = some y → R H x y)
/-- the same data, at most n deep -/
def Sm (K : PySem.W.Frag) : Nat → Hp → V → V → Prop
  | 0 => fun _ _ _ => False
  | n + 1 => Nx K (Sm K n)
def spEqOf (R : Hp → V → V → Prop) : Sp := fun vs H Q _ => ∃ v u, vs = [v, u] ∧ R H v u ∧ ∀ H', Same H H' → Q (.bl true) H'
theorem sqt_same {K : PySem.W.Frag} {H H' : Hp} {a : Addr} {xs : List V} (e : Same H H') (h : SqT K H a xs) : SqT K H' a xs := by
  rcases h with (h | ⟨o, h⟩) | h
  · exact .inl (.inl (e _ _ h))
  · exact .inl (.inr ⟨o, e _ _ h⟩)
  · exact .inr h
theorem Sm.same {K : PySem.W.Frag} {H H' : Hp} (e : Same H H') : ∀ {n : Nat} {v u : V}, Sm K n H v u → Sm K n H' v u
  | 0, _, _, h => h
  | n + 1, _, _, h => by
    rcases h with h | ⟨a, b, xs, ys, h1, h2, h3, h4, h5, h6, h7⟩ | ⟨a, b, xs, ys, h1, h2, h3, h4, h5, h6, h7⟩
    · exact .inl h
    · exact .inr (.inl ⟨a, b, xs, ys, h1, h2, e.seq h3, e.seq h4, h5, h6, fun i x y p q => Sm.same e (h7 i x y p q)⟩)
    · exact .inr (.inr ⟨a, b, xs, ys, h1, h2, sqt_same e h3, sqt_same e h4, h5, h6, fun i x y p q => Sm.same e (h7 i x y p q)⟩)
theorem tyx_l {K : PySem.W.Frag} {H : Hp} {a : Addr} {xs : List V} (h : SqL K H a xs) : TyX K H (.ref a) (.type "list") := by
  rcases h with (h | ⟨o, h⟩) | ⟨o, its, n, h1, h2, _⟩
  · exact .base (.lst h)
  · exact .base (.frz h)
  · exact .kList h1 h2
theorem tyx_t {K : PySem.W.Frag} {H : Hp} {a : Addr} {xs : List V} (h : SqT K H a xs) : TyX K H (.ref a) (.type "tuple") := by
  rcases h with (h | ⟨o, h⟩) | ⟨o, its, n, h1, h2, _⟩
  · exact .base (.tup h)
  · exact .fTuple h
  · exact .kTuple h1 h2
theorem rix {K : PySem.W.Frag} {H : Hp} {a : Addr} {xs : List V} {i : Int} {v : V} {Q : VK} (s : SqL K H a xs ∨ SqT K H a xs) (g : atI xs i = some v) (q : Q v H) : rIx K (.ref a) (.int i) H Q := by
  rcases s with s | s
  · exact .inl ⟨a, xs, i, v, rfl, rfl, s, g, q⟩
  · exact .inr (.inl ⟨a, xs, i, v, rfl, rfl, s, g, q⟩)
section
variable {P : Program} {w : World} {K : PySem.W.Frag} {mg : Str → Option Value} {base : Heap}
theorem eq_never (T : Txt K mg) : OkF P w K mg base 1 (He.ga K "_law_equal") ["_law_actual", "_law_expected"] (spEqOf fun _ _ _ => False) :=
  FnP.okF T.f__law_equal sc__law_equal (fun _ _ _ _ _ _ us hl => match us, hl with | [_, _], _ => rfl) (fun vs H Q E h => by obtain ⟨v, u, rfl, _⟩ := h; rfl) (fun cdv A outer s H vs Q E hr h => by obtain ⟨v, u, _, f, _⟩ := h; exact f.elim)
theorem eq_step {k : Nat} {R : Hp → V → V → Prop} (hR : ∀ H H' v u, Same H H' → R H v u → R H' v u) (T : Txt K mg) (G__law_equal : OkF P w K mg base k (He.ga K "_law_equal") ["_law_actual", "_law_expected"] (spEqOf R)) :
    OkF P w K mg base (k + 1) (He.ga K "_law_equal") ["_law_actual", "_law_expected"] (spEqOf (Nx K R)) := by
  refine FnP.okF T.f__law_equal sc__law_equal (fun _ _ _ _ _ _ us hl => match us, hl with | [_, _], _ => rfl) (fun vs H Q E h => ?_) (fun cdv A outer s H vs Q E hr h => ?_)
  · obtain ⟨v, u, rfl, _⟩ := h
    rfl
  obtain ⟨v, u, rfl, hS, q⟩ := h
  refine ⟨_, (pss_cons (ps_if (pt_cmpR (show OpR _ (compareOp .Is) Rd.rIsN from op_isN) (pv 1) pe_non (nomark _)) (pss_one (ps_ret (pe_cmpR (show OpR _ (compareOp .Is) Rd.rIsN from op_isN) (pv 0) pe_non (nomark _)))) pss_nil)
    (pss_cons (ps_if (pt_val (pe_callB (isiK (K := K)) (by rfl) T.g_isinstance (by decide +kernel) (pa_cons (pv 1) (pa_cons (pe_bltn (v := .ty "bool") (by rfl) T.g_bool boot_ty_bool rfl) pa_nil)))) (pss_one (ps_ret (pe_and (pe_callB (isiK (K := K)) (by rfl) T.g_isinstance (by decide +kernel) (pa_cons (pv 0) (pa_cons (pe_bltn (v := .ty "bool") (by rfl) T.g_bool boot_ty_bool rfl) pa_nil))) (pe_one (pe_cmpR op_eq (pv 0) (pv 1) (nomark _)))))) pss_nil)
    (pss_cons (ps_if (pt_val (pe_callB (isiK (K := K)) (by rfl) T.g_isinstance (by decide +kernel) (pa_cons (pv 1) (pa_cons (pe_bltn (v := .ty "int") (by rfl) T.g_int boot_ty_int rfl) pa_nil)))) (pss_one (ps_ret (pe_and (pe_callB (isiK (K := K)) (by rfl) T.g_isinstance (by decide +kernel) (pa_cons (pv 0) (pa_cons (pe_bltn (v := .ty "int") (by rfl) T.g_int boot_ty_int rfl) pa_nil))) (pe_and (pe_not (pe_callB (isiK (K := K)) (by rfl) T.g_isinstance (by decide +kernel) (pa_cons (pv 0) (pa_cons (pe_bltn (v := .ty "bool") (by rfl) T.g_bool boot_ty_bool rfl) pa_nil)))) (pe_one (pe_cmpR op_eq (pv 0) (pv 1) (nomark _))))))) pss_nil)
    (pss_cons (ps_if (pt_val (pe_callB (isiK (K := K)) (by rfl) T.g_isinstance (by decide +kernel) (pa_cons (pv 1) (pa_cons (pe_bltn (v := .ty "str") (by rfl) T.g_str boot_ty_str rfl) pa_nil)))) (pss_one (ps_ret (pe_and (pe_callB (isiK (K := K)) (by rfl) T.g_isinstance (by decide +kernel) (pa_cons (pv 0) (pa_cons (pe_bltn (v := .ty "str") (by rfl) T.g_str boot_ty_str rfl) pa_nil))) (pe_one (pe_cmpR op_eq (pv 0) (pv 1) (nomark _)))))) pss_nil)
    (pss_cons (ps_if (pt_cmpR op_ne (pe_callB (isiK (K := K)) (by rfl) T.g_isinstance (by decide +kernel) (pa_cons (pv 1) (pa_cons (pe_bltn (v := .ty "tuple") (by rfl) T.g_tuple boot_ty_tuple rfl) pa_nil))) (pe_callB (isiK (K := K)) (by rfl) T.g_isinstance (by decide +kernel) (pa_cons (pv 0) (pa_cons (pe_bltn (v := .ty "tuple") (by rfl) T.g_tuple boot_ty_tuple rfl) pa_nil))) (nomark _)) (pss_one (ps_ret pe_bl)) pss_nil)
    (pss_cons (ps_if (pt_cmpR op_ne (pe_callB (isiK (K := K)) (by rfl) T.g_isinstance (by decide +kernel) (pa_cons (pv 1) (pa_cons (pe_bltn (v := .ty "list") (by rfl) T.g_list boot_ty_list rfl) pa_nil))) (pe_callB (isiK (K := K)) (by rfl) T.g_isinstance (by decide +kernel) (pa_cons (pv 0) (pa_cons (pe_bltn (v := .ty "list") (by rfl) T.g_list boot_ty_list rfl) pa_nil))) (nomark _)) (pss_one (ps_ret pe_bl)) pss_nil)
    (pss_cons (ps_if (pt_cmpR op_ne (pe_callB (lenK (K := K)) (by rfl) T.g_len (by decide +kernel) (pa_cons (pv 0) pa_nil)) (pe_callB (lenK (K := K)) (by rfl) T.g_len (by decide +kernel) (pa_cons (pv 1) pa_nil)) (nomark _)) (pss_one (ps_ret pe_bl)) pss_nil)
    (pss_one (ps_ret (pe_callB (allLK (K := K)) (by rfl) T.g_all (by decide +kernel) (pa_cons (pe_lc (own := [("_law_k", 2)]) (g := gName 2) (tt := tYes) (by rfl) sc__law_equal.nd (pi_range1 (by rfl) T.g_range (pa_cons (pe_callB (lenK (K := K)) (by rfl) T.g_len (by decide +kernel) (pa_cons (pv 1) pa_nil)) pa_nil)) (blkOk_by (own := [("_law_k", 2)]) (N := N__law_equal) (sc := (defScope s__law_equal)) (by decide +kernel)) (fun _ _ _ _ _ => pg_name (i := 2) sc__law_equal.nd rfl (Or.inl rfl)) (fun _ _ _ _ _ => pts_nil) (fun _ _ _ _ _ => (pe_call G__law_equal.one hr (by rfl) T.g__law_equal G__law_equal.kp G__law_equal.two .nil passL (pa_cons (pe_ix (ixSK (K := K)) (pv 0) (pv 2) (fun _ _ => rfl)) (pa_cons (pe_ix (ixSK (K := K)) (pv 1) (pv 2) (fun _ _ => rfl)) pa_nil))))) pa_nil))))))))))), ?_⟩
  have q0 := q H (Same.refl H)
  -- isinstance(x, n)
  rcases hS with ⟨rfl, hf⟩ | hS
  · cases v with
    | non => exact ⟨_, rfl, rfl, _, rfl, _, rfl, rfl, q0⟩
    | bl x =>
      refine ⟨_, rfl, rfl, _, rfl, ?_⟩
      refine ⟨_, rfl, .bl x, .ty "bool", _, _, true, rfl, .ty "bool", .base (.bl x), kit_at (by decide +kernel), true, rfl, ?_⟩
      refine ⟨_, rfl, .bl x, .ty "bool", _, _, true, rfl, .ty "bool", .base (.bl x), kit_at (by decide +kernel), true, rfl, ?_⟩
      refine ⟨_, rfl, _, rfl, rfl, ?_⟩
      show Q (V.bl (decide (V.bl x = V.bl x))) H
      rw [decide_eq_true rfl]
      exact q0
    | int x =>
      refine ⟨_, rfl, rfl, _, rfl, ?_⟩
      refine ⟨_, rfl, .int x, .ty "bool", _, _, false, rfl, .ty "bool", .base (.int x), kit_at (by decide +kernel), false, rfl, ?_⟩
      refine ⟨_, rfl, .int x, .ty "int", _, _, true, rfl, .ty "int", .base (.int x), kit_at (by decide +kernel), true, rfl, ?_⟩
      refine ⟨_, rfl, .int x, .ty "int", _, _, true, rfl, .ty "int", .base (.int x), kit_at (by decide +kernel), true, rfl, ?_⟩
      refine ⟨_, rfl, .int x, .ty "bool", _, _, false, rfl, .ty "bool", .base (.int x), kit_at (by decide +kernel), false, rfl, true, rfl, ?_⟩
      refine ⟨_, rfl, _, rfl, rfl, ?_⟩
      show Q (V.bl (decide (V.int x = V.int x))) H
      rw [decide_eq_true rfl]
      exact q0
    | str x =>
      refine ⟨_, rfl, rfl, _, rfl, ?_⟩
      refine ⟨_, rfl, .str x, .ty "bool", _, _, false, rfl, .ty "bool", .base (.str x), kit_at (by decide +kernel), false, rfl, ?_⟩
      refine ⟨_, rfl, .str x, .ty "int", _, _, false, rfl, .ty "int", .base (.str x), kit_at (by decide +kernel), false, rfl, ?_⟩
      refine ⟨_, rfl, .str x, .ty "str", _, _, true, rfl, .ty "str", .base (.str x), kit_at (by decide +kernel), true, rfl, ?_⟩
      refine ⟨_, rfl, .str x, .ty "str", _, _, true, rfl, .ty "str", .base (.str x), kit_at (by decide +kernel), true, rfl, ?_⟩
      refine ⟨_, rfl, _, rfl, rfl, ?_⟩
      show Q (V.bl (decide (V.str x = V.str x))) H
      rw [decide_eq_true rfl]
      exact q0
    | _ => cases hf
  · -- two lists, two tuples: what both want
    obtain ⟨kind, a, b, xs, ys, tya, tyb, rfl, rfl, st, hl, hz, hi, ka, kb, kc, tt1, tl1⟩ : ∃ (kind : String) (a b : Addr) (xs ys : List V), TyX K H (.ref a) (.type kind) ∧ TyX K H (.ref b) (.type kind) ∧ v = .ref a ∧ u = .ref b ∧
        (∀ H', Same H H' → (SqL K H' a xs ∨ SqT K H' a xs) ∧ (SqL K H' b ys ∨ SqT K H' b ys)) ∧ xs.length = ys.length ∧ xs.length ≤ 100000 ∧ (∀ (i : Nat) x y, xs[i]? = some x → ys[i]? = some y → R H x y) ∧
        kitB kind "bool" = some false ∧ kitB kind "int" = some false ∧ kitB kind "str" = some false ∧ (∃ b, kitB kind "tuple" = some b) ∧ (∃ b, kitB kind "list" = some b) := by
      rcases hS with ⟨a, b, xs, ys, h1, h2, h3, h4, h5, h6, h7⟩ | ⟨a, b, xs, ys, h1, h2, h3, h4, h5, h6, h7⟩
      · exact ⟨"list", a, b, xs, ys, tyx_l h3, tyx_l h4, h1, h2, fun H' e => ⟨.inl (e.seq h3), .inl (e.seq h4)⟩, h5, h6, h7, by decide +kernel, by decide +kernel, by decide +kernel, ⟨false, by decide +kernel⟩, ⟨true, by decide +kernel⟩⟩
      · exact ⟨"tuple", a, b, xs, ys, tyx_t h3, tyx_t h4, h1, h2, fun H' e => ⟨.inr (sqt_same e h3), .inr (sqt_same e h4)⟩, h5, h6, h7, by decide +kernel, by decide +kernel, by decide +kernel, ⟨true, by decide +kernel⟩, ⟨false, by decide +kernel⟩⟩
    obtain ⟨tt, htt⟩ := tt1
    obtain ⟨tl, htl⟩ := tl1
    refine ⟨_, rfl, rfl, _, rfl, ?_⟩
    refine ⟨_, rfl, .ref b, .ty "bool", _, _, false, rfl, .ty "bool", tyb, kit_at ka, false, rfl, ?_⟩
    refine ⟨_, rfl, .ref b, .ty "int", _, _, false, rfl, .ty "int", tyb, kit_at kb, false, rfl, ?_⟩
    refine ⟨_, rfl, .ref b, .ty "str", _, _, false, rfl, .ty "str", tyb, kit_at kc, false, rfl, ?_⟩
    refine ⟨_, rfl, .ref b, .ty "tuple", _, _, tt, rfl, .ty "tuple", tyb, kit_at htt, _, rfl, .ref a, .ty "tuple", _, _, tt, rfl, .ty "tuple", tya, kit_at htt, (by cases tt <;> rfl), _, rfl, ?_⟩
    refine iteNS rfl ?_
    refine ⟨_, rfl, .ref b, .ty "list", _, _, tl, rfl, .ty "list", tyb, kit_at htl, _, rfl, .ref a, .ty "list", _, _, tl, rfl, .ty "list", tya, kit_at htl, (by cases tl <;> rfl), _, rfl, ?_⟩
    refine iteNS rfl ?_
    have s0 := st H (Same.refl H)
    refine ⟨_, rfl, a, xs, rfl, s0.1, _, rfl, b, ys, rfl, s0.2, rfl, _, rfl, ?_⟩
    refine iteNS (by rw [hl]) ?_
    -- all([..])
    refine ⟨_, rfl, b, ys, rfl, s0.2, _, rfl, by omega, by omega, fun D hD => ?_⟩
    refine lc_range (lo := 0) (n := ((ys.length : Int)).toNat) (fun i H2 => Same H H2 ∧ H2 D = some (.lst ((List.replicate i true).map V.bl))) ⟨Same.new hD, upd_same⟩ ?_ ?_
    · rintro i H2 hi2 ⟨S2, hD2⟩
      have iy : i < ys.length := by simpa using hi2
      have ix : i < xs.length := by omega
      have s2 := st H2 S2
      have gx : atI xs ((0 : Int) + (i : Int)) = some xs[i] := by rw [Int.zero_add]; exact atn (List.getElem?_eq_getElem ix)
      have gy : atI ys ((0 : Int) + (i : Int)) = some ys[i] := by rw [Int.zero_add]; exact atn (List.getElem?_eq_getElem iy)
      refine ⟨rfl, ?_⟩
      refine ⟨_, rfl, _, rfl, rix s2.1 gx ?_⟩
      refine ⟨_, rfl, _, rfl, rix s2.2 gy ?_⟩
      refine ⟨_, _, rfl, hR _ _ _ _ S2 (hi i _ _ (List.getElem?_eq_getElem ix) (List.getElem?_eq_getElem iy)), fun H3 S3 => ?_⟩
      refine ⟨(List.replicate i true).map V.bl, S3 _ _ hD2, Nat.lt_of_le_of_lt (m := 100000) (by simp; omega) (by decide), ?_, ?_⟩
      · intro b' o e
        rw [upd_ne (ne_of_none e hD)]
        exact S3 _ _ (S2 _ _ e)
      · rw [upd_same, List.replicate_succ', List.map_append]
        rfl
    · rintro H2 ⟨S2, hD2⟩
      refine ⟨D, _, rfl, SqL.of hD2, ?_⟩
      have e : (List.replicate ((ys.length : Int)).toNat true).all id = true := by simp
      rw [e]
      exact q H2 S2
theorem ok__law_equal (T : Txt K mg) : ∀ n : Nat, OkF P w K mg base (n + 1) (He.ga K "_law_equal") ["_law_actual", "_law_expected"] (spEqOf (Sm K n))
  | 0 => eq_never T
  | n + 1 => eq_step (fun H H' v u e h => Sm.same e h) T (ok__law_equal T n)
end
theorem Sm.flats {K : PySem.W.Frag} {n : Nat} {H : Hp} {a b : Addr} {xs : List V} (h1 : SqL K H a xs) (h2 : SqL K H b xs) (hl : xs.length ≤ 100000) (hf : ∀ x ∈ xs, flat x = true) : Sm K (n + 2) H (.ref a) (.ref b) :=
  .inr (.inl ⟨a, b, xs, xs, rfl, rfl, h1, h2, rfl, hl, fun i x y hx hy => .inl ⟨Option.some.inj (hx.symm.trans hy), hf x (List.mem_of_getElem? hx)⟩⟩)
theorem Sm.int {K : PySem.W.Frag} {n : Nat} {H : Hp} {i j : Int} (h : i = j) : Sm K (n + 1) H (.int i) (.int j) := .inl ⟨by rw [h], rfl⟩
end Tk

namespace Tk
open PySem PySem.Spec PyProof.Rows L2 Mm
/-- what a turn of a law holds: the hall, the counts up to n, away from d -/
structure EnvN (C : Addr) (H : Hp) (d hh a1 b1 : Addr) (m : Nat) (tk cl : List Nat) (lt : Nat) (lp : Addr) (n : Nat) : Prop where
  hall : HallAt C H hh m tk cl lt lp
  one : H a1 = some (.lst (fV (tak tk) n))
  two : H b1 = some (.lst (fV (cal tk cl) n))
  nl : lp ≠ d
  n1 : a1 ≠ d
  n2 : b1 ≠ d
theorem EnvN.but {C : Addr} {H H' : Hp} {d hh a1 b1 lp : Addr} {m lt n : Nat} {tk cl : List Nat} {cs : List V} (e : EnvN C H d hh a1 b1 m tk cl lt lp n) (b : But d H H') (hd : H d = some (.lst cs)) : EnvN C H' d hh a1 b1 m tk cl lt lp n :=
  ⟨e.hall.but b hd e.nl, b _ _ e.n1 e.one, b _ _ e.n2 e.two, e.nl, e.n1, e.n2⟩
theorem EnvN.same {C : Addr} {H H' : Hp} {d hh a1 b1 lp : Addr} {m lt n : Nat} {tk cl : List Nat} (e : EnvN C H d hh a1 b1 m tk cl lt lp n) (b : Same H H') : EnvN C H' d hh a1 b1 m tk cl lt lp n :=
  ⟨e.hall.same b, b _ _ e.one, b _ _ e.two, e.nl, e.n1, e.n2⟩
theorem hfs_meth {m : Nat} {tp cp : Addr} {lt : Nat} {lp : Addr} {x : Str} (h : (["_called", "lateness", "calls", "takes", "modulus"] : List Str).contains x = false) : (hfs m tp cp lt lp).lookup x = none := by
  simp only [List.contains_cons, Bool.or_eq_false_iff, beq_eq_false_iff_ne] at h
  obtain ⟨h1, h2, h3, h4, h5, _⟩ := h
  exact hfs_no h1 h2 h3 h4 h5
theorem Sm.flatsT {K : PySem.W.Frag} {n : Nat} {H : Hp} {a b : Addr} {xs : List V} (h1 : SqT K H a xs) (h2 : SqT K H b xs) (hl : xs.length ≤ 100000) (hf : ∀ x ∈ xs, flat x = true) : Sm K (n + 2) H (.ref a) (.ref b) :=
  .inr (.inr ⟨a, b, xs, xs, rfl, rfl, h1, h2, rfl, hl, fun i x y hx hy => .inl ⟨Option.some.inj (hx.symm.trans hy), hf x (List.mem_of_getElem? hx)⟩⟩)
theorem Sm.flat1 {K : PySem.W.Frag} {n : Nat} {H : Hp} {v : V} (h : flat v = true) : Sm K (n + 1) H v v := .inl ⟨rfl, h⟩
theorem flat_vn {ps : List Nat} : ∀ x ∈ ps.map vn, flat x = true := fun x hx => by
  obtain ⟨n, _, rfl⟩ := List.mem_map.mp hx
  rfl
end Tk

/-! ### Readings of halls -/
namespace Tk
open PySem PySem.Spec PyProof.Rows L2 Mm
theorem HallAt.sm {C h lp : Addr} {H H' : Hp} {m lt : Nat} {tk cl : List Nat} (b : Same H H') (p : HallAt C H h m tk cl lt lp) : HallAt C H' h m tk cl lt lp := p.same b
theorem PartsAt.sm {t tp cp : Addr} {H H' : Hp} {m lt : Nat} {tk cl : List Nat} (b : Same H H') (p : PartsAt H t m tp tk cp cl lt) : PartsAt H' t m tp tk cp cl lt := p.same b
theorem PartsAt.sq {K : PySem.W.Frag} {t tp cp : Addr} {H : Hp} {m lt : Nat} {tk cl : List Nat} (p : PartsAt H t m tp tk cp cl lt) : SqT K H t [vn m, .ref tp, .ref cp, vn lt] := SqT.of p.at_
theorem Sm.sm {K : PySem.W.Frag} {H H' : Hp} {n : Nat} {v u : V} (e : Same H H') (h : Sm K n H v u) : Sm K n H' v u := Sm.same e h
inductive SmL (R : V → V → Prop) : List V → List V → Prop where
  | nil : SmL R [] []
  | cons {x y : V} {xs ys : List V} (h : R x y) (t : SmL R xs ys) : SmL R (x :: xs) (y :: ys)
theorem SmL.len {R : V → V → Prop} : ∀ {xs ys : List V}, SmL R xs ys → xs.length = ys.length
  | _, _, .nil => rfl
  | _, _, .cons _ t => by rw [List.length_cons, List.length_cons, t.len]
theorem SmL.at {R : V → V → Prop} : ∀ {xs ys : List V}, SmL R xs ys → ∀ (i : Nat) x y, xs[i]? = some x → ys[i]? = some y → R x y
  | _, _, .nil, i, x, y, h, _ => by cases h
  | _, _, .cons h t, 0, x, y, h1, h2 => by
    obtain rfl := Option.some.inj h1
    obtain rfl := Option.some.inj h2
    exact h
  | _, _, .cons h t, i + 1, x, y, h1, h2 => t.at i x y h1 h2
theorem Sm.lst {K : PySem.W.Frag} {n : Nat} {H : Hp} {a b : Addr} {xs ys : List V} (h1 : SqL K H a xs) (h2 : SqL K H b ys) (hz : xs.length ≤ 100000) (h : SmL (Sm K n H) xs ys) : Sm K (n + 1) H (.ref a) (.ref b) := .inr (.inl ⟨a, b, xs, ys, rfl, rfl, h1, h2, h.len, hz, h.at⟩)
theorem Sm.tpl {K : PySem.W.Frag} {n : Nat} {H : Hp} {a b : Addr} {xs ys : List V} (h1 : SqT K H a xs) (h2 : SqT K H b ys) (hz : xs.length ≤ 100000) (h : SmL (Sm K n H) xs ys) : Sm K (n + 1) H (.ref a) (.ref b) := .inr (.inr ⟨a, b, xs, ys, rfl, rfl, h1, h2, h.len, hz, h.at⟩)
theorem Sm.rfl1 {K : PySem.W.Frag} {n : Nat} {H : Hp} {v : V} (h : flat v = true := by rfl) : Sm K (n + 1) H v v := .inl ⟨rfl, h⟩
namespace Rd
variable {K : PySem.W.Frag} {mg : Str → Option Value} {σ : L2.St} {H : Hp} {Q : VK} {E : XK} {t : TA} {C h lp : Addr} {m lt : Nat} {tk cl : List Nat}
theorem rgK_ab {a b : Int} {lo n : Nat} (ea : a = (lo : Int)) (eb : b = ((lo + n : Nat) : Int)) (h1 : lo ≤ 4000000000000000000) (hn : n ≤ 100000) (k : ∀ q H', H q = none → Same H H' → H' q = some (.lst ((List.range n).map fun i => vn (lo + i))) → Q (.ref q) H') : rgK Q a b H := by
  subst ea eb
  have e : rgV (lo : Int) ((lo + n : Nat) : Int) = (List.range n).map fun i => vn (lo + i) := by
    unfold rgV
    rw [show (((lo + n : Nat) : Int) - (lo : Int)).toNat = n by omega]
    rfl
  refine ⟨⟨by omega, by omega, by omega, by omega, by omega⟩, fun q hq => ?_⟩
  · rw [e]
    exact k q _ hq (Same.nw hq (Same.refl H)) upd_same
theorem rgK_n {b : Int} {n : Nat} (eb : b = (n : Int)) (hn : n ≤ 100000) (k : ∀ q H', H q = none → Same H H' → H' q = some (.lst ((List.range n).map vn)) → Q (.ref q) H') : rgK Q 0 b H :=
  rgK_ab (lo := 0) rfl (by rw [Nat.zero_add]; exact eb) (by decide) hn fun q H' nq S hq => k q H' nq S (by rw [hq]; simp)
theorem f_modulus (T : Txt K mg) (hA : HallAt (He.ga K "Hall") H h m tk cl lt lp) (k : Q (vn m) H) : fldK K "modulus" Q (.ref h) H := by
  obtain ⟨dx, tp, cp, hh, htp, hcp⟩ := hA.ex
  exact ⟨h, _, dx, _, _, rfl, hh, T.cl_Hall, T.n_modulus, hfs_modulus, k⟩
theorem f_lateness (T : Txt K mg) (hA : HallAt (He.ga K "Hall") H h m tk cl lt lp) (k : Q (vn lt) H) : fldK K "lateness" Q (.ref h) H := by
  obtain ⟨dx, tp, cp, hh, htp, hcp⟩ := hA.ex
  exact ⟨h, _, dx, _, _, rfl, hh, T.cl_Hall, T.n_lateness, hfs_lateness, k⟩
theorem f_takes (T : Txt K mg) (hA : HallAt (He.ga K "Hall") H h m tk cl lt lp) (k : ∀ tp, H tp = some (.tup (tk.map vn)) → Q (.ref tp) H) : fldK K "takes" Q (.ref h) H := by
  obtain ⟨dx, tp, cp, hh, htp, hcp⟩ := hA.ex
  exact ⟨h, _, dx, _, _, rfl, hh, T.cl_Hall, T.n_takes, hfs_takes, k tp htp⟩
theorem f_calls (T : Txt K mg) (hA : HallAt (He.ga K "Hall") H h m tk cl lt lp) (k : ∀ cp, H cp = some (.tup (cl.map vn)) → Q (.ref cp) H) : fldK K "calls" Q (.ref h) H := by
  obtain ⟨dx, tp, cp, hh, htp, hcp⟩ := hA.ex
  exact ⟨h, _, dx, _, _, rfl, hh, T.cl_Hall, T.n_calls, hfs_calls, k cp hcp⟩
theorem h_meth {x : Str} {sp : Sp} (hA : HallAt C H h m tk cl lt lp) (hx : (["_called", "lateness", "calls", "takes", "modulus"] : List Str).contains x = false) (k : t σ H fun vs H2 => sp (.ref h :: vs) H2 Q E) : methK x sp C [] E t σ Q (.ref h) H := by
  obtain ⟨dx, tp, cp, hh, htp, hcp⟩ := hA.ex
  refine ⟨h, dx, _, rfl, hh, hfs_meth hx, ?_⟩
  simp only [List.append_nil]
  exact k
theorem h_prop {sp : Sp} {dvs : List V} (hA : HallAt C H h m tk cl lt lp) (k : sp (.ref h :: dvs) H Q E) : propK sp C dvs E Q (.ref h) H := by
  obtain ⟨dx, tp, cp, hh, htp, hcp⟩ := hA.ex
  exact ⟨h, dx, _, rfl, hh, k⟩
theorem h_taken {n : Nat} {z : Int} {r : List V} (hA : HallAt C H h m tk cl lt lp) (e : z.toNat = n) (k : ∀ H', Same H H' → Q (vn (tak tk n)) H') : spTaken C [.ref h, .int z] H Q E :=
  ⟨h, lp, z, m, lt, tk, cl, rfl, hA, by rw [e]; exact k⟩
theorem h_taken0 {n : Nat} (hA : HallAt C H h m tk cl lt lp) (k : ∀ H', Same H H' → Q (vn (tak tk n)) H') : spTaken C [.ref h, .int (n : Int)] H Q E := h_taken (r := []) hA (by omega) k
theorem h_taken1 {n : Nat} (hA : HallAt C H h m tk cl lt lp) (k : ∀ H', Same H H' → Q (vn (tak tk (n + 1))) H') : spTaken C [.ref h, .int ((n : Int) + 1)] H Q E := h_taken (r := []) hA (by omega) k
theorem h_takenL {n j : Nat} (hA : HallAt C H h m tk cl lt lp) (k : ∀ H', Same H H' → Q (vn (tak tk (n - j))) H') : spTaken C [.ref h, .int ((n : Int) - (j : Int))] H Q E := h_taken (r := []) hA (by omega) k
theorem h_called {n : Nat} {z : Int} {r : List V} (hA : HallAt C H h m tk cl lt lp) (e : z.toNat = n) (k : Q (vn (cal tk cl n)) H) : spCalled C [.ref h, .int z] H Q E :=
  ⟨h, lp, z, m, lt, tk, cl, rfl, hA, by rw [e]; exact k⟩
theorem h_called0 {n : Nat} (hA : HallAt C H h m tk cl lt lp) (k : Q (vn (cal tk cl n)) H) : spCalled C [.ref h, .int (n : Int)] H Q E := h_called (r := []) hA (by omega) k
theorem h_called1 {n : Nat} (hA : HallAt C H h m tk cl lt lp) (k : Q (vn (cal tk cl (n + 1))) H) : spCalled C [.ref h, .int ((n : Int) + 1)] H Q E := h_called (r := []) hA (by omega) k
theorem h_calledL {n j : Nat} (hA : HallAt C H h m tk cl lt lp) (k : Q (vn (cal tk cl (n - j))) H) : spCalled C [.ref h, .int ((n : Int) - (j : Int))] H Q E := h_called (r := []) hA (by omega) k
theorem h_waiting {n : Nat} (hA : HallAt C H h m tk cl lt lp) (hn : n ≤ 1000000000000000000) (k : ∀ H', Same H H' → Q (vn (wt tk cl (n + 1))) H') : spWaiting C [.ref h, .int (n : Int)] H Q E := ⟨h, lp, n, m, lt, tk, cl, rfl, hn, hA, k⟩
theorem h_growth (hA : HallAt C H h m tk cl lt lp) (k : ∀ H', Same H H' → Q (vn (grow tk cl)) H') : spGrowth C [.ref h] H Q E := ⟨h, lp, m, lt, tk, cl, rfl, hA, k⟩
theorem h_period (hA : HallAt C H h m tk cl lt lp) (k : Q (vn (per tk cl)) H) : spPeriod C [.ref h] H Q E := by
  obtain ⟨dx, tp, cp, hh, htp, hcp⟩ := hA.ex
  exact ⟨h, dx, tp, cp, _, tk, cl, rfl, hh, hfs_takes, hfs_calls, htp, hcp, hA.ok.tkP, hA.ok.clP, k⟩
theorem h_lhall {tp cp p : Addr} (hP : PartsAt H p m tp tk cp cl lt) (k : ∀ h lp H', H h = none → H lp = none → Same H H' → HallAt C H' h m tk cl lt lp → Q (.ref h) H') : spLHall C [.ref p] H Q E := ⟨p, tp, cp, m, lt, tk, cl, rfl, hP, k⟩
theorem h_length {tp cp p : Addr} (hP : PartsAt H p m tp tk cp cl lt) (k : Q (vn (per tk cl)) H) : spLength [.ref p] H Q E := ⟨p, tp, cp, m, lt, tk, cl, rfl, hP, k⟩
theorem h_counts {tp cp p : Addr} {n : Nat} (hP : PartsAt H p m tp tk cp cl lt) (hn : n ≤ 10000) (k : ∀ r a b H', H r = none → H a = none → H b = none → a ≠ b → Same H H' → H' r = some (.tup [.ref a, .ref b]) → H' a = some (.lst (fV (tak tk) n)) → H' b = some (.lst (fV (cal tk cl) n)) → Q (.ref r) H') :
    spCounts [.ref p, .int (n : Int)] H Q E := ⟨p, tp, cp, m, lt, tk, cl, n, rfl, hP, hn, k⟩
theorem h_countsL {tp cp p : Addr} {n : Nat} (hP : PartsAt H p m tp tk cp cl lt) (hn : n ≤ 10000) (k : ∀ r a b H', H r = none → H a = none → H b = none → a ≠ b → Same H H' → H' r = some (.tup [.ref a, .ref b]) → H' a = some (.lst (fV (tak tk) (OfNat.ofNat n : Nat))) → H' b = some (.lst (fV (cal tk cl) (OfNat.ofNat n : Nat))) → Q (.ref r) H') :
    spCounts [.ref p, .int (OfNat.ofNat n : Int)] H Q E := h_counts hP hn k
theorem ixF {f : Nat → Nat} {n i : Nat} {p : Addr} (hq : H p = some (.lst (fV f n))) (hi : i ≤ n) (k : Q (vn (f i)) H) : rIxL K (.ref p) (.int (i : Int)) H Q := ixL (SqL.of hq) (atn (fV_at hi)) k
theorem ixF1 {f : Nat → Nat} {n i : Nat} {p : Addr} (hq : H p = some (.lst (fV f n))) (hi : i + 1 ≤ n) (k : Q (vn (f (i + 1))) H) : rIxL K (.ref p) (.int ((i : Int) + 1)) H Q := ixL (SqL.of hq) (by rw [show ((i : Int) + 1) = ((i + 1 : Nat) : Int) by omega]; exact atn (fV_at hi)) k
theorem h_equal {n : Nat} {v u : V} (h : Sm K n H v u) (k : ∀ H', Same H H' → Q (.bl true) H') : spEqOf (Sm K n) [v, u] H Q E := ⟨v, u, rfl, h, k⟩
theorem h_make {tp cp : Addr} (hP : Parts m tk cl lt) (htp : H tp = some (.tup (tk.map vn))) (hcp : H cp = some (.tup (cl.map vn))) (k : ∀ h lp H', H h = none → H lp = none → Same H H' → HallAt C H' h m tk cl lt lp → Q (.ref h) H') :
    makeK C (spInit C) [] E Q [vn m, .ref tp, .ref cp, vn lt] H := fun x dx nx ndx nex => by
  have S1 : Same H (upd (upd H dx (.own x)) x (.ins C dx [])) := fun b o e => by
    rw [upd_ne (ne_of_none e nx), upd_ne (ne_of_none e ndx)]
    exact e
  refine ⟨x, dx, tp, cp, m, lt, tk, cl, rfl, upd_same, S1 _ _ htp, S1 _ _ hcp, hP, fun H' lp B n hA => ⟨rfl, ?_⟩⟩
  exact k x lp H' nx (S1.free n) (fun b o e => B b o (ne_of_none e nx) (S1 b o e)) hA
/-- the parts' items -/
theorem p_0 {tp cp p : Addr} (hP : PartsAt H p m tp tk cp cl lt) (k : Q (vn m) H) : rIxT K (.ref p) (.int 0) H Q := ixT (SqT.of hP.at_) (at3 (j := 0) rfl) k
theorem p_1 {tp cp p : Addr} (hP : PartsAt H p m tp tk cp cl lt) (k : H tp = some (.tup (tk.map vn)) → Q (.ref tp) H) : rIxT K (.ref p) (.int 1) H Q := ixT (SqT.of hP.at_) (at3 (j := 1) rfl) (k hP.tkA)
theorem p_2 {tp cp p : Addr} (hP : PartsAt H p m tp tk cp cl lt) (k : H cp = some (.tup (cl.map vn)) → Q (.ref cp) H) : rIxT K (.ref p) (.int 2) H Q := ixT (SqT.of hP.at_) (at3 (j := 2) rfl) (k hP.clA)
theorem p_3 {tp cp p : Addr} (hP : PartsAt H p m tp tk cp cl lt) (k : Q (vn lt) H) : rIxT K (.ref p) (.int 3) H Q := ixT (SqT.of hP.at_) (at3 (j := 3) rfl) k
end Rd
end Tk

section
local macro_rules | `(tactic| walk_at "hp") => `(tactic| first
  | assumption
  | with_reducible exact L2.upd_same
  | ((with_reducible refine' Tk.Same.get ?k0 ?k1); (case k0 => assumption); (case k1 => walk_at "hp"))
  | fail "hp")
local macro_rules | `(tactic| walk_at "same") => `(tactic| first
  | assumption
  | exact L2.Same.refl _
  | ((with_reducible refine' Tk.Same.nw ?k0 ?k1); (case k0 => assumption); (case k1 => walk_at "same"))
  | ((with_reducible refine' Tk.Same.tr ?k0 ?k1); (case k0 => assumption); (case k1 => walk_at "same")))
local macro_rules | `(tactic| walk_at "sql") => `(tactic| first
  | assumption
  | ((with_reducible refine' L2.SqL.of ?k0); (case k0 => walk_at "hp"))
  | ((with_reducible refine' L2.Same.seq ?k0 ?k1); (case k0 => assumption); (case k1 => walk_at "sql")))
local macro_rules | `(tactic| walk_at "sqt") => `(tactic| first
  | assumption
  | ((with_reducible refine' L2.SqT.of ?k0); (case k0 => walk_at "hp"))
  | ((with_reducible refine' Tk.sqt_sm ?k0 ?k1); (case k0 => assumption); (case k1 => walk_at "sqt")))
local macro_rules | `(tactic| walk_at "sz") => `(tactic| first
  | (show (_ : Nat) ≤ 1000; decide)
  | (simp; done)
  | (simp; omega))
local macro_rules | `(tactic| walk_at "szb") => `(tactic| first
  | assumption
  | (show (_ : Nat) ≤ 100000; decide)
  | (simp; done)
  | (simp; omega))
local macro_rules | `(tactic| walk_at "dp") => `(tactic| first
  | assumption
  | with_reducible exact L2.Dp.non
  | with_reducible exact L2.Dp.int _
  | with_reducible exact L2.Dp.str _
  | with_reducible exact L2.Dp.bl _
  | ((with_reducible refine' L2.Dp.lst ?k0 ?k1); (case k0 => walk_at "sql"); (case k1 => walk_at "dpa"))
  | ((with_reducible refine' L2.Dp.tup ?k0 ?k1); (case k0 => walk_at "sqt"); (case k1 => walk_at "dpa"))
  | ((with_reducible refine' Tk.dp_sm ?k0 ?k1); (case k0 => assumption); (case k1 => walk_at "dp"))
  | fail "dp")
local macro_rules | `(tactic| walk_at "dpa") => `(tactic| first
  | assumption
  | with_reducible exact L2.DpAll.nil
  | ((with_reducible refine' L2.DpAll.cons ?k0 ?k1); (case k0 => walk_at "dp"); (case k1 => walk_at "dpa"))
  | with_reducible exact Tk.dp_nats _
  | ((with_reducible refine' Tk.dpA_sm ?k0 ?k1); (case k0 => assumption); (case k1 => walk_at "dpa"))
  | fail "dpa")
local macro_rules | `(tactic| walk_at "ci") => `(tactic| first
  | exact .inl ⟨by decide, by decide⟩
  | exact .inr ⟨by decide, by decide⟩
  | exact .inl ⟨by omega, by omega⟩
  | exact .inr ⟨by omega, by omega⟩
  | exact ⟨by decide, by decide⟩
  | exact ⟨by omega, by omega⟩
  | (show (0 : Int) < _; decide)
  | (show (0 : Int) < _; omega))
local macro_rules | `(tactic| walk_at "rd1") => `(tactic| first
  | with_reducible refine Tk.Rd.seq ?_
  | with_reducible refine Tk.Rd.star ?_
  | with_reducible refine Tk.Rd.int1_i ?_
  | with_reducible refine Tk.Rd.int1_b ?_
  | with_reducible refine Tk.Rd.tlc2 ?_
  | with_reducible refine Tk.Rd.lrg3 ?_
  | with_reducible refine Tk.Rd.lrg ?_
  | with_reducible refine Tk.Rd.rg1 ?_
  | with_reducible refine Tk.Rd.rg1K_i ?_
  | with_reducible refine Tk.Rd.rg2 ?_
  | with_reducible refine Tk.Rd.rg2K_i ?_
  | ((with_reducible refine' Tk.Rd.catL ?k0 ?k1 ?k2 fun p H' np S hp => ?_); (case k0 => walk_at "hp"); (case k1 => walk_at "hp"); (case k2 => walk_at "szb"))
  | ((with_reducible refine' Tk.Rd.starK_t ?k0 ?_); (case k0 => walk_at "sqt"))
  | ((with_reducible refine' Tk.Rd.starK_l ?k0 ?_); (case k0 => walk_at "sql"))
  | ((with_reducible refine' Tk.Rd.var ?k0 ?_); (case k0 => exact rfl))
  | with_reducible refine Tk.Rd.c ?_
  | with_reducible refine Tk.Rd.op ?_
  | with_reducible refine Tk.Rd.i0 ?_
  | with_reducible refine Tk.Rd.asg ?_
  | with_reducible refine Tk.Rd.name ?_
  | with_reducible refine Tk.Rd.cons ?_
  | with_reducible refine Tk.Rd.nil ?_
  | with_reducible refine Tk.Rd.call ?_
  | with_reducible refine Tk.Rd.callK_i ?_
  | with_reducible refine Tk.Rd.tst ?_
  | with_reducible refine Tk.Rd.bv ?_
  | with_reducible refine Tk.Rd.toB_i ?_
  | with_reducible refine Tk.Rd.ift ?_
  | with_reducible refine Tk.Rd.iff ?_
  | with_reducible refine Tk.Rd.ifnt ?_
  | with_reducible refine Tk.Rd.ifnf ?_
  | with_reducible refine Tk.Rd.not ?_
  | with_reducible refine Tk.Rd.and ?_
  | with_reducible refine Tk.Rd.or ?_
  | with_reducible refine Tk.Rd.andV ?_
  | with_reducible refine Tk.Rd.andK_i ?_
  | with_reducible refine Tk.Rd.orV ?_
  | with_reducible refine Tk.Rd.orK_i ?_
  | with_reducible refine Tk.Rd.notV ?_
  | with_reducible refine Tk.Rd.notK_i ?_
  | with_reducible refine Tk.Rd.tif ?_
  | with_reducible refine Tk.Rd.yes ?_
  | with_reducible refine Tk.Rd.tfor ?_
  | with_reducible refine Tk.Rd.tlc ?_
  | with_reducible refine Tk.Rd.rng ?_
  | ((with_reducible refine' Tk.Rd.rngK_n ?k0 ?_); (case k0 => first | decide | omega))
  | ((with_reducible refine' Tk.Rd.rngK_lit ?k0 ?_); (case k0 => decide))
  | with_reducible refine Tk.Rd.rng2 ?_
  | with_reducible refine Tk.Rd.rng3 ?_
  | with_reducible refine Tk.Rd.ilist ?_
  | with_reducible refine Tk.Rd.zip ?_
  | with_reducible refine Tk.Rd.itup ?_
  | ((with_reducible refine' Tk.Rd.listK_i ?k0 ?_); (case k0 => walk_at "sql"))
  | ((with_reducible refine' Tk.Rd.ituK_i ?k0 ?_); (case k0 => walk_at "sqt"))
  | with_reducible refine Tk.Rd.chain ?_
  | with_reducible refine Tk.Rd.chainL_i ?_
  | with_reducible refine Tk.Rd.un ?_
  | with_reducible refine Tk.Rd.u1 ?_
  | ((with_reducible refine' Tk.Rd.i1 ?k0 ?_); (case k0 => walk_at "ci"))
  | ((with_reducible refine' Tk.Rd.eq ?k0 ?_); (case k0 => exact rfl))
  | ((with_reducible refine' Tk.Rd.ne ?k0 ?_); (case k0 => exact rfl))
  | with_reducible refine Tk.Rd.isN ?_
  | with_reducible refine Tk.Rd.notN ?_
  | with_reducible refine Tk.Rd.fld ?_
  | with_reducible refine Tk.Rd.meth ?_
  | with_reducible refine Tk.Rd.prop ?_
  | with_reducible refine Tk.Rd.cb ?_
  | with_reducible refine Tk.Rd.bm ?_
  | with_reducible refine Tk.Rd.m0 ?_
  | with_reducible refine Tk.Rd.m0K_i ?_
  | with_reducible refine Tk.Rd.m1 ?_
  | with_reducible refine Tk.Rd.m1K_i ?_
  | with_reducible refine Tk.Rd.tup ?_
  | ((with_reducible refine' Tk.Rd.tupK_i ?k0 fun p H' np S hp => ?_); (case k0 => walk_at "sz"))
  | with_reducible refine Tk.Rd.lst ?_
  | ((with_reducible refine' Tk.Rd.lstK_i ?k0 fun p H' np S hp => ?_); (case k0 => walk_at "sz"))
  | ((with_reducible refine' Tk.Rd.ixF ?k0 ?k1 ?_); (case k0 => walk_at "hp"); (case k1 => omega))
  | ((with_reducible refine' Tk.Rd.ixF1 ?k0 ?k1 ?_); (case k0 => walk_at "hp"); (case k1 => omega))
  | ((with_reducible refine' Tk.Rd.ixT ?k0 ?k1 ?_); (case k0 => walk_at "sqt"); (case k1 => exact rfl))
  | ((with_reducible refine' Tk.Rd.ixL ?k0 ?k1 ?_); (case k0 => walk_at "sql"); (case k1 => exact rfl))
  | ((with_reducible refine' Tk.Rd.lenL ?k0 ?_); (case k0 => walk_at "sql"))
  | ((with_reducible refine' Tk.Rd.lenT ?k0 ?_); (case k0 => walk_at "sqt"))
  | ((with_reducible refine' Tk.Rd.lenS ?k0 ?_); (case k0 => first | assumption | omega | (simp; omega)))
  | ((with_reducible refine' Tk.Rd.slTr ?k0 fun p H' S hp => ?_); (case k0 => walk_at "hp"))
  | ((with_reducible refine' Tk.Rd.slT ?k0 fun p H' S hq => ?_); (case k0 => walk_at "sqt"))
  | ((with_reducible refine' Tk.Rd.catTr ?k0 ?k1 ?k2 fun p H' S hp => ?_); (case k0 => walk_at "hp"); (case k1 => walk_at "hp"); (case k2 => walk_at "sz"))
  | ((with_reducible refine' Tk.Rd.catA ?k0 ?k1 ?k2 ?k3 ?k4 fun p H' np S hp => ?_); (case k0 => walk_at "sqt"); (case k1 => walk_at "sqt"); (case k2 => simp); (case k3 => simp); (case k4 => first | (simp; done) | (simp; omega)))
  | with_reducible refine Tk.Rd.make ?_
  | ((with_reducible refine' Tk.Rd.tplL ?k0 fun q H' nq S hq => ?_); (case k0 => walk_at "sql"))
  | ((with_reducible refine' Tk.Rd.lstL ?k0 fun q H' nq S hq => ?_); (case k0 => walk_at "sql"))
  | ((with_reducible refine' Tk.Rd.lstT ?k0 fun q H' nq S hq => ?_); (case k0 => walk_at "sqt"))
  | ((with_reducible refine' Tk.Rd.join ?k0 ?k1 ?_); (case k0 => walk_at "sql"); (case k1 => first | assumption | omega))
  | with_reducible refine Tk.Rd.mx ?_
  | with_reducible refine Tk.Rd.mn ?_
  | with_reducible refine Tk.Rd.noPart ?_
  | with_reducible refine Tk.Rd.part ?_
  | with_reducible refine Tk.Rd.partK_i ?_
  | with_reducible refine Tk.Rd.slc ?_
  | ((with_reducible refine' Tk.Rd.gtup ?k0 ?k1 ?_); (case k0 => walk_at "sqt"); (case k1 => exact rfl))
  | ((with_reducible refine' Tk.Rd.glst ?k0 ?k1 ?_); (case k0 => walk_at "sql"); (case k1 => exact rfl))
  | with_reducible refine Tk.Rd.gcons ?_
  | with_reducible refine Tk.Rd.gnil ?_
  | with_reducible refine Tk.Rd.next ?_
  | with_reducible refine Tk.Rd.drop ?_
  | with_reducible refine Tk.Rd.ret ?_
  | with_reducible refine Tk.Rd.retN ?_
  | with_reducible refine Tk.Rd.par ?_
  | with_reducible refine Tk.Rd.parK_i ?_
  | with_reducible refine Tk.Rd.par3 ?_
  | with_reducible refine Tk.Rd.par3K_i ?_
  | ((with_reducible refine' Tk.Rd.aug ?k0 ?_); (case k0 => exact rfl))
  | with_reducible refine Tk.Rd.ip ?_
  | ((with_reducible refine' Tk.Rd.bmK_l ?k0 ?_); (case k0 => walk_at "sql"))
  | ((with_reducible refine' Tk.Rd.addS ?k0 ?_); (case k0 => walk_at "sz"))
  | fail "rd1")
local macro_rules | `(tactic| walk_at "rd1i") => `(tactic| first
  | walk_at "rd1"
  | with_reducible refine Tk.Rd.ifS ?_
  | fail "rd1i")
local macro_rules | `(tactic| walk_at "rd") => `(tactic| (repeat' walk_at "rd1i"))
local macro_rules | `(tactic| walk_at "rs") => `(tactic| ((repeat' walk_at "rd1"); (try dsimp only)))
local macro_rules | `(tactic| walk_at "hall") => `(tactic| first
  | assumption
  | ((with_reducible refine' Tk.HallAt.sm ?k0 ?k1); (case k0 => assumption); (case k1 => walk_at "hall"))
  | fail "hall")
local macro_rules | `(tactic| walk_at "parts") => `(tactic| first
  | assumption
  | ((with_reducible refine' Tk.PartsAt.sm ?k0 ?k1); (case k0 => assumption); (case k1 => walk_at "parts"))
  | fail "parts")
local macro_rules | `(tactic| walk_at "sm") => `(tactic| first
  | assumption
  | exact Tk.Sm.int rfl
  | exact Tk.Sm.flat1 rfl
  | ((with_reducible refine' Tk.Sm.sm ?k0 ?k1); (case k0 => assumption); (case k1 => walk_at "sm"))
  | fail "sm")
local macro_rules | `(tactic| walk_at "rd1") => `(tactic| first
  | ((with_reducible refine' Tk.Rd.f_modulus ?k0 ?k1 ?_); (case k0 => assumption); (case k1 => walk_at "hall"))
  | ((with_reducible refine' Tk.Rd.f_lateness ?k0 ?k1 ?_); (case k0 => assumption); (case k1 => walk_at "hall"))
  | ((with_reducible refine' Tk.Rd.f_takes ?k0 ?k1 fun tp htp => ?_); (case k0 => assumption); (case k1 => walk_at "hall"))
  | ((with_reducible refine' Tk.Rd.f_calls ?k0 ?k1 fun cp hcp => ?_); (case k0 => assumption); (case k1 => walk_at "hall"))
  | ((with_reducible refine' Tk.Rd.h_meth ?k0 ?k1 ?_); (case k0 => walk_at "hall"); (case k1 => decide +kernel))
  | ((with_reducible refine' Tk.Rd.h_prop ?k0 ?_); (case k0 => walk_at "hall"))
  | ((with_reducible refine' Tk.Rd.h_taken0 ?k0 fun H' S => ?_); (case k0 => walk_at "hall"))
  | ((with_reducible refine' Tk.Rd.h_taken1 ?k0 fun H' S => ?_); (case k0 => walk_at "hall"))
  | ((with_reducible refine' Tk.Rd.h_takenL ?k0 fun H' S => ?_); (case k0 => walk_at "hall"))
  | ((with_reducible refine' Tk.Rd.h_called0 ?k0 ?_); (case k0 => walk_at "hall"))
  | ((with_reducible refine' Tk.Rd.h_called1 ?k0 ?_); (case k0 => walk_at "hall"))
  | ((with_reducible refine' Tk.Rd.h_calledL ?k0 ?_); (case k0 => walk_at "hall"))
  | ((with_reducible refine' Tk.Rd.h_waiting ?k0 ?k1 fun H' S => ?_); (case k0 => walk_at "hall"); (case k1 => omega))
  | ((with_reducible refine' Tk.Rd.h_growth ?k0 fun H' S => ?_); (case k0 => walk_at "hall"))
  | ((with_reducible refine' Tk.Rd.h_period ?k0 ?_); (case k0 => walk_at "hall"))
  | ((with_reducible refine' Tk.Rd.h_lhall ?k0 fun h lp H' nh nl S hA => ?_); (case k0 => walk_at "parts"))
  | ((with_reducible refine' Tk.Rd.h_length ?k0 ?_); (case k0 => walk_at "parts"))
  | ((with_reducible refine' Tk.Rd.h_counts ?k0 ?k1 fun r a b H' nr na nb nab S hr ha hb => ?_); (case k0 => walk_at "parts"); (case k1 => omega))
  | ((with_reducible refine' Tk.Rd.h_countsL ?k0 ?k1 fun r a b H' nr na nb nab S hr ha hb => ?_); (case k0 => walk_at "parts"); (case k1 => decide))
  | ((with_reducible refine' Tk.Rd.h_make ?k0 ?k1 ?k2 fun h lp H' nh nl S hA => ?_); (case k0 => assumption); (case k1 => walk_at "hp"); (case k2 => walk_at "hp"))
  | ((with_reducible refine' Tk.Rd.p_0 ?k0 ?_); (case k0 => walk_at "parts"))
  | ((with_reducible refine' Tk.Rd.p_1 ?k0 fun htp => ?_); (case k0 => walk_at "parts"))
  | ((with_reducible refine' Tk.Rd.p_2 ?k0 fun hcp => ?_); (case k0 => walk_at "parts"))
  | ((with_reducible refine' Tk.Rd.p_3 ?k0 ?_); (case k0 => walk_at "parts"))
  | fail "rd1")
local macro_rules | `(tactic| walk_at "sqt") => `(tactic| first | ((with_reducible refine' Tk.PartsAt.sq ?k0); (case k0 => walk_at "parts")) | fail "sqt")
local macro_rules | `(tactic| walk_at "free") => `(tactic| first
  | assumption
  | ((with_reducible refine' Tk.Same.fr ?k0 ?k1); (case k0 => assumption); (case k1 => walk_at "free")))
local macro_rules | `(tactic| walk_at "hp") => `(tactic| first
  | ((with_reducible refine' Tk.But.gt ?k0 ?k1 ?k2); (case k0 => assumption); (case k1 => assumption); (case k2 => walk_at "hp"))
  | ((with_reducible refine' Tk.But.gl ?k0 ?k1 ?k2); (case k0 => assumption); (case k1 => assumption); (case k2 => walk_at "hp"))
  | fail "hp")
local macro_rules | `(tactic| walk_at "hall") => `(tactic| first | ((with_reducible refine' Tk.HallAt.bt ?k0 ?k1 ?k2 ?k3); (case k0 => assumption); (case k1 => assumption); (case k2 => assumption); (case k3 => walk_at "hall")) | fail "hall")
local macro_rules | `(tactic| walk_at "parts") => `(tactic| first | ((with_reducible refine' Tk.PartsAt.bt ?k0 ?k1 ?k2); (case k0 => assumption); (case k1 => assumption); (case k2 => walk_at "parts")) | fail "parts")
local macro_rules | `(tactic| walk_at "rd1") => `(tactic| first
  | ((with_reducible refine' Tk.Rd.h_below ?k0 ?k1 ?k2 ?k3 fun r H' cs hr B hd hcs => ?_); (case k0 => walk_at "hp"); (case k1 => assumption); (case k2 => first | decide | omega); (case k3 => first | decide | omega))
  | ((with_reducible refine' Tk.Rd.h_parts ?k0 ?k1 ?k2 ?k3 fun t tp cp m lt tk cl H' cs nt B hd hcs hP l1 l2 => ?_); (case k0 => walk_at "hp"); (case k1 => assumption); (case k2 => first | decide | omega); (case k3 => first | decide | omega))
  | ((with_reducible refine' Tk.Rd.h_partsL ?k0 ?k1 ?k2 ?k3 fun t tp cp m lt tk cl H' cs nt B hd hcs hP l1 l2 => ?_); (case k0 => walk_at "hp"); (case k1 => assumption); (case k2 => first | decide | omega); (case k3 => first | decide | omega))
  | ((with_reducible refine' Tk.Rd.h_small ?k0 ?k1 fun t tp cp m lt tk cl H' cs nt B hd hcs hP m1 l1 l2 l3 => ?_); (case k0 => walk_at "hp"); (case k1 => assumption))
  | ((with_reducible refine' Tk.Rd.h_tick ?k0 ?k1 fun t H' cs ht B hd hcs => ?_); (case k0 => walk_at "hp"); (case k1 => assumption))
  | ((with_reducible refine' Tk.Rd.h_mo ?k0 fun v H' S hv => ?_); (case k0 => walk_at "hall"))
  | ((with_reducible refine' Tk.Rd.h_lc ?k0 fun v H' S hv => ?_); (case k0 => walk_at "hall"))
  | ((with_reducible refine' Tk.Rd.h_lm ?k0 fun v H' S hv => ?_); (case k0 => walk_at "hall"))
  | ((with_reducible refine' Tk.Rd.h_gl ?k0 fun v H' S hv => ?_); (case k0 => walk_at "hall"))
  | ((with_reducible refine' Tk.Rd.h_ot ?k0 ?k1 fun r H' nr S hr => ?_); (case k0 => walk_at "hall"); (case k1 => first | assumption | omega))
  | ((with_reducible refine' Tk.Rd.h_most2 ?k0 fun v H' S hv => ?_); (case k0 => walk_at "parts"))
  | ((with_reducible refine' Tk.Rd.h_opens2L ?k0 ?k1 fun l ys H' nl S hl hlen hR => ?_); (case k0 => walk_at "parts"); (case k1 => decide))
  | ((with_reducible refine' Tk.Rd.h_opens2 ?k0 ?k1 fun l ys H' nl S hl hlen hR => ?_); (case k0 => walk_at "parts"); (case k1 => first | decide | omega))
  | fail "rd1")
local macro_rules | `(tactic| walk_at "ok") => `(tactic| first
  | assumption
  | ((with_reducible refine' Tk.HallAt.ok ?k0); (case k0 => walk_at "hall"))
  | ((with_reducible refine' Tk.PartsAt.ok ?k0); (case k0 => walk_at "parts"))
  | fail "ok")
local macro_rules | `(tactic| walk_at "sml") => `(tactic| first
  | exact Tk.Sml.ints (by walk_at "szb")
  | exact Tk.Sml.intsT (by walk_at "szb")
  | trivial
  | (simp [Tk.Sml]; done)
  | (simp [Tk.Sml]; omega)
  | fail "sml")
local macro_rules | `(tactic| walk_at "rd1") => `(tactic| first
  | ((with_reducible refine' Tk.Rd.nT ?k0 ?_); (case k0 => with_reducible exact rfl))
  | ((with_reducible refine' Tk.Rd.dT ?k0 ?_); (case k0 => with_reducible exact rfl))
  | with_reducible refine Tk.Rd.nF Tk.Rd.int_non ?_
  | with_reducible refine Tk.Rd.nF Tk.Rd.ref_non ?_
  | with_reducible refine Tk.Rd.dF Tk.Rd.int_non ?_
  | with_reducible refine Tk.Rd.dF Tk.Rd.ref_non ?_
  | ((with_reducible refine' Tk.Rd.h_disp ?k0 ?k1 ?_); (case k0 => first | assumption | omega); (case k1 => walk_at "hall"))
  | ((with_reducible refine' Tk.Rd.h_hold ?k0 ?k1 ?k2 ?k3 fun l H' nl S hl => ?_); (case k0 => walk_at "hall"); (case k1 => first | assumption | omega); (case k2 => first | assumption | omega); (case k3 => first | assumption | omega))
  | ((with_reducible refine' Tk.Rd.h_mis ?k0 ?k1 ?k2 fun l ys H' nl S hl hd => ?_); (case k0 => walk_at "hall"); (case k1 => first | assumption | omega); (case k2 => first | assumption | omega))
  | ((with_reducible refine' Tk.Rd.h_enc ?k0 fun l H' nl S hl => ?_); (case k0 => walk_at "hall"))
  | ((with_reducible refine' Tk.Rd.h_dec ?k0 ?k1 fun h lp H' nh nl S hA => ?_); (case k0 => walk_at "hp"); (case k1 => walk_at "ok"))
  | ((with_reducible refine' Tk.Rd.h_text ?k0 fun H' S => ?_); (case k0 => walk_at "hall"))
  | ((with_reducible refine' Tk.Rd.h_eqd ?k0 ?k1 ?k2 fun H' S => ?_); (case k0 => walk_at "dp"); (case k1 => walk_at "dp"); (case k2 => walk_at "sml"))
  | ((with_reducible refine' Tk.Rd.eqd ?k0 ?k1 ?k2 ?k3 ?_); (case k0 => walk_at "dp"); (case k1 => walk_at "dp"); (case k2 => walk_at "sml"); (case k3 => walk_at "sml"))
  | ((with_reducible refine' Tk.Rd.ned ?k0 ?k1 ?k2 ?k3 ?_); (case k0 => walk_at "dp"); (case k1 => walk_at "dp"); (case k2 => walk_at "sml"); (case k3 => walk_at "sml"))
  | fail "rd1")
/-! ### tells, first_error -/
namespace Tk
open PySem PySem.Spec PyProof.Rows L2 Mm
/-- a loop over enumerate(a list) -/
theorem for_enumL {K : PySem.W.Frag} {a : Addr} {xs : List V} {g : TG} {tb : TS} {D : Ends} {σ : L2.St} {H : Hp} (Pv : Nat → L2.St → Hp → Prop) (h0 : Pv 0 σ H) (hl : ∀ i σ H, i ≤ xs.length → Pv i σ H → SqL K H a xs)
    (hs : ∀ i x σ H, xs[i]? = some x → Pv i σ H → ∀ T, H T = none → g (.ref T) σ (upd H T (.tup [vn i, x])) fun σ2 H2 => tb { D with nx := Pv (i + 1), ct := Pv (i + 1), bk := D.nx } σ2 H2) (hd : ∀ σ H, Pv xs.length σ H → D.nx σ H) :
    ∃ W : Nat → Nat → L2.St → Hp → Prop, (∃ m, W 0 m σ H) ∧ ∀ i m σ H, W i m σ H →
      ((Ite K a).stop i H ∧ D.nx σ H) ∨ ((Ite K a).go i H ∧ ∃ N : L2.St → Hp → Prop, (∀ σ' H', N σ' H' → ∃ m', m' < m ∧ W (i + 1) m' σ' H') ∧ ∀ x H', (Ite K a).yld i H x H' → g x σ H' fun σ2 H2 => tb { D with nx := N, ct := N, bk := D.nx } σ2 H2) := by
  refine ⟨fun i m σ H => m = xs.length - i ∧ i ≤ xs.length ∧ Pv i σ H, ⟨_, rfl, Nat.zero_le _, h0⟩, fun i m σ H w => ?_⟩
  obtain ⟨rfl, hi, p⟩ := w
  have sq := hl i σ H hi p
  rcases Nat.lt_or_ge i xs.length with lt | ge
  · have at_ : xs[i]? = some xs[i] := by simp [lt]
    refine .inr ⟨⟨xs, xs[i], sq, at_⟩, Pv (i + 1), fun σ' H' p' => ⟨_, (by omega : xs.length - (i + 1) < xs.length - i), rfl, lt, p'⟩, fun x H' y => ?_⟩
    obtain ⟨T, x', rfl, hT, rfl, hx⟩ := y
    exact hs i x' σ H (hx xs sq) p T hT
  · obtain rfl : i = xs.length := by omega
    exact .inl ⟨⟨xs, sq, Nat.le_refl _⟩, hd σ H p⟩
/-- an item of a log -/
def Itm (x : V) : Prop := x = .non ∨ ∃ i : Int, x = .int i
theorem itm_disp {m : Nat} {tk cl : List Nat} {t : Nat} : dispV m tk cl t = .non ∨ ∃ n : Nat, dispV m tk cl t = vn n := by
  unfold dispV
  by_cases h : cal tk cl (t + 1) = 0
  · rw [if_pos h]
    exact .inl rfl
  · rw [if_neg h]
    exact .inr ⟨_, rfl⟩
theorem disp_itm {m : Nat} {tk cl : List Nat} {t : Nat} : Itm (dispV m tk cl t) := by
  rcases itm_disp (m := m) (tk := tk) (cl := cl) (t := t) with h | ⟨n, h⟩
  · exact .inl h
  · exact .inr ⟨_, h⟩
def spTells : Sp := fun vs H Q _ => ∃ x y : V, vs = [x, y] ∧ Itm x ∧ (y = .non ∨ ∃ n : Nat, y = vn n) ∧ Q (.bl (decide (x = y))) H
/-- what first_error answers -/
inductive ErrV (m : Nat) (tk cl : List Nat) (xs : List V) : V → Prop where
  | no (h : ∀ (i : Nat) x, xs[i]? = some x → x = dispV m tk cl i) : ErrV m tk cl xs .non
  | at_ (i : Nat) (x : V) (hx : xs[i]? = some x) (hn : x ≠ dispV m tk cl i) (h : ∀ (j : Nat) y, j < i → xs[j]? = some y → y = dispV m tk cl j) : ErrV m tk cl xs (vn i)
def spErr (C : Addr) : Sp := fun vs H Q _ => ∃ (h lp l : Addr) (m lt : Nat) (tk cl : List Nat) (xs : List V), vs = [.ref h, .ref l] ∧ HallAt C H h m tk cl lt lp ∧ H l = some (.lst xs) ∧ xs.length ≤ 100000 ∧ (∀ x ∈ xs, Itm x) ∧ ∀ v H', Same H H' → ErrV m tk cl xs v → Q v H'
section
variable {P : Program} {w : World} {K : PySem.W.Frag} {mg : Str → Option Value} {base : Heap}
theorem ok_tells (T : Txt K mg) : OkF P w K mg base 2 (He.ga K "tells") ["item", "digits"] spTells := by
  have G_is_integer_within : OkF P w K mg base 1 (He.ga K "is_integer_within") ["value", "low", "high"] spWithin := ok_is_integer_within T
  refine FnP.okF T.f_tells sc_tells (fun _ _ _ _ _ _ us hl => match us, hl with | [_, _], _ => rfl) (fun vs H Q E h => ?_) (fun cdv A outer s H vs Q E hr h => ?_)
  · obtain ⟨x, y, rfl, _⟩ := h
    rfl
  obtain ⟨x, y, rfl, hx, hy, k⟩ := h
  refine ⟨_, (pss_cons (ps_if (pt_cmpR (show OpR _ (compareOp .Is) Rd.rIsN from op_isN) (pv 1) pe_non (nomark _)) (pss_one (ps_ret (pe_cmpR (show OpR _ (compareOp .Is) Rd.rIsN from op_isN) (pv 0) pe_non (nomark _)))) pss_nil)
    (pss_one (ps_ret (pe_call G_is_integer_within.one (hr.mono (by decide)) (by rfl) T.g_is_integer_within G_is_integer_within.kp G_is_integer_within.two .nil passL (pa_cons (pv 0) (pa_cons (pv 1) (pa_cons (pv 1) pa_nil))))))), ?_⟩
  rcases hy with rfl | ⟨n, rfl⟩
  · walk_at "rd"
    exact k
  · walk_at "rd"
    have e : inB (n : Int) (n : Int) x = decide (x = vn n) := by
      rcases hx with rfl | ⟨i, rfl⟩
      · exact (decide_eq_false (fun q => by cases q)).symm
      · show (decide ((n : Int) ≤ i) && decide (i ≤ (n : Int))) = _
        by_cases c : i = (n : Int)
        · subst c
          simp
        · rw [decide_eq_false (p := V.int i = vn n) (fun q => c (by injection q))]
          rcases Int.lt_or_gt_of_ne c with z | z
          · rw [decide_eq_false (p := (n : Int) ≤ i) (by omega)]
            rfl
          · rw [decide_eq_false (p := i ≤ (n : Int)) (by omega), Bool.and_false]
    refine ⟨x, n, n, rfl, ?_, ?_⟩
    · rcases hx with rfl | ⟨i, rfl⟩
      · exact .non
      · exact .int i
    · rw [e]
      exact k
theorem ok_first_error (T : Txt K mg) : OkF P w K mg base 5 (He.ga K "first_error") ["hall", "log"] (spErr (He.ga K "Hall")) := by
  have G_tells : OkF P w K mg base 2 (He.ga K "tells") ["item", "digits"] spTells := ok_tells T
  have G_display : OkF P w K mg base 4 (He.ga K "display") ["hall", "tick"] (spDisplay (He.ga K "Hall")) := ok_display T
  refine FnP.okF T.f_first_error sc_first_error (fun _ _ _ _ _ _ us hl => match us, hl with | [_, _], _ => rfl) (fun vs H Q E h => ?_) (fun cdv A outer s H vs Q E hr h => ?_)
  · obtain ⟨h, lp, l, m, lt, tk, cl, xs, rfl, _⟩ := h
    rfl
  obtain ⟨h, lp, l, m, lt, tk, cl, xs, rfl, hA, hl, hn, hi, k⟩ := h
  refine ⟨_, (pss_cons (ps_if (pt_not (pt_val (pe_callB (isiK (K := K)) (by rfl) T.g_isinstance (by decide +kernel) (pa_cons (pv 1) (pa_cons (pe_bltn (v := .ty "list") (by rfl) T.g_list boot_ty_list rfl) pa_nil))))) (pss_one (ps_ret pe_int)) pss_nil)
    (pss_cons (ps_for own_cx rfl (pi_enum (by rfl) T.g_enumerate (pa_cons (pv 1) pa_nil)) (pg_tup rfl (pgs_cons (pg_name (i := 2) sc_first_error.nd rfl (Or.inl rfl)) (pgs_cons (pg_name (i := 3) sc_first_error.nd rfl (Or.inl rfl)) pgs_nil)))
      (pss_one (ps_if (pt_not (pt_val (pe_call G_tells.one (hr.mono (by decide)) (by rfl) T.g_tells G_tells.kp G_tells.two .nil passL (pa_cons (pv 3) (pa_cons (pe_call G_display.one (hr.mono (by decide)) (by rfl) T.g_display G_display.kp G_display.two .nil passL (pa_cons (pv 0) (pa_cons (pv 2) pa_nil))) pa_nil))))) (pss_one (ps_ret (pv 2))) pss_nil)))
    (pss_one (ps_ret pe_non)))), ?_⟩
  walk_at "rd"
  refine ⟨.ref l, .ty "list", _, _, true, rfl, .ty "list", .base (.lst hl), kit_at (by decide +kernel), ?_⟩
  walk_at "rd"
  refine ⟨_, rfl, l, xs, rfl, SqL.of hl, ?_⟩
  refine for_enumL (K := K) (a := l) (xs := xs) (fun i σ H2 => ∃ u2 u3, σ = [some (.ref h), some (.ref l), u2, u3] ∧ Same H H2 ∧ ∀ (j : Nat) y, j < i → xs[j]? = some y → y = dispV m tk cl j) ⟨_, _, rfl, Same.refl H, fun j y hj => by omega⟩ (fun i σ H2 _ ⟨_, _, _, S, _⟩ => SqL.of (S _ _ hl)) ?_ ?_
  · rintro i x σ H2 hx ⟨u2, u3, rfl, S2, hb⟩ Tp hT
    have il := (List.getElem?_eq_some_iff.mp hx).1
    have hix := hi x (List.mem_of_getElem? hx)
    have S3 : Same H2 (upd H2 Tp (.tup [vn i, x])) := Same.new hT
    have hTp : upd H2 Tp (.tup [vn i, x]) Tp = some (.tup [vn i, x]) := upd_same
    generalize upd H2 Tp (.tup [vn i, x]) = H3 at S3 hTp
    have S := S2.trans S3
    walk_at "rd"
    refine ⟨h, lp, i, m, lt, tk, cl, rfl, by omega, hA.same S, ?_⟩
    walk_at "rd"
    refine ⟨x, _, rfl, hix, itm_disp, ?_⟩
    walk_at "rd"
    refine Rd.n2 (fun c => ?_) (fun c => ?_)
    · walk_at "rd"
      refine ⟨_, _, rfl, S, fun j y hj hy => ?_⟩
      rcases Nat.lt_or_ge j i with z | z
      · exact hb j y z hy
      · obtain rfl : j = i := by omega
        rw [hx] at hy
        obtain rfl := Option.some.inj hy
        exact c
    · walk_at "rd"
      exact k _ _ S (.at_ i x hx c hb)
  · rintro σ H2 ⟨u2, u3, rfl, S2, hb⟩
    walk_at "rd"
    exact k _ _ S2 (.no fun i x hx => hb i x (List.getElem?_eq_some_iff.mp hx).1 hx)
end
namespace Rd
variable {K : PySem.W.Frag} {H : Hp} {Q : VK} {E : XK} {C h lp : Addr} {m lt : Nat} {tk cl : List Nat}
theorem h_disp {n : Nat} (hn : n ≤ 1000000000000000000) (hA : HallAt C H h m tk cl lt lp) (k : Q (dispV m tk cl n) H) : spDisplay C [.ref h, .int (n : Int)] H Q E := ⟨h, lp, n, m, lt, tk, cl, rfl, hn, hA, k⟩
theorem h_err {l : Addr} {xs : List V} (hA : HallAt C H h m tk cl lt lp) (hl : H l = some (.lst xs)) (hn : xs.length ≤ 100000) (hi : ∀ x ∈ xs, Itm x) (k : ∀ v H', Same H H' → ErrV m tk cl xs v → Q v H') : spErr C [.ref h, .ref l] H Q E := ⟨h, lp, l, m, lt, tk, cl, xs, rfl, hA, hl, hn, hi, k⟩
end Rd
end Tk

end

section
local macro_rules | `(tactic| walk_at "hp") => `(tactic| first
  | assumption
  | with_reducible exact L2.upd_same
  | ((with_reducible refine' Tk.Same.get ?k0 ?k1); (case k0 => assumption); (case k1 => walk_at "hp"))
  | fail "hp")
local macro_rules | `(tactic| walk_at "same") => `(tactic| first
  | assumption
  | exact L2.Same.refl _
  | ((with_reducible refine' Tk.Same.nw ?k0 ?k1); (case k0 => assumption); (case k1 => walk_at "same"))
  | ((with_reducible refine' Tk.Same.tr ?k0 ?k1); (case k0 => assumption); (case k1 => walk_at "same")))
local macro_rules | `(tactic| walk_at "sql") => `(tactic| first
  | assumption
  | ((with_reducible refine' L2.SqL.of ?k0); (case k0 => walk_at "hp"))
  | ((with_reducible refine' L2.Same.seq ?k0 ?k1); (case k0 => assumption); (case k1 => walk_at "sql")))
local macro_rules | `(tactic| walk_at "sqt") => `(tactic| first
  | assumption
  | ((with_reducible refine' L2.SqT.of ?k0); (case k0 => walk_at "hp"))
  | ((with_reducible refine' Tk.sqt_sm ?k0 ?k1); (case k0 => assumption); (case k1 => walk_at "sqt")))
local macro_rules | `(tactic| walk_at "sz") => `(tactic| first
  | (show (_ : Nat) ≤ 1000; decide)
  | (simp; done)
  | (simp; omega))
local macro_rules | `(tactic| walk_at "szb") => `(tactic| first
  | assumption
  | (show (_ : Nat) ≤ 100000; decide)
  | (simp; done)
  | (simp; omega))
local macro_rules | `(tactic| walk_at "dp") => `(tactic| first
  | assumption
  | with_reducible exact L2.Dp.non
  | with_reducible exact L2.Dp.int _
  | with_reducible exact L2.Dp.str _
  | with_reducible exact L2.Dp.bl _
  | ((with_reducible refine' L2.Dp.lst ?k0 ?k1); (case k0 => walk_at "sql"); (case k1 => walk_at "dpa"))
  | ((with_reducible refine' L2.Dp.tup ?k0 ?k1); (case k0 => walk_at "sqt"); (case k1 => walk_at "dpa"))
  | ((with_reducible refine' Tk.dp_sm ?k0 ?k1); (case k0 => assumption); (case k1 => walk_at "dp"))
  | fail "dp")
local macro_rules | `(tactic| walk_at "dpa") => `(tactic| first
  | assumption
  | with_reducible exact L2.DpAll.nil
  | ((with_reducible refine' L2.DpAll.cons ?k0 ?k1); (case k0 => walk_at "dp"); (case k1 => walk_at "dpa"))
  | with_reducible exact Tk.dp_nats _
  | ((with_reducible refine' Tk.dpA_sm ?k0 ?k1); (case k0 => assumption); (case k1 => walk_at "dpa"))
  | fail "dpa")
local macro_rules | `(tactic| walk_at "ci") => `(tactic| first
  | exact .inl ⟨by decide, by decide⟩
  | exact .inr ⟨by decide, by decide⟩
  | exact .inl ⟨by omega, by omega⟩
  | exact .inr ⟨by omega, by omega⟩
  | exact ⟨by decide, by decide⟩
  | exact ⟨by omega, by omega⟩
  | (show (0 : Int) < _; decide)
  | (show (0 : Int) < _; omega))
local macro_rules | `(tactic| walk_at "rd1") => `(tactic| first
  | with_reducible refine Tk.Rd.seq ?_
  | with_reducible refine Tk.Rd.star ?_
  | with_reducible refine Tk.Rd.int1_i ?_
  | with_reducible refine Tk.Rd.int1_b ?_
  | with_reducible refine Tk.Rd.tlc2 ?_
  | with_reducible refine Tk.Rd.lrg3 ?_
  | with_reducible refine Tk.Rd.lrg ?_
  | with_reducible refine Tk.Rd.rg1 ?_
  | with_reducible refine Tk.Rd.rg1K_i ?_
  | with_reducible refine Tk.Rd.rg2 ?_
  | with_reducible refine Tk.Rd.rg2K_i ?_
  | ((with_reducible refine' Tk.Rd.catL ?k0 ?k1 ?k2 fun p H' np S hp => ?_); (case k0 => walk_at "hp"); (case k1 => walk_at "hp"); (case k2 => walk_at "szb"))
  | ((with_reducible refine' Tk.Rd.starK_t ?k0 ?_); (case k0 => walk_at "sqt"))
  | ((with_reducible refine' Tk.Rd.starK_l ?k0 ?_); (case k0 => walk_at "sql"))
  | ((with_reducible refine' Tk.Rd.var ?k0 ?_); (case k0 => exact rfl))
  | with_reducible refine Tk.Rd.c ?_
  | with_reducible refine Tk.Rd.op ?_
  | with_reducible refine Tk.Rd.i0 ?_
  | with_reducible refine Tk.Rd.asg ?_
  | with_reducible refine Tk.Rd.name ?_
  | with_reducible refine Tk.Rd.cons ?_
  | with_reducible refine Tk.Rd.nil ?_
  | with_reducible refine Tk.Rd.call ?_
  | with_reducible refine Tk.Rd.callK_i ?_
  | with_reducible refine Tk.Rd.tst ?_
  | with_reducible refine Tk.Rd.bv ?_
  | with_reducible refine Tk.Rd.toB_i ?_
  | with_reducible refine Tk.Rd.ift ?_
  | with_reducible refine Tk.Rd.iff ?_
  | with_reducible refine Tk.Rd.ifnt ?_
  | with_reducible refine Tk.Rd.ifnf ?_
  | with_reducible refine Tk.Rd.not ?_
  | with_reducible refine Tk.Rd.and ?_
  | with_reducible refine Tk.Rd.or ?_
  | with_reducible refine Tk.Rd.andV ?_
  | with_reducible refine Tk.Rd.andK_i ?_
  | with_reducible refine Tk.Rd.orV ?_
  | with_reducible refine Tk.Rd.orK_i ?_
  | with_reducible refine Tk.Rd.notV ?_
  | with_reducible refine Tk.Rd.notK_i ?_
  | with_reducible refine Tk.Rd.tif ?_
  | with_reducible refine Tk.Rd.yes ?_
  | with_reducible refine Tk.Rd.tfor ?_
  | with_reducible refine Tk.Rd.tlc ?_
  | with_reducible refine Tk.Rd.rng ?_
  | ((with_reducible refine' Tk.Rd.rngK_n ?k0 ?_); (case k0 => first | decide | omega))
  | ((with_reducible refine' Tk.Rd.rngK_lit ?k0 ?_); (case k0 => decide))
  | with_reducible refine Tk.Rd.rng2 ?_
  | with_reducible refine Tk.Rd.rng3 ?_
  | with_reducible refine Tk.Rd.ilist ?_
  | with_reducible refine Tk.Rd.zip ?_
  | with_reducible refine Tk.Rd.itup ?_
  | ((with_reducible refine' Tk.Rd.listK_i ?k0 ?_); (case k0 => walk_at "sql"))
  | ((with_reducible refine' Tk.Rd.ituK_i ?k0 ?_); (case k0 => walk_at "sqt"))
  | with_reducible refine Tk.Rd.chain ?_
  | with_reducible refine Tk.Rd.chainL_i ?_
  | with_reducible refine Tk.Rd.un ?_
  | with_reducible refine Tk.Rd.u1 ?_
  | ((with_reducible refine' Tk.Rd.i1 ?k0 ?_); (case k0 => walk_at "ci"))
  | ((with_reducible refine' Tk.Rd.eq ?k0 ?_); (case k0 => exact rfl))
  | ((with_reducible refine' Tk.Rd.ne ?k0 ?_); (case k0 => exact rfl))
  | with_reducible refine Tk.Rd.isN ?_
  | with_reducible refine Tk.Rd.notN ?_
  | with_reducible refine Tk.Rd.fld ?_
  | with_reducible refine Tk.Rd.meth ?_
  | with_reducible refine Tk.Rd.prop ?_
  | with_reducible refine Tk.Rd.cb ?_
  | with_reducible refine Tk.Rd.bm ?_
  | with_reducible refine Tk.Rd.m0 ?_
  | with_reducible refine Tk.Rd.m0K_i ?_
  | with_reducible refine Tk.Rd.m1 ?_
  | with_reducible refine Tk.Rd.m1K_i ?_
  | with_reducible refine Tk.Rd.tup ?_
  | ((with_reducible refine' Tk.Rd.tupK_i ?k0 fun p H' np S hp => ?_); (case k0 => walk_at "sz"))
  | with_reducible refine Tk.Rd.lst ?_
  | ((with_reducible refine' Tk.Rd.lstK_i ?k0 fun p H' np S hp => ?_); (case k0 => walk_at "sz"))
  | ((with_reducible refine' Tk.Rd.ixF ?k0 ?k1 ?_); (case k0 => walk_at "hp"); (case k1 => omega))
  | ((with_reducible refine' Tk.Rd.ixF1 ?k0 ?k1 ?_); (case k0 => walk_at "hp"); (case k1 => omega))
  | ((with_reducible refine' Tk.Rd.ixT ?k0 ?k1 ?_); (case k0 => walk_at "sqt"); (case k1 => exact rfl))
  | ((with_reducible refine' Tk.Rd.ixL ?k0 ?k1 ?_); (case k0 => walk_at "sql"); (case k1 => exact rfl))
  | ((with_reducible refine' Tk.Rd.lenL ?k0 ?_); (case k0 => walk_at "sql"))
  | ((with_reducible refine' Tk.Rd.lenT ?k0 ?_); (case k0 => walk_at "sqt"))
  | ((with_reducible refine' Tk.Rd.lenS ?k0 ?_); (case k0 => first | assumption | omega | (simp; omega)))
  | ((with_reducible refine' Tk.Rd.slTr ?k0 fun p H' S hp => ?_); (case k0 => walk_at "hp"))
  | ((with_reducible refine' Tk.Rd.slT ?k0 fun p H' S hq => ?_); (case k0 => walk_at "sqt"))
  | ((with_reducible refine' Tk.Rd.catTr ?k0 ?k1 ?k2 fun p H' S hp => ?_); (case k0 => walk_at "hp"); (case k1 => walk_at "hp"); (case k2 => walk_at "sz"))
  | ((with_reducible refine' Tk.Rd.catA ?k0 ?k1 ?k2 ?k3 ?k4 fun p H' np S hp => ?_); (case k0 => walk_at "sqt"); (case k1 => walk_at "sqt"); (case k2 => simp); (case k3 => simp); (case k4 => first | (simp; done) | (simp; omega)))
  | with_reducible refine Tk.Rd.make ?_
  | ((with_reducible refine' Tk.Rd.tplL ?k0 fun q H' nq S hq => ?_); (case k0 => walk_at "sql"))
  | ((with_reducible refine' Tk.Rd.lstL ?k0 fun q H' nq S hq => ?_); (case k0 => walk_at "sql"))
  | ((with_reducible refine' Tk.Rd.lstT ?k0 fun q H' nq S hq => ?_); (case k0 => walk_at "sqt"))
  | ((with_reducible refine' Tk.Rd.join ?k0 ?k1 ?_); (case k0 => walk_at "sql"); (case k1 => first | assumption | omega))
  | with_reducible refine Tk.Rd.mx ?_
  | with_reducible refine Tk.Rd.mn ?_
  | with_reducible refine Tk.Rd.noPart ?_
  | with_reducible refine Tk.Rd.part ?_
  | with_reducible refine Tk.Rd.partK_i ?_
  | with_reducible refine Tk.Rd.slc ?_
  | ((with_reducible refine' Tk.Rd.gtup ?k0 ?k1 ?_); (case k0 => walk_at "sqt"); (case k1 => exact rfl))
  | ((with_reducible refine' Tk.Rd.glst ?k0 ?k1 ?_); (case k0 => walk_at "sql"); (case k1 => exact rfl))
  | with_reducible refine Tk.Rd.gcons ?_
  | with_reducible refine Tk.Rd.gnil ?_
  | with_reducible refine Tk.Rd.next ?_
  | with_reducible refine Tk.Rd.drop ?_
  | with_reducible refine Tk.Rd.ret ?_
  | with_reducible refine Tk.Rd.retN ?_
  | with_reducible refine Tk.Rd.par ?_
  | with_reducible refine Tk.Rd.parK_i ?_
  | with_reducible refine Tk.Rd.par3 ?_
  | with_reducible refine Tk.Rd.par3K_i ?_
  | ((with_reducible refine' Tk.Rd.aug ?k0 ?_); (case k0 => exact rfl))
  | with_reducible refine Tk.Rd.ip ?_
  | ((with_reducible refine' Tk.Rd.bmK_l ?k0 ?_); (case k0 => walk_at "sql"))
  | ((with_reducible refine' Tk.Rd.addS ?k0 ?_); (case k0 => walk_at "sz"))
  | fail "rd1")
local macro_rules | `(tactic| walk_at "rd1i") => `(tactic| first
  | walk_at "rd1"
  | with_reducible refine Tk.Rd.ifS ?_
  | fail "rd1i")
local macro_rules | `(tactic| walk_at "rd") => `(tactic| (repeat' walk_at "rd1i"))
local macro_rules | `(tactic| walk_at "rs") => `(tactic| ((repeat' walk_at "rd1"); (try dsimp only)))
local macro_rules | `(tactic| walk_at "hall") => `(tactic| first
  | assumption
  | ((with_reducible refine' Tk.HallAt.sm ?k0 ?k1); (case k0 => assumption); (case k1 => walk_at "hall"))
  | fail "hall")
local macro_rules | `(tactic| walk_at "parts") => `(tactic| first
  | assumption
  | ((with_reducible refine' Tk.PartsAt.sm ?k0 ?k1); (case k0 => assumption); (case k1 => walk_at "parts"))
  | fail "parts")
local macro_rules | `(tactic| walk_at "sm") => `(tactic| first
  | assumption
  | exact Tk.Sm.int rfl
  | exact Tk.Sm.flat1 rfl
  | ((with_reducible refine' Tk.Sm.sm ?k0 ?k1); (case k0 => assumption); (case k1 => walk_at "sm"))
  | fail "sm")
local macro_rules | `(tactic| walk_at "rd1") => `(tactic| first
  | ((with_reducible refine' Tk.Rd.f_modulus ?k0 ?k1 ?_); (case k0 => assumption); (case k1 => walk_at "hall"))
  | ((with_reducible refine' Tk.Rd.f_lateness ?k0 ?k1 ?_); (case k0 => assumption); (case k1 => walk_at "hall"))
  | ((with_reducible refine' Tk.Rd.f_takes ?k0 ?k1 fun tp htp => ?_); (case k0 => assumption); (case k1 => walk_at "hall"))
  | ((with_reducible refine' Tk.Rd.f_calls ?k0 ?k1 fun cp hcp => ?_); (case k0 => assumption); (case k1 => walk_at "hall"))
  | ((with_reducible refine' Tk.Rd.h_meth ?k0 ?k1 ?_); (case k0 => walk_at "hall"); (case k1 => decide +kernel))
  | ((with_reducible refine' Tk.Rd.h_prop ?k0 ?_); (case k0 => walk_at "hall"))
  | ((with_reducible refine' Tk.Rd.h_taken0 ?k0 fun H' S => ?_); (case k0 => walk_at "hall"))
  | ((with_reducible refine' Tk.Rd.h_taken1 ?k0 fun H' S => ?_); (case k0 => walk_at "hall"))
  | ((with_reducible refine' Tk.Rd.h_takenL ?k0 fun H' S => ?_); (case k0 => walk_at "hall"))
  | ((with_reducible refine' Tk.Rd.h_called0 ?k0 ?_); (case k0 => walk_at "hall"))
  | ((with_reducible refine' Tk.Rd.h_called1 ?k0 ?_); (case k0 => walk_at "hall"))
  | ((with_reducible refine' Tk.Rd.h_calledL ?k0 ?_); (case k0 => walk_at "hall"))
  | ((with_reducible refine' Tk.Rd.h_waiting ?k0 ?k1 fun H' S => ?_); (case k0 => walk_at "hall"); (case k1 => omega))
  | ((with_reducible refine' Tk.Rd.h_growth ?k0 fun H' S => ?_); (case k0 => walk_at "hall"))
  | ((with_reducible refine' Tk.Rd.h_period ?k0 ?_); (case k0 => walk_at "hall"))
  | ((with_reducible refine' Tk.Rd.h_lhall ?k0 fun h lp H' nh nl S hA => ?_); (case k0 => walk_at "parts"))
  | ((with_reducible refine' Tk.Rd.h_length ?k0 ?_); (case k0 => walk_at "parts"))
  | ((with_reducible refine' Tk.Rd.h_counts ?k0 ?k1 fun r a b H' nr na nb nab S hr ha hb => ?_); (case k0 => walk_at "parts"); (case k1 => omega))
  | ((with_reducible refine' Tk.Rd.h_countsL ?k0 ?k1 fun r a b H' nr na nb nab S hr ha hb => ?_); (case k0 => walk_at "parts"); (case k1 => decide))
  | ((with_reducible refine' Tk.Rd.h_make ?k0 ?k1 ?k2 fun h lp H' nh nl S hA => ?_); (case k0 => assumption); (case k1 => walk_at "hp"); (case k2 => walk_at "hp"))
  | ((with_reducible refine' Tk.Rd.p_0 ?k0 ?_); (case k0 => walk_at "parts"))
  | ((with_reducible refine' Tk.Rd.p_1 ?k0 fun htp => ?_); (case k0 => walk_at "parts"))
  | ((with_reducible refine' Tk.Rd.p_2 ?k0 fun hcp => ?_); (case k0 => walk_at "parts"))
  | ((with_reducible refine' Tk.Rd.p_3 ?k0 ?_); (case k0 => walk_at "parts"))
  | fail "rd1")
local macro_rules | `(tactic| walk_at "sqt") => `(tactic| first | ((with_reducible refine' Tk.PartsAt.sq ?k0); (case k0 => walk_at "parts")) | fail "sqt")
local macro_rules | `(tactic| walk_at "free") => `(tactic| first
  | assumption
  | ((with_reducible refine' Tk.Same.fr ?k0 ?k1); (case k0 => assumption); (case k1 => walk_at "free")))
local macro_rules | `(tactic| walk_at "hp") => `(tactic| first
  | ((with_reducible refine' Tk.But.gt ?k0 ?k1 ?k2); (case k0 => assumption); (case k1 => assumption); (case k2 => walk_at "hp"))
  | ((with_reducible refine' Tk.But.gl ?k0 ?k1 ?k2); (case k0 => assumption); (case k1 => assumption); (case k2 => walk_at "hp"))
  | fail "hp")
local macro_rules | `(tactic| walk_at "hall") => `(tactic| first | ((with_reducible refine' Tk.HallAt.bt ?k0 ?k1 ?k2 ?k3); (case k0 => assumption); (case k1 => assumption); (case k2 => assumption); (case k3 => walk_at "hall")) | fail "hall")
local macro_rules | `(tactic| walk_at "parts") => `(tactic| first | ((with_reducible refine' Tk.PartsAt.bt ?k0 ?k1 ?k2); (case k0 => assumption); (case k1 => assumption); (case k2 => walk_at "parts")) | fail "parts")
local macro_rules | `(tactic| walk_at "rd1") => `(tactic| first
  | ((with_reducible refine' Tk.Rd.h_below ?k0 ?k1 ?k2 ?k3 fun r H' cs hr B hd hcs => ?_); (case k0 => walk_at "hp"); (case k1 => assumption); (case k2 => first | decide | omega); (case k3 => first | decide | omega))
  | ((with_reducible refine' Tk.Rd.h_parts ?k0 ?k1 ?k2 ?k3 fun t tp cp m lt tk cl H' cs nt B hd hcs hP l1 l2 => ?_); (case k0 => walk_at "hp"); (case k1 => assumption); (case k2 => first | decide | omega); (case k3 => first | decide | omega))
  | ((with_reducible refine' Tk.Rd.h_partsL ?k0 ?k1 ?k2 ?k3 fun t tp cp m lt tk cl H' cs nt B hd hcs hP l1 l2 => ?_); (case k0 => walk_at "hp"); (case k1 => assumption); (case k2 => first | decide | omega); (case k3 => first | decide | omega))
  | ((with_reducible refine' Tk.Rd.h_small ?k0 ?k1 fun t tp cp m lt tk cl H' cs nt B hd hcs hP m1 l1 l2 l3 => ?_); (case k0 => walk_at "hp"); (case k1 => assumption))
  | ((with_reducible refine' Tk.Rd.h_tick ?k0 ?k1 fun t H' cs ht B hd hcs => ?_); (case k0 => walk_at "hp"); (case k1 => assumption))
  | ((with_reducible refine' Tk.Rd.h_mo ?k0 fun v H' S hv => ?_); (case k0 => walk_at "hall"))
  | ((with_reducible refine' Tk.Rd.h_lc ?k0 fun v H' S hv => ?_); (case k0 => walk_at "hall"))
  | ((with_reducible refine' Tk.Rd.h_lm ?k0 fun v H' S hv => ?_); (case k0 => walk_at "hall"))
  | ((with_reducible refine' Tk.Rd.h_gl ?k0 fun v H' S hv => ?_); (case k0 => walk_at "hall"))
  | ((with_reducible refine' Tk.Rd.h_ot ?k0 ?k1 fun r H' nr S hr => ?_); (case k0 => walk_at "hall"); (case k1 => first | assumption | omega))
  | ((with_reducible refine' Tk.Rd.h_most2 ?k0 fun v H' S hv => ?_); (case k0 => walk_at "parts"))
  | ((with_reducible refine' Tk.Rd.h_opens2L ?k0 ?k1 fun l ys H' nl S hl hlen hR => ?_); (case k0 => walk_at "parts"); (case k1 => decide))
  | ((with_reducible refine' Tk.Rd.h_opens2 ?k0 ?k1 fun l ys H' nl S hl hlen hR => ?_); (case k0 => walk_at "parts"); (case k1 => first | decide | omega))
  | fail "rd1")
local macro_rules | `(tactic| walk_at "ok") => `(tactic| first
  | assumption
  | ((with_reducible refine' Tk.HallAt.ok ?k0); (case k0 => walk_at "hall"))
  | ((with_reducible refine' Tk.PartsAt.ok ?k0); (case k0 => walk_at "parts"))
  | fail "ok")
local macro_rules | `(tactic| walk_at "sml") => `(tactic| first
  | exact Tk.Sml.ints (by walk_at "szb")
  | exact Tk.Sml.intsT (by walk_at "szb")
  | trivial
  | (simp [Tk.Sml]; done)
  | (simp [Tk.Sml]; omega)
  | fail "sml")
local macro_rules | `(tactic| walk_at "rd1") => `(tactic| first
  | ((with_reducible refine' Tk.Rd.nT ?k0 ?_); (case k0 => with_reducible exact rfl))
  | ((with_reducible refine' Tk.Rd.dT ?k0 ?_); (case k0 => with_reducible exact rfl))
  | with_reducible refine Tk.Rd.nF Tk.Rd.int_non ?_
  | with_reducible refine Tk.Rd.nF Tk.Rd.ref_non ?_
  | with_reducible refine Tk.Rd.dF Tk.Rd.int_non ?_
  | with_reducible refine Tk.Rd.dF Tk.Rd.ref_non ?_
  | ((with_reducible refine' Tk.Rd.h_disp ?k0 ?k1 ?_); (case k0 => first | assumption | omega); (case k1 => walk_at "hall"))
  | ((with_reducible refine' Tk.Rd.h_hold ?k0 ?k1 ?k2 ?k3 fun l H' nl S hl => ?_); (case k0 => walk_at "hall"); (case k1 => first | assumption | omega); (case k2 => first | assumption | omega); (case k3 => first | assumption | omega))
  | ((with_reducible refine' Tk.Rd.h_mis ?k0 ?k1 ?k2 fun l ys H' nl S hl hd => ?_); (case k0 => walk_at "hall"); (case k1 => first | assumption | omega); (case k2 => first | assumption | omega))
  | ((with_reducible refine' Tk.Rd.h_enc ?k0 fun l H' nl S hl => ?_); (case k0 => walk_at "hall"))
  | ((with_reducible refine' Tk.Rd.h_dec ?k0 ?k1 fun h lp H' nh nl S hA => ?_); (case k0 => walk_at "hp"); (case k1 => walk_at "ok"))
  | ((with_reducible refine' Tk.Rd.h_text ?k0 fun H' S => ?_); (case k0 => walk_at "hall"))
  | ((with_reducible refine' Tk.Rd.h_eqd ?k0 ?k1 ?k2 fun H' S => ?_); (case k0 => walk_at "dp"); (case k1 => walk_at "dp"); (case k2 => walk_at "sml"))
  | ((with_reducible refine' Tk.Rd.eqd ?k0 ?k1 ?k2 ?k3 ?_); (case k0 => walk_at "dp"); (case k1 => walk_at "dp"); (case k2 => walk_at "sml"); (case k3 => walk_at "sml"))
  | ((with_reducible refine' Tk.Rd.ned ?k0 ?k1 ?k2 ?k3 ?_); (case k0 => walk_at "dp"); (case k1 => walk_at "dp"); (case k2 => walk_at "sml"); (case k3 => walk_at "sml"))
  | fail "rd1")
/-! ### The displays' cycle, first_difference -/
namespace Tk
open PySem PySem.Spec PyProof.Rows L2 Mm
theorem red_p2 {st p t : Nat} (hp : 0 < p) (h : st ≤ t) : ∃ n k, st ≤ n ∧ n < st + p ∧ t = n + k * p := by
  refine ⟨st + (t - st) % p, (t - st) / p, by omega, ?_, ?_⟩
  · have := Nat.mod_lt (t - st) hp
    omega
  · have := Nat.div_add_mod (t - st) p
    rw [Nat.mul_comm] at this
    omega
/-- how many are called in a period -/
def gain (tk cl : List Nat) : Nat := cal tk cl (2 * per tk cl) - cal tk cl (per tk cl)
def cyc (m : Nat) (tk cl : List Nat) : Nat := per tk cl * (m / Nat.gcd m (gain tk cl))
section
variable {m : Nat} {tk cl : List Nat}
theorem cal_rounds (h1 : Pat tk) (h2 : Pat cl) {t : Nat} (h : per tk cl ≤ t) (k : Nat) : cal tk cl (t + k * per tk cl) = cal tk cl t + k * gain tk cl := cal_far (per_pos h1.pos h2.pos) per_tk per_cl h k
theorem cyc_pos (h1 : Pat tk) (h2 : Pat cl) (hm : 0 < m) : 0 < cyc m tk cl := Nat.mul_pos (per_pos h1.pos h2.pos) (Nat.div_pos (Nat.le_of_dvd hm (Nat.gcd_dvd_left _ _)) (Nat.gcd_pos_of_pos_left _ hm))
theorem rounds_dvd (hm : 0 < m) : m ∣ (m / Nat.gcd m (gain tk cl)) * gain tk cl := by
  obtain ⟨q, hq⟩ := Nat.gcd_dvd_right m (gain tk cl)
  obtain ⟨r, hr⟩ := Nat.gcd_dvd_left m (gain tk cl)
  have g0 := Nat.gcd_pos_of_pos_left (gain tk cl) hm
  generalize Nat.gcd m (gain tk cl) = g at *
  have e : m / g = r := by
    rw [hr, Nat.mul_div_cancel_left _ g0]
  rw [e, hq]
  exact ⟨q, by rw [hr, Nat.mul_left_comm, ← Nat.mul_assoc]⟩
/-- from the second period on the display repeats -/
theorem disp_cycle (h1 : Pat tk) (h2 : Pat cl) (hm : 0 < m) {t : Nat} (ht : 2 * per tk cl ≤ t) : ∀ k, dispV m tk cl (t + k * cyc m tk cl) = dispV m tk cl t := fun k => by
  have p0 := per_pos h1.pos h2.pos
  have e : t + k * cyc m tk cl + 1 = (t + 1) + (k * (m / Nat.gcd m (gain tk cl))) * per tk cl := by
    unfold cyc
    rw [Nat.mul_comm (per tk cl), ← Nat.mul_assoc]
    omega
  have c := cal_rounds h1 h2 (t := t + 1) (by omega) (k * (m / Nat.gcd m (gain tk cl)))
  rw [← e] at c
  obtain ⟨q, hq⟩ := rounds_dvd (m := m) (tk := tk) (cl := cl) hm
  rw [Nat.mul_assoc, hq] at c
  unfold dispV
  by_cases z : cal tk cl (t + 1) = 0
  · have g0 : gain tk cl = 0 := by
      have a := cal_mono (tk := tk) (cl := cl) (show 2 * per tk cl ≤ t + 1 by omega)
      unfold gain
      omega
    rw [g0, Nat.mul_zero] at hq
    rw [← hq] at c
    rw [if_pos (by omega), if_pos z]
  · rw [if_neg (by omega), if_neg z]
    congr 1
    rw [c, show cal tk cl (t + 1) + k * (m * q) - 1 = (cal tk cl (t + 1) - 1) + m * (k * q) by rw [Nat.mul_left_comm]; omega, Nat.add_mul_mod_self_left]
theorem gain_le (h2 : Pat cl) : gain tk cl ≤ 9 * per tk cl := by
  have key : ∀ n, cal tk cl (per tk cl + n) ≤ cal tk cl (per tk cl) + 9 * n := fun n => by
    induction n with
    | zero => exact Nat.le_refl _
    | succ n ih =>
      have := cal_succ (tk := tk) (cl := cl) (per tk cl + n)
      have := atp_le h2.nine (per tk cl + n)
      rw [show per tk cl + (n + 1) = per tk cl + n + 1 by omega]
      omega
  have := key (per tk cl)
  unfold gain
  rw [show 2 * per tk cl = per tk cl + per tk cl by omega]
  omega
theorem cyc_le : cyc m tk cl ≤ per tk cl * m := Nat.mul_le_mul_left _ (Nat.div_le_self _ _)
end
/-- the first difference of two displays -/
inductive DiffV (f g : Nat → V) (H : Hp) : V → Prop where
  | no (h : ∀ t, f t = g t) : DiffV f g H .non
  | at_ (t : Nat) (r : Addr) (h0 : f t ≠ g t) (h1 : ∀ s, s < t → f s = g s) (hr : H r = some (.tup [vn t, f t, g t])) : DiffV f g H (.ref r)
def spDc (C : Addr) : Sp := fun vs H Q _ => ∃ (h lp : Addr) (m lt : Nat) (tk cl : List Nat), vs = [.ref h] ∧ HallAt C H h m tk cl lt lp ∧ Q (vn (cyc m tk cl)) H
def spFd (C : Addr) : Sp := fun vs H Q _ => ∃ (h lp h2 lp2 : Addr) (m lt m2 lt2 : Nat) (tk cl tk2 cl2 : List Nat), vs = [.ref h, .ref h2] ∧ HallAt C H h m tk cl lt lp ∧ HallAt C H h2 m2 tk2 cl2 lt2 lp2 ∧ cyc m tk cl < 1000000 ∧ cyc m2 tk2 cl2 < 1000000 ∧
  max (per tk cl) (per tk2 cl2) + Nat.lcm (cyc m tk cl) (cyc m2 tk2 cl2) ≤ 20000 ∧ ∀ v H', Same H H' → DiffV (dispV m tk cl) (dispV m2 tk2 cl2) H' v → Q v H'
section
variable {P : Program} {w : World} {K : PySem.W.Frag} {mg : Str → Option Value} {base : Heap}
theorem ok_display_cycle (T : Txt K mg) : OkF P w K mg base 4 (He.ga K "display_cycle") ["hall"] (spDc (He.ga K "Hall")) := by
  have G_called : OkF P w K mg base 3 (He.ma K (He.ga K "Hall") "called") ["self", "tick"] (spCalled (He.ga K "Hall")) := ok_called T
  have G_period : OkF P w K mg base 1 (getAt K (He.ga K "Hall") "period") ["self"] (spPeriod (He.ga K "Hall")) := ok_period T
  refine FnP.okF T.f_display_cycle sc_display_cycle (fun _ _ _ _ _ _ us hl => match us, hl with | [_], _ => rfl) (fun vs H Q E h => ?_) (fun cdv A outer s H vs Q E hr h => ?_)
  · obtain ⟨h, lp, m, lt, tk, cl, rfl, _⟩ := h
    rfl
  obtain ⟨h, lp, m, lt, tk, cl, rfl, hA, k⟩ := h
  refine ⟨_, (pss_cons (ps_set (i := 1) sc_display_cycle.nd rfl (Or.inl rfl) (pe_op op_sub (pe_meth (pv 0) T.cl_Hall T.m_called G_called.one (hr.mono (by decide)) G_called.two .nil passL (pa_cons (pe_op op_mul pe_int (pe_prop (pv 0) T.cl_Hall T.p_period G_period.one (hr.mono (by decide)) G_period.two .nil passL (by rfl))) pa_nil)) (pe_meth (pv 0) T.cl_Hall T.m_called G_called.one (hr.mono (by decide)) G_called.two .nil passL (pa_cons (pe_prop (pv 0) T.cl_Hall T.p_period G_period.one (hr.mono (by decide)) G_period.two .nil passL (by rfl)) pa_nil))))
    (pss_one (ps_ret (pe_op op_mul (pe_prop (pv 0) T.cl_Hall T.p_period G_period.one (hr.mono (by decide)) G_period.two .nil passL (by rfl)) (pe_op op_fdiv (pe_fld (pv 0) rfl) (pfun cr_gcd (by rfl) T.g_gcd (pa_cons (pe_fld (pv 0) rfl) (pa_cons (pv 1) pa_nil)))))))), ?_⟩
  have m2 := hA.ok.m2
  have m4 := hA.ok.m4
  have p144 := per_144 hA.ok.tkP hA.ok.clP
  have gm := Nat.gcd_le_left (gain tk cl) (show 0 < m by omega)
  have g0 := Nat.gcd_pos_of_pos_left (gain tk cl) (show 0 < m by omega)
  have dl : m / Nat.gcd m (gain tk cl) ≤ m := Nat.div_le_self _ _
  have cm := cal_mono (tk := tk) (cl := cl) (show per tk cl ≤ 2 * per tk cl by omega)
  walk_at "rd"
  refine Rd.h_called (r := []) (n := 2 * per tk cl) hA (by omega) ?_
  walk_at "rd"
  refine ⟨(m : Int), _, rfl, ?_⟩
  rw [Int.natAbs_natCast, show ((cal tk cl (2 * per tk cl) : Int) - (cal tk cl (per tk cl) : Int)).natAbs = gain tk cl by unfold gain; omega]
  refine Rd.i1 ⟨by omega, by omega⟩ ?_
  rw [← Int.natCast_ediv]
  refine Rd.i1 (.inl ⟨by omega, by omega⟩) ?_
  have e : V.int ((per tk cl : Int) * ((m / Nat.gcd m (gain tk cl) : Nat) : Int)) = vn (cyc m tk cl) := vn_int (by unfold cyc; rw [Int.natCast_mul])
  rw [e]
  exact k
theorem ok_first_difference (T : Txt K mg) : OkF P w K mg base 5 (He.ga K "first_difference") ["hall", "other"] (spFd (He.ga K "Hall")) := by
  have G_period : OkF P w K mg base 1 (getAt K (He.ga K "Hall") "period") ["self"] (spPeriod (He.ga K "Hall")) := ok_period T
  have G_display : OkF P w K mg base 4 (He.ga K "display") ["hall", "tick"] (spDisplay (He.ga K "Hall")) := ok_display T
  have G_display_cycle : OkF P w K mg base 4 (He.ga K "display_cycle") ["hall"] (spDc (He.ga K "Hall")) := ok_display_cycle T
  refine FnP.okF T.f_first_difference sc_first_difference (fun _ _ _ _ _ _ us hl => match us, hl with | [_, _], _ => rfl) (fun vs H Q E h => ?_) (fun cdv A outer s H vs Q E hr h => ?_)
  · obtain ⟨h, lp, h2, lp2, m, lt, m2, lt2, tk, cl, tk2, cl2, rfl, _⟩ := h
    rfl
  obtain ⟨h, lp, g, lp2, m, lt, m', lt', tk, cl, tk', cl', rfl, hA, hB, c1, c2, hz, k⟩ := h
  have h1 := hA.ok.tkP
  have h2 := hA.ok.clP
  have h3 := hB.ok.tkP
  have h4 := hB.ok.clP
  have y0 := cyc_pos h1 h2 (show 0 < m by have := hA.ok.m2; omega)
  have y1 := cyc_pos h3 h4 (show 0 < m' by have := hB.ok.m2; omega)
  refine ⟨_, (pss_cons (ps_set (i := 2) sc_first_difference.nd rfl (Or.inl rfl) (pe_callB (show CallR _ (.builtin "max") Rd.rMax2 from call_max2 (by rfl)) (by rfl) T.g_max (by decide +kernel) (pa_cons (pe_prop (pv 0) T.cl_Hall T.p_period G_period.one (hr.mono (by decide)) G_period.two .nil passL (by rfl)) (pa_cons (pe_prop (pv 1) T.cl_Hall T.p_period G_period.one (hr.mono (by decide)) G_period.two .nil passL (by rfl)) pa_nil))))
    (pss_cons (ps_set (i := 3) sc_first_difference.nd rfl (Or.inl rfl) (pfun cr_lcm (by rfl) T.g_lcm (pa_cons (pe_call G_display_cycle.one (hr.mono (by decide)) (by rfl) T.g_display_cycle G_display_cycle.kp G_display_cycle.two .nil passL (pa_cons (pv 0) pa_nil)) (pa_cons (pe_call G_display_cycle.one (hr.mono (by decide)) (by rfl) T.g_display_cycle G_display_cycle.kp G_display_cycle.two .nil passL (pa_cons (pv 1) pa_nil)) pa_nil))))
    (pss_cons (ps_if (pt_cmpR op_gt (pe_op op_add (pv 2) (pv 3)) (pe_gint (by rfl) T.c_MOST_TICKS) (nomark _)) (pss_one ps_never) pss_nil)
    (pss_cons (ps_for own_cx rfl (pi_range1 (by rfl) T.g_range (pa_cons (pe_op op_add (pe_op op_mul pe_int (pv 2)) (pv 3)) pa_nil)) (pg_name (i := 4) sc_first_difference.nd rfl (Or.inl rfl))
      (pss_cons (ps_par (i := 5) (j := 6) (by rfl) sc_first_difference.nd rfl rfl (by decide) rfl rfl (pa_cons (pe_call G_display.one (hr.mono (by decide)) (by rfl) T.g_display G_display.kp G_display.two .nil passL (pa_cons (pv 0) (pa_cons (pv 4) pa_nil))) (pa_cons (pe_call G_display.one (hr.mono (by decide)) (by rfl) T.g_display G_display.kp G_display.two .nil passL (pa_cons (pv 1) (pa_cons (pv 4) pa_nil))) pa_nil)) (by rfl))
    (pss_one (ps_if (pt_cmpR op_ne (pv 5) (pv 6) (nomark _)) (pss_one (ps_ret (pe_tup (pa_cons (pv 4) (pa_cons (pv 5) (pa_cons (pv 6) pa_nil)))))) pss_nil))))
    (pss_one (ps_ret pe_non)))))), ?_⟩
  walk_at "rd"
  refine ⟨h, lp, m, lt, tk, cl, rfl, hA, ?_⟩
  walk_at "rd"
  refine ⟨g, lp2, m', lt', tk', cl', rfl, hB, ?_⟩
  walk_at "rd"
  refine ⟨cyc m tk cl, cyc m' tk' cl', rfl, c1, c2, ?_⟩
  walk_at "rd"
  rw [show max (per tk cl : Int) (per tk' cl' : Int) = ((max (per tk cl) (per tk' cl') : Nat) : Int) by omega]
  generalize hP : max (per tk cl) (per tk' cl') = Pm at *
  generalize hL : Nat.lcm (cyc m tk cl) (cyc m' tk' cl') = L at *
  refine Rd.dF (by omega) ?_
  walk_at "rd"
  refine ⟨((2 * Pm + L : Nat) : Int), by simp, by omega, by omega, ?_⟩
  rw [Int.toNat_natCast]
  refine Rd.for_rng (n := 2 * Pm + L) (fun i σ H2 => ∃ v4 v5 v6, σ = [some (.ref h), some (.ref g), some (vn Pm), some (vn L), v4, v5, v6] ∧ H2 = H ∧ ∀ s, s < i → dispV m tk cl s = dispV m' tk' cl' s) ⟨_, _, _, rfl, rfl, fun s hs => by omega⟩ ?_ ?_
  · rintro i σ H2 hi ⟨v4, v5, v6, rfl, rfl, hb⟩
    walk_at "rd"
    have sc : scal (dispV m tk cl i) (dispV m' tk' cl' i) = true := by
      rcases itm_disp (m := m) (tk := tk) (cl := cl) (t := i) with e | ⟨n, e⟩ <;> rcases itm_disp (m := m') (tk := tk') (cl := cl') (t := i) with e2 | ⟨n2, e2⟩ <;> rw [e, e2] <;> rfl
    refine Rd.ne sc ?_
    walk_at "rd"
    refine Rd.n2 (fun c => ?_) (fun c => ?_)
    · walk_at "rd"
      refine ⟨_, _, _, rfl, rfl, fun s hs => ?_⟩
      rcases Nat.lt_or_ge s i with z | z
      · exact hb s z
      · obtain rfl : s = i := by omega
        exact c
    · walk_at "rd"
      rename_i r H3 nr S3 hr3
      exact k _ _ S3 (.at_ i r c hb hr3)
  · rintro σ H2 ⟨v4, v5, v6, rfl, rfl, hb⟩
    walk_at "rd"
    refine k _ _ (Same.refl _) (.no fun t => ?_)
    rcases Nat.lt_or_ge t (2 * Pm + L) with z | z
    · exact hb t z
    · have L0 : 0 < L := by rw [← hL]; exact Nat.lcm_pos y0 y1
      obtain ⟨n, q, a, b, rfl⟩ := red_p2 L0 (show 2 * Pm ≤ t by omega)
      obtain ⟨u, hu⟩ : ∃ u, L = u * cyc m tk cl := by
        obtain ⟨u, hu⟩ := Nat.dvd_lcm_left (cyc m tk cl) (cyc m' tk' cl')
        exact ⟨u, by rw [← hL, hu, Nat.mul_comm]⟩
      obtain ⟨u', hu'⟩ : ∃ u, L = u * cyc m' tk' cl' := by
        obtain ⟨u, hu⟩ := Nat.dvd_lcm_right (cyc m tk cl) (cyc m' tk' cl')
        exact ⟨u, by rw [← hL, hu, Nat.mul_comm]⟩
      have e1 := disp_cycle (m := m) h1 h2 (by have := hA.ok.m2; omega) (t := n) (by omega) (q * u)
      have e2 := disp_cycle (m := m') h3 h4 (by have := hB.ok.m2; omega) (t := n) (by omega) (q * u')
      rw [Nat.mul_assoc, ← hu] at e1
      rw [Nat.mul_assoc, ← hu'] at e2
      rw [e1, e2]
      exact hb n (by omega)
end
namespace Rd
variable {K : PySem.W.Frag} {H : Hp} {Q : VK} {E : XK} {C h lp h' lp' : Addr} {m lt m' lt' : Nat} {tk cl tk' cl' : List Nat}
theorem h_fd (hA : HallAt C H h m tk cl lt lp) (hB : HallAt C H h' m' tk' cl' lt' lp') (c1 : cyc m tk cl < 1000000) (c2 : cyc m' tk' cl' < 1000000) (hz : max (per tk cl) (per tk' cl') + Nat.lcm (cyc m tk cl) (cyc m' tk' cl') ≤ 20000) (k : ∀ v H', Same H H' → DiffV (dispV m tk cl) (dispV m' tk' cl') H' v → Q v H') :
    spFd C [.ref h, .ref h'] H Q E := ⟨h, lp, h', lp', m, lt, m', lt', tk, cl, tk', cl', rfl, hA, hB, c1, c2, hz, k⟩
end Rd
end Tk

end

/-! ### Slices -/
namespace Tk
open PySem PySem.Spec PyProof.Rows L2
theorem cut_pre (xs : List V) (n : Nat) : cutV xs none (some (n : Int)) = xs.take n := by
  unfold cutV
  rw [HT.sIx_none, HT.sIx_nat, List.drop_zero, Nat.sub_zero]
  rcases Nat.le_total n xs.length with h | h
  · rw [Nat.min_eq_left h]
  · rw [Nat.min_eq_right h, List.take_of_length_le h, List.take_length]
theorem cut_preI (xs : List V) {z : Int} {n : Nat} (e : z = (n : Int)) : cutV xs none (some z) = xs.take n := by
  rw [e]
  exact cut_pre xs n
theorem cut_suf (xs : List V) (n : Nat) : cutV xs (some (n : Int)) none = xs.drop n := by
  unfold cutV
  rw [HT.sIx_none, HT.sIx_nat]
  rcases Nat.le_total n xs.length with h | h
  · rw [Nat.min_eq_left h, List.take_of_length_le (by simp)]
  · rw [Nat.min_eq_right h, List.drop_of_length_le h]
    simp
theorem cut_sufI (xs : List V) {z : Int} {n : Nat} (e : z = (n : Int)) : cutV xs (some z) none = xs.drop n := by
  rw [e]
  exact cut_suf xs n
theorem cut_mid (xs : List V) (a b : Nat) : cutV xs (some (a : Int)) (some (b : Int)) = (xs.drop a).take (b - a) := by
  unfold cutV
  rw [HT.sIx_nat, HT.sIx_nat]
  refine List.ext_getElem? fun i => ?_
  rw [List.getElem?_take, List.getElem?_take, List.getElem?_drop, List.getElem?_drop]
  rcases Nat.le_total a xs.length with h | h
  · rw [Nat.min_eq_left h]
    by_cases c : i < b - a
    · by_cases c2 : i < min b xs.length - a
      · rw [if_pos c, if_pos c2]
      · rw [if_pos c, if_neg c2, List.getElem?_eq_none (by omega)]
    · rw [if_neg c, if_neg (by omega)]
  · rw [Nat.min_eq_right h, if_neg (by omega)]
    split
    · rw [List.getElem?_eq_none (by omega)]
    · rfl
/-- without the last item -/
theorem cut_init (xs : List V) : cutV xs none (some (-1)) = xs.dropLast := by
  unfold cutV
  rw [HT.sIx_none]
  have e : HT.sIx xs.length xs.length (some (-1)) = xs.length - 1 := by
    show (if (-1 : Int) < 0 then ((-1 : Int) + (xs.length : Int)).toNat else min (-1 : Int).toNat xs.length) = _
    rw [if_pos (by decide)]
    omega
  rw [e, List.drop_zero, List.dropLast_eq_take]
  rfl
end Tk

/-! ### Tuples cut, joined, repeated: what stands there is tracked -/
namespace Tk
open PySem PySem.Spec PyProof.Rows L2 Mm
namespace Rd
variable {K : PySem.W.Frag} {H : Hp} {Q : VK}
theorem repTr {l : Addr} {xs : List V} {k : Int} (hq : H l = some (.tup xs)) (hne : xs ≠ []) (h2 : 2 ≤ k) (hk : k ≤ 1000) (hl : xs.length ≤ 1000) (kk : ∀ p H', H p = none → Same H H' → H' p = some (.tup (List.replicate k.toNat xs).flatten) → Q (.ref p) H') : rRepT K (.ref l) (.int k) H Q :=
  ⟨l, k, xs, rfl, rfl, SqT.of hq, hne, h2, hk, hl, fun p hp => kk p _ hp (Same.nw hp (Same.refl H)) upd_same⟩
end Rd
theorem flat_map (k : Nat) (ps : List Nat) : (List.replicate k (ps.map vn)).flatten = ((List.replicate k ps).flatten).map vn := by
  rw [List.map_flatten, List.map_replicate]
end Tk

/-! ### Data: what a value is worth -/
namespace Tk
open PySem PySem.Spec PyProof.Rows L2
abbrev dN (n : Nat) : PyData := .int (n : Int)
/-- data without dicts and bools, at most n deep, no list too long -/
def Sml : Nat → PyData → Prop
  | 0, _ => False
  | n + 1, .list xs => xs.length ≤ 100000 ∧ ∀ x ∈ xs, Sml n x
  | n + 1, .tuple xs => xs.length ≤ 100000 ∧ ∀ x ∈ xs, Sml n x
  | _ + 1, .dict _ => False
  | _ + 1, .bool _ => False
  | _ + 1, .none => True
  | _ + 1, .int _ => True
  | _ + 1, .str x => PyData.strOk x = true
theorem Sml.ints {n : Nat} {ns : List Nat} (h : ns.length ≤ 100000) : Sml (n + 2) (.list (ns.map dN)) := ⟨by rw [List.length_map]; exact h, fun x hx => by
  obtain ⟨m, _, rfl⟩ := List.mem_map.mp hx
  trivial⟩
theorem Sml.intsT {n : Nat} {ns : List Nat} (h : ns.length ≤ 100000) : Sml (n + 2) (.tuple (ns.map dN)) := ⟨by rw [List.length_map]; exact h, fun x hx => by
  obtain ⟨m, _, rfl⟩ := List.mem_map.mp hx
  trivial⟩
theorem Sml.mono : ∀ {n : Nat} {d : PyData}, Sml n d → Sml (n + 1) d
  | 0, _, h => h.elim
  | n + 1, .list xs, h => ⟨h.1, fun x hx => (h.2 x hx).mono⟩
  | n + 1, .tuple xs, h => ⟨h.1, fun x hx => (h.2 x hx).mono⟩
  | n + 1, .dict _, h => h.elim
  | n + 1, .bool _, h => h.elim
  | n + 1, .none, _ => trivial
  | n + 1, .int _, _ => trivial
  | n + 1, .str _, h => h
theorem Sml.up {n m : Nat} {d : PyData} (h : Sml n d) (l : n ≤ m) : Sml m d := by
  induction l with
  | refl => exact h
  | step _ ih => exact ih.mono
theorem canAll : ∀ {xs : List PyData}, (∀ x ∈ xs, x.canLay0 = true) → PyData.canLayAll0 xs = true
  | [], _ => rfl
  | x :: xs, h => by
    simp only [PyData.canLayAll0, h x List.mem_cons_self, canAll fun y hy => h y (List.mem_cons_of_mem _ hy), Bool.and_self]
theorem depAll {n : Nat} : ∀ {xs : List PyData}, (∀ x ∈ xs, x.depth ≤ n) → PyData.depthAll xs ≤ n
  | [], _ => Nat.zero_le _
  | x :: xs, h => by
    have a := h x List.mem_cons_self
    have b := depAll fun y hy => h y (List.mem_cons_of_mem x hy)
    show max _ _ ≤ n
    omega
theorem sml_lay : ∀ {n : Nat} {d : PyData}, Sml n d → d.canLay0 = true ∧ d.depth ≤ n
  | 0, _, h => h.elim
  | n + 1, .list xs, h => by
    have z := fun x hx => sml_lay (h.2 x hx)
    exact ⟨by simpa [PyData.canLay0] using canAll fun x hx => (z x hx).1, Nat.succ_le_succ (depAll fun x hx => (z x hx).2)⟩
  | n + 1, .tuple xs, h => by
    have z := fun x hx => sml_lay (h.2 x hx)
    exact ⟨by simpa [PyData.canLay0] using canAll fun x hx => (z x hx).1, Nat.succ_le_succ (depAll fun x hx => (z x hx).2)⟩
  | n + 1, .dict _, h => h.elim
  | n + 1, .bool _, h => h.elim
  | n + 1, .none, _ => ⟨rfl, Nat.zero_le _⟩
  | n + 1, .int _, _ => ⟨rfl, Nat.zero_le _⟩
  | n + 1, .str x, h => ⟨by have h : PyData.strOk x = true := h; simpa [PyData.canLay0] using h, Nat.zero_le _⟩
theorem sml_shaped {n : Nat} {d : PyData} (h : Sml n d) (hn : n ≤ 64) : SeqAt.shaped d = true := by
  obtain ⟨a, b⟩ := sml_lay h
  unfold SeqAt.shaped
  rw [a, decide_eq_true (Nat.le_trans b hn)]
  rfl
theorem eqvAll_iff : ∀ {xs ys : List PyData}, (∀ x ∈ xs, ∀ y ∈ ys, PyData.eqv x y = true ↔ x = y) → (PyData.eqvAll xs ys = true ↔ xs = ys)
  | [], [], _ => by simp [PyData.eqvAll]
  | [], _ :: _, _ => by simp [PyData.eqvAll]
  | _ :: _, [], _ => by simp [PyData.eqvAll]
  | x :: xs, y :: ys, h => by
    rw [PyData.eqvAll, Bool.and_eq_true, h x List.mem_cons_self y List.mem_cons_self, eqvAll_iff fun a ha b hb => h a (List.mem_cons_of_mem _ ha) b (List.mem_cons_of_mem _ hb), List.cons.injEq]
theorem eqv_iff : ∀ {n : Nat} {d e : PyData}, Sml n d → Sml n e → (PyData.eqv d e = true ↔ d = e)
  | 0, _, _, h, _ => h.elim
  | n + 1, .list xs, e, h, g => by
    cases e with
    | list ys =>
      rw [PyData.eqv, eqvAll_iff fun x hx y hy => eqv_iff (h.2 x hx) (g.2 y hy)]
      simp
    | _ => simp [PyData.eqv]
  | n + 1, .tuple xs, e, h, g => by
    cases e with
    | tuple ys =>
      rw [PyData.eqv, eqvAll_iff fun x hx y hy => eqv_iff (h.2 x hx) (g.2 y hy)]
      simp
    | _ => simp [PyData.eqv]
  | n + 1, .dict _, _, h, _ => h.elim
  | n + 1, .bool _, _, h, _ => h.elim
  | n + 1, .none, e, _, _ => by cases e <;> simp [PyData.eqv]
  | n + 1, .int i, e, _, g => by
    cases e with
    | bool _ => exact g.elim
    | _ => simp [PyData.eqv]
  | n + 1, .str _, e, _, _ => by cases e <;> simp [PyData.eqv]
section
variable {K : PySem.W.Frag} {H H' : Hp}
theorem dp_sm {v : V} {d : PyData} (S : Same H H') : L2.Dp K H v d → L2.Dp K H' v d := fun h => by
  refine L2.Dp.rec (motive_1 := fun v d _ => L2.Dp K H' v d) (motive_2 := fun vs ds _ => DpAll K H' vs ds) .non .bl .int .str (fun h1 _ ih => .lst (S.seq h1) ih) (fun h1 _ ih => .tup (sqt_sm S h1) ih) .nil (fun _ _ i1 i2 => .cons i1 i2) h
theorem dpA_sm {vs : List V} {ds : List PyData} (S : Same H H') (h : DpAll K H vs ds) : DpAll K H' vs ds := by
  induction vs generalizing ds with
  | nil => cases h; exact .nil
  | cons v vs ih =>
    cases h with
    | cons h1 h2 => exact .cons (dp_sm S h1) (ih h2)
theorem dpA_len {vs : List V} {ds : List PyData} (h : DpAll K H vs ds) : vs.length = ds.length := by
  induction vs generalizing ds with
  | nil => cases h; rfl
  | cons v vs ih =>
    cases h with
    | cons h1 h2 => rw [List.length_cons, List.length_cons, ih h2]
theorem dpA_at {vs : List V} {ds : List PyData} (h : DpAll K H vs ds) {i : Nat} {v : V} (hv : vs[i]? = some v) : ∃ d, ds[i]? = some d ∧ L2.Dp K H v d := by
  induction vs generalizing ds i with
  | nil => cases hv
  | cons v vs ih =>
    cases h with
    | cons h1 h2 =>
      cases i with
      | zero => cases hv; exact ⟨_, rfl, h1⟩
      | succ i => exact ih h2 hv
theorem dpA_app {vs us : List V} {ds es : List PyData} (h : DpAll K H vs ds) (g : DpAll K H us es) : DpAll K H (vs ++ us) (ds ++ es) := by
  induction vs generalizing ds with
  | nil => cases h; exact g
  | cons v vs ih =>
    cases h with
    | cons h1 h2 => exact .cons h1 (ih h2)
theorem dpA_map {α : Type} {l : List α} {f : α → V} {g : α → PyData} (h : ∀ x ∈ l, L2.Dp K H (f x) (g x)) : DpAll K H (l.map f) (l.map g) := by
  induction l with
  | nil => exact .nil
  | cons a l ih => exact .cons (h a List.mem_cons_self) (ih fun x hx => h x (List.mem_cons_of_mem _ hx))
theorem dp_nats (l : List Nat) : DpAll K H (l.map vn) (l.map dN) := dpA_map fun _ _ => .int _
theorem dp_int {i : Int} : L2.Dp K H (.int i) (.int i) := .int i
theorem dp_ofall {vs : List V} {n : Nat} (g : Nat → PyData) (hl : vs.length = n) (h : ∀ (i : Nat) v, vs[i]? = some v → L2.Dp K H v (g i)) : DpAll K H vs ((List.range n).map g) := by
  induction vs generalizing n g with
  | nil => subst hl; exact .nil
  | cons v vs ih =>
    subst hl
    rw [List.length_cons, List.range_succ_eq_map, List.map_cons, List.map_map]
    exact .cons (h 0 v rfl) (ih (fun i => g (i + 1)) rfl fun i v hv => h (i + 1) v hv)
/-- the same data -/
theorem Sm.dp : ∀ {n : Nat} {d : PyData} {v u : V}, L2.Dp K H v d → L2.Dp K H u d → Sml n d → Sm K n H v u
  | 0, _, _, _, _, _, h => h.elim
  | n + 1, _, _, _, .non, .non, _ => .inl ⟨rfl, rfl⟩
  | n + 1, _, _, _, .int _, .int _, _ => .inl ⟨rfl, rfl⟩
  | n + 1, _, _, _, .str _, .str _, _ => .inl ⟨rfl, rfl⟩
  | n + 1, _, _, _, .bl _, .bl _, h => h.elim
  | n + 1, _, _, _, .lst h1 a1, .lst h2 a2, h => by
    have l1 := (dpA_len a1)
    have l2 := (dpA_len a2)
    refine .inr (.inl ⟨_, _, _, _, rfl, rfl, h1, h2, by omega, by have := h.1; omega, fun i x y hx hy => ?_⟩)
    obtain ⟨d, hd, r⟩ := dpA_at a1 hx
    obtain ⟨e, he, q⟩ := dpA_at a2 hy
    obtain rfl := Option.some.inj (hd.symm.trans he)
    exact Sm.dp r q (h.2 _ (List.mem_of_getElem? hd))
  | n + 1, _, _, _, .tup h1 a1, .tup h2 a2, h => by
    have l1 := (dpA_len a1)
    have l2 := (dpA_len a2)
    refine .inr (.inr ⟨_, _, _, _, rfl, rfl, h1, h2, by omega, by have := h.1; omega, fun i x y hx hy => ?_⟩)
    obtain ⟨d, hd, r⟩ := dpA_at a1 hx
    obtain ⟨e, he, q⟩ := dpA_at a2 hy
    obtain rfl := Option.some.inj (hd.symm.trans he)
    exact Sm.dp r q (h.2 _ (List.mem_of_getElem? hd))
namespace Rd
variable {Q : VK} {E : XK}
theorem h_eqd {n : Nat} {v u : V} {d : PyData} (h1 : L2.Dp K H v d) (h2 : L2.Dp K H u d) (hd : Sml n d) (k : ∀ H', Same H H' → Q (.bl true) H') : spEqOf (Sm K n) [v, u] H Q E := ⟨v, u, rfl, Sm.dp h1 h2 hd, k⟩
open Classical in
theorem eqd {v u : V} {d e : PyData} (h1 : L2.Dp K H v d) (h2 : L2.Dp K H u e) (hd : Sml 8 d) (he : Sml 8 e) (k : Q (.bl (decide (d = e))) H) : rEqD K v u H Q := by
  refine ⟨d, e, h1, h2, sml_shaped hd (by decide), sml_shaped he (by decide), ?_⟩
  have z : PyData.eqv d e = decide (d = e) := by
    by_cases c : d = e
    · rw [(eqv_iff hd he).mpr c, decide_eq_true c]
    · rw [decide_eq_false c]
      cases q : PyData.eqv d e with
      | false => rfl
      | true => exact absurd ((eqv_iff hd he).mp q) c
  rw [z]
  exact k
open Classical in
theorem ned {v u : V} {d e : PyData} (h1 : L2.Dp K H v d) (h2 : L2.Dp K H u e) (hd : Sml 8 d) (he : Sml 8 e) (k : Q (.bl (!decide (d = e))) H) : rNeD K v u H Q := by
  refine ⟨d, e, h1, h2, sml_shaped hd (by decide), sml_shaped he (by decide), ?_⟩
  have z : PyData.eqv d e = decide (d = e) := by
    by_cases c : d = e
    · rw [(eqv_iff hd he).mpr c, decide_eq_true c]
    · rw [decide_eq_false c]
      cases q : PyData.eqv d e with
      | false => rfl
      | true => exact absurd ((eqv_iff hd he).mp q) c
  rw [z]
  exact k
end Rd
end
end Tk

namespace Tk
open PySem PySem.Spec PyProof.Rows L2
def spTickD : Sp := fun vs H Q _ => ∃ (d : Addr) (cs : List V), vs = [.ref d] ∧ H d = some (.lst cs) ∧ DSt cs ∧ ∀ (t : Nat) H', Src d H H' → t ≤ 1000000000000000000 → Q (vn t) H'
section
variable {P : Program} {w : World} {K : PySem.W.Frag} {mg : Str → Option Value} {base : Heap}
end
end Tk

/-! ### Draws -/
namespace Tk
open PySem PySem.Spec PyProof.Rows L2 Mm
theorem But.gt {d b : Addr} {H H' : Hp} {cs xs : List V} (B : But d H H') (hd : H d = some (.lst cs)) (h : H b = some (.tup xs)) : H' b = some (.tup xs) := B _ _ (ne_of h hd (fun q => by cases q)) h
theorem But.gl {d b : Addr} {H H' : Hp} {xs : List V} (B : But d H H') (n : b ≠ d) (h : H b = some (.lst xs)) : H' b = some (.lst xs) := B _ _ n h
theorem HallAt.bt {C d h lp : Addr} {H H' : Hp} {m lt : Nat} {tk cl : List Nat} {cs : List V} (B : But d H H') (hd : H d = some (.lst cs)) (n : lp ≠ d) (p : HallAt C H h m tk cl lt lp) : HallAt C H' h m tk cl lt lp := p.but B hd n
theorem PartsAt.bt {d t tp cp : Addr} {H H' : Hp} {m lt : Nat} {tk cl : List Nat} {cs : List V} (B : But d H H') (hd : H d = some (.lst cs)) (p : PartsAt H t m tp tk cp cl lt) : PartsAt H' t m tp tk cp cl lt := p.but B hd
/-- a new address is not an old one -/
theorem ne_new {a d : Addr} {H : Hp} {o : HO} (n : H a = none) (e : H d = some o) : a ≠ d := fun q => by rw [q, e] at n; cases n
namespace Rd
variable {K : PySem.W.Frag} {H : Hp} {Q : VK} {E : XK} {d : Addr} {cs : List V}
theorem h_below {lim : Int} (hd : H d = some (.lst cs)) (hcs : DSt cs) (h0 : 0 < lim) (h1 : lim < 1073741824) (k : ∀ (r : Nat) H' cs', (r : Int) < lim → But d H H' → H' d = some (.lst cs') → DSt cs' → Q (vn r) H') : spBelow [.ref d, .int lim] H Q E :=
  ⟨d, lim, cs, rfl, h0, h1, hd, hcs, fun r cs' r0 r1 hc => by
    obtain ⟨n, rfl⟩ : ∃ n : Nat, r = (n : Int) := ⟨r.toNat, by omega⟩
    exact k n _ cs' r1 But.at_d upd_same hc⟩
theorem h_parts {most : Nat} (hd : H d = some (.lst cs)) (hcs : DSt cs) (h0 : 0 < most) (h1 : most ≤ 12) (k : ∀ (t tp cp : Addr) (m lt : Nat) (tk cl : List Nat) H' cs', H t = none → But d H H' → H' d = some (.lst cs') → DSt cs' → PartsAt H' t m tp tk cp cl lt → tk.length ≤ most → cl.length ≤ most → Q (.ref t) H') : spParts [.ref d, vn most] H Q E :=
  ⟨d, most, cs, rfl, h0, h1, hd, hcs, fun t tp cp m lt tk cl H' n S hP l1 l2 => by
    obtain ⟨cs', hd', hc'⟩ := S.at_
    exact k t tp cp m lt tk cl H' cs' n S.but hd' hc' hP l1 l2⟩
theorem h_partsL {most : Nat} (hd : H d = some (.lst cs)) (hcs : DSt cs) (h0 : 0 < most) (h1 : most ≤ 12) (k : ∀ (t tp cp : Addr) (m lt : Nat) (tk cl : List Nat) H' cs', H t = none → But d H H' → H' d = some (.lst cs') → DSt cs' → PartsAt H' t m tp tk cp cl lt → tk.length ≤ (OfNat.ofNat most : Nat) → cl.length ≤ (OfNat.ofNat most : Nat) → Q (.ref t) H') : spParts [.ref d, .int (OfNat.ofNat most : Int)] H Q E := h_parts (most := most) hd hcs h0 h1 k
theorem h_small (hd : H d = some (.lst cs)) (hcs : DSt cs) (k : ∀ (t tp cp : Addr) (m lt : Nat) (tk cl : List Nat) H' cs', H t = none → But d H H' → H' d = some (.lst cs') → DSt cs' → PartsAt H' t m tp tk cp cl lt → m ≤ 10 → tk.length ≤ 3 → cl.length ≤ 3 → lt ≤ 5 → Q (.ref t) H') : spSmall [.ref d] H Q E :=
  ⟨d, cs, rfl, hd, hcs, fun t tp cp m lt tk cl H' n S hP m1 l1 l2 l3 => by
    obtain ⟨cs', hd', hc'⟩ := S.at_
    exact k t tp cp m lt tk cl H' cs' n S.but hd' hc' hP m1 l1 l2 l3⟩
theorem h_tick (hd : H d = some (.lst cs)) (hcs : DSt cs) (k : ∀ (t : Nat) H' cs', t ≤ 1000000000000000000 → But d H H' → H' d = some (.lst cs') → DSt cs' → Q (vn t) H') : spTickD [.ref d] H Q E :=
  ⟨d, cs, rfl, hd, hcs, fun t H' S ht => by
    obtain ⟨cs', hd', hc'⟩ := S.at_
    exact k t H' cs' ht S.but hd' hc'⟩
end Rd
end Tk

/-! ### [e for x in a list of two] -/
namespace Tk
open PySem PySem.Spec PyProof.Rows L2
namespace Rd
variable {K : PySem.W.Frag} {σ : L2.St} {H : Hp} {Q : VK} {te : TE}
theorem lc_twoL {a : Addr} {x0 x1 : V} {i1 : Nat} {vs : List Nat} (R0 R1 : V → Hp → Prop) (ha : SqL K H a [x0, x1]) (hw1 : ∀ v : V, wipe ((wipe σ vs).set i1 (some v)) vs = wipe σ vs)
    (h0 : ∀ H' D, H D = none → Same H H' → (∃ zs, H' D = some (.lst zs)) → ∀ Q' : VK, (∀ y H'', Same H' H'' → (∀ Hx, But D H'' Hx → R0 y Hx) → Q' y H'') → te ((wipe σ vs).set i1 (some x0)) H' Q')
    (h1 : ∀ H' D, H D = none → Same H H' → (∃ zs, H' D = some (.lst zs)) → ∀ Q' : VK, (∀ y H'', Same H' H'' → (∀ Hx, But D H'' Hx → R1 y Hx) → Q' y H'') → te ((wipe σ vs).set i1 (some x1)) H' Q')
    (k : ∀ D y0 y1 H', H D = none → Same H H' → H' D = some (.lst [y0, y1]) → R0 y0 H' → R1 y1 H' → Q (.ref D) H') : lcK (gName i1) tYes te vs σ Q (Itl K a) H := fun D hD => by
  have stp : ∀ {Ha Hb : Hp}, Same Ha Hb → ∀ {Hx : Hp}, But D Hb Hx → But D Ha Hx := fun S _ b c o ne e => b c o ne (S _ _ e)
  have up : ∀ {Hb : Hp} {o : HO} {Hx : Hp}, But D (upd Hb D o) Hx → But D Hb Hx := fun b c o ne e => b c o ne (by rw [upd_ne ne]; exact e)
  have kp : ∀ {H3 : Hp} {o : HO}, Same H H3 → Same H (upd H3 D o) := fun S b u e => by
    rw [upd_ne (ne_of_none e hD)]
    exact S _ _ e
  refine lc_list (K := K) (a := a) (xs := [x0, x1]) (fun i H2 => Same H H2 ∧ ((i = 0 ∧ H2 D = some (.lst [])) ∨ (i = 1 ∧ ∃ y0, H2 D = some (.lst [y0]) ∧ ∀ Hx, But D H2 Hx → R0 y0 Hx) ∨ (i = 2 ∧ ∃ y0 y1, H2 D = some (.lst [y0, y1]) ∧ ∀ Hx, But D H2 Hx → R0 y0 Hx ∧ R1 y1 Hx)))
    ⟨Same.nw hD (Same.refl H), .inl ⟨rfl, upd_same⟩⟩ (fun i H2 _ ⟨S2, _⟩ => S2.seq ha) ?_ ?_
  · rintro i x H2 hx ⟨S2, c⟩
    rcases c with ⟨rfl, h2⟩ | ⟨rfl, y0, h2, r0⟩ | ⟨rfl, _⟩
    · obtain rfl : x0 = x := Option.some.inj hx
      exact ⟨hw1 _, yes (ift (h0 H2 D hD S2 ⟨_, h2⟩ _ fun y H3 S3 hy => ⟨[], S3 _ _ h2, by decide, kp (S2.trans S3), .inr (.inl ⟨rfl, y, upd_same, fun Hx b => hy Hx (up b)⟩)⟩))⟩
    · obtain rfl : x1 = x := Option.some.inj hx
      exact ⟨hw1 _, yes (ift (h1 H2 D hD S2 ⟨_, h2⟩ _ fun y H3 S3 hy => ⟨[y0], S3 _ _ h2, (by show 1 < sizeLine; decide), kp (S2.trans S3), .inr (.inr ⟨rfl, y0, y, upd_same, fun Hx b => ⟨r0 Hx (stp S3 (up b)), hy Hx (up b)⟩⟩)⟩))⟩
    · cases hx
  · rintro H2 ⟨S2, c⟩
    rcases c with ⟨q, _⟩ | ⟨q, _⟩ | ⟨_, y0, y1, h2, r⟩
    · cases q
    · cases q
    · obtain ⟨r0, r1⟩ := r H2 fun _ _ _ e => e
      exact k D y0 y1 H2 hD S2 h2 r0 r1
theorem lc_two {a : Addr} {x0 x1 : V} {i1 : Nat} {vs : List Nat} (R0 R1 : V → Hp → Prop) (ha : SqL K H a [x0, x1]) (hw1 : ∀ v : V, wipe ((wipe σ vs).set i1 (some v)) vs = wipe σ vs)
    (h0 : ∀ H' D, H D = none → Same H H' → H' D ≠ none → ∀ Q' : VK, (∀ y H'', Same H' H'' → (∀ Hx, But D H'' Hx → R0 y Hx) → Q' y H'') → te ((wipe σ vs).set i1 (some x0)) H' Q')
    (h1 : ∀ H' D, H D = none → Same H H' → H' D ≠ none → ∀ Q' : VK, (∀ y H'', Same H' H'' → (∀ Hx, But D H'' Hx → R1 y Hx) → Q' y H'') → te ((wipe σ vs).set i1 (some x1)) H' Q')
    (k : ∀ D y0 y1 H', H D = none → Same H H' → H' D = some (.lst [y0, y1]) → R0 y0 H' → R1 y1 H' → Q (.ref D) H') : lcK (gName i1) tYes te vs σ Q (Itl K a) H :=
  lc_twoL R0 R1 ha hw1 (fun H' D a b ⟨_, c⟩ => h0 H' D a b (by rw [c]; simp)) (fun H' D a b ⟨_, c⟩ => h1 H' D a b (by rw [c]; simp)) k
end Rd
end Tk

section
local macro_rules | `(tactic| walk_at "hp") => `(tactic| first
  | assumption
  | with_reducible exact L2.upd_same
  | ((with_reducible refine' Tk.Same.get ?k0 ?k1); (case k0 => assumption); (case k1 => walk_at "hp"))
  | fail "hp")
local macro_rules | `(tactic| walk_at "same") => `(tactic| first
  | assumption
  | exact L2.Same.refl _
  | ((with_reducible refine' Tk.Same.nw ?k0 ?k1); (case k0 => assumption); (case k1 => walk_at "same"))
  | ((with_reducible refine' Tk.Same.tr ?k0 ?k1); (case k0 => assumption); (case k1 => walk_at "same")))
local macro_rules | `(tactic| walk_at "sql") => `(tactic| first
  | assumption
  | ((with_reducible refine' L2.SqL.of ?k0); (case k0 => walk_at "hp"))
  | ((with_reducible refine' L2.Same.seq ?k0 ?k1); (case k0 => assumption); (case k1 => walk_at "sql")))
local macro_rules | `(tactic| walk_at "sqt") => `(tactic| first
  | assumption
  | ((with_reducible refine' L2.SqT.of ?k0); (case k0 => walk_at "hp"))
  | ((with_reducible refine' Tk.sqt_sm ?k0 ?k1); (case k0 => assumption); (case k1 => walk_at "sqt")))
local macro_rules | `(tactic| walk_at "sz") => `(tactic| first
  | (show (_ : Nat) ≤ 1000; decide)
  | (simp; done)
  | (simp; omega))
local macro_rules | `(tactic| walk_at "szb") => `(tactic| first
  | assumption
  | (show (_ : Nat) ≤ 100000; decide)
  | (simp; done)
  | (simp; omega))
local macro_rules | `(tactic| walk_at "dp") => `(tactic| first
  | assumption
  | with_reducible exact L2.Dp.non
  | with_reducible exact L2.Dp.int _
  | with_reducible exact L2.Dp.str _
  | with_reducible exact L2.Dp.bl _
  | ((with_reducible refine' L2.Dp.lst ?k0 ?k1); (case k0 => walk_at "sql"); (case k1 => walk_at "dpa"))
  | ((with_reducible refine' L2.Dp.tup ?k0 ?k1); (case k0 => walk_at "sqt"); (case k1 => walk_at "dpa"))
  | ((with_reducible refine' Tk.dp_sm ?k0 ?k1); (case k0 => assumption); (case k1 => walk_at "dp"))
  | fail "dp")
local macro_rules | `(tactic| walk_at "dpa") => `(tactic| first
  | assumption
  | with_reducible exact L2.DpAll.nil
  | ((with_reducible refine' L2.DpAll.cons ?k0 ?k1); (case k0 => walk_at "dp"); (case k1 => walk_at "dpa"))
  | with_reducible exact Tk.dp_nats _
  | ((with_reducible refine' Tk.dpA_sm ?k0 ?k1); (case k0 => assumption); (case k1 => walk_at "dpa"))
  | fail "dpa")
local macro_rules | `(tactic| walk_at "ci") => `(tactic| first
  | exact .inl ⟨by decide, by decide⟩
  | exact .inr ⟨by decide, by decide⟩
  | exact .inl ⟨by omega, by omega⟩
  | exact .inr ⟨by omega, by omega⟩
  | exact ⟨by decide, by decide⟩
  | exact ⟨by omega, by omega⟩
  | (show (0 : Int) < _; decide)
  | (show (0 : Int) < _; omega))
local macro_rules | `(tactic| walk_at "rd1") => `(tactic| first
  | with_reducible refine Tk.Rd.seq ?_
  | with_reducible refine Tk.Rd.star ?_
  | with_reducible refine Tk.Rd.int1_i ?_
  | with_reducible refine Tk.Rd.int1_b ?_
  | with_reducible refine Tk.Rd.tlc2 ?_
  | with_reducible refine Tk.Rd.lrg3 ?_
  | with_reducible refine Tk.Rd.lrg ?_
  | with_reducible refine Tk.Rd.rg1 ?_
  | with_reducible refine Tk.Rd.rg1K_i ?_
  | with_reducible refine Tk.Rd.rg2 ?_
  | with_reducible refine Tk.Rd.rg2K_i ?_
  | ((with_reducible refine' Tk.Rd.catL ?k0 ?k1 ?k2 fun p H' np S hp => ?_); (case k0 => walk_at "hp"); (case k1 => walk_at "hp"); (case k2 => walk_at "szb"))
  | ((with_reducible refine' Tk.Rd.starK_t ?k0 ?_); (case k0 => walk_at "sqt"))
  | ((with_reducible refine' Tk.Rd.starK_l ?k0 ?_); (case k0 => walk_at "sql"))
  | ((with_reducible refine' Tk.Rd.var ?k0 ?_); (case k0 => exact rfl))
  | with_reducible refine Tk.Rd.c ?_
  | with_reducible refine Tk.Rd.op ?_
  | with_reducible refine Tk.Rd.i0 ?_
  | with_reducible refine Tk.Rd.asg ?_
  | with_reducible refine Tk.Rd.name ?_
  | with_reducible refine Tk.Rd.cons ?_
  | with_reducible refine Tk.Rd.nil ?_
  | with_reducible refine Tk.Rd.call ?_
  | with_reducible refine Tk.Rd.callK_i ?_
  | with_reducible refine Tk.Rd.tst ?_
  | with_reducible refine Tk.Rd.bv ?_
  | with_reducible refine Tk.Rd.toB_i ?_
  | with_reducible refine Tk.Rd.ift ?_
  | with_reducible refine Tk.Rd.iff ?_
  | with_reducible refine Tk.Rd.ifnt ?_
  | with_reducible refine Tk.Rd.ifnf ?_
  | with_reducible refine Tk.Rd.not ?_
  | with_reducible refine Tk.Rd.and ?_
  | with_reducible refine Tk.Rd.or ?_
  | with_reducible refine Tk.Rd.andV ?_
  | with_reducible refine Tk.Rd.andK_i ?_
  | with_reducible refine Tk.Rd.orV ?_
  | with_reducible refine Tk.Rd.orK_i ?_
  | with_reducible refine Tk.Rd.notV ?_
  | with_reducible refine Tk.Rd.notK_i ?_
  | with_reducible refine Tk.Rd.tif ?_
  | with_reducible refine Tk.Rd.yes ?_
  | with_reducible refine Tk.Rd.tfor ?_
  | with_reducible refine Tk.Rd.tlc ?_
  | with_reducible refine Tk.Rd.rng ?_
  | ((with_reducible refine' Tk.Rd.rngK_n ?k0 ?_); (case k0 => first | decide | omega))
  | ((with_reducible refine' Tk.Rd.rngK_lit ?k0 ?_); (case k0 => decide))
  | with_reducible refine Tk.Rd.rng2 ?_
  | with_reducible refine Tk.Rd.rng3 ?_
  | with_reducible refine Tk.Rd.ilist ?_
  | with_reducible refine Tk.Rd.zip ?_
  | with_reducible refine Tk.Rd.itup ?_
  | ((with_reducible refine' Tk.Rd.listK_i ?k0 ?_); (case k0 => walk_at "sql"))
  | ((with_reducible refine' Tk.Rd.ituK_i ?k0 ?_); (case k0 => walk_at "sqt"))
  | with_reducible refine Tk.Rd.chain ?_
  | with_reducible refine Tk.Rd.chainL_i ?_
  | with_reducible refine Tk.Rd.un ?_
  | with_reducible refine Tk.Rd.u1 ?_
  | ((with_reducible refine' Tk.Rd.i1 ?k0 ?_); (case k0 => walk_at "ci"))
  | ((with_reducible refine' Tk.Rd.eq ?k0 ?_); (case k0 => exact rfl))
  | ((with_reducible refine' Tk.Rd.ne ?k0 ?_); (case k0 => exact rfl))
  | with_reducible refine Tk.Rd.isN ?_
  | with_reducible refine Tk.Rd.notN ?_
  | with_reducible refine Tk.Rd.fld ?_
  | with_reducible refine Tk.Rd.meth ?_
  | with_reducible refine Tk.Rd.prop ?_
  | with_reducible refine Tk.Rd.cb ?_
  | with_reducible refine Tk.Rd.bm ?_
  | with_reducible refine Tk.Rd.m0 ?_
  | with_reducible refine Tk.Rd.m0K_i ?_
  | with_reducible refine Tk.Rd.m1 ?_
  | with_reducible refine Tk.Rd.m1K_i ?_
  | with_reducible refine Tk.Rd.tup ?_
  | ((with_reducible refine' Tk.Rd.tupK_i ?k0 fun p H' np S hp => ?_); (case k0 => walk_at "sz"))
  | with_reducible refine Tk.Rd.lst ?_
  | ((with_reducible refine' Tk.Rd.lstK_i ?k0 fun p H' np S hp => ?_); (case k0 => walk_at "sz"))
  | ((with_reducible refine' Tk.Rd.ixF ?k0 ?k1 ?_); (case k0 => walk_at "hp"); (case k1 => omega))
  | ((with_reducible refine' Tk.Rd.ixF1 ?k0 ?k1 ?_); (case k0 => walk_at "hp"); (case k1 => omega))
  | ((with_reducible refine' Tk.Rd.ixT ?k0 ?k1 ?_); (case k0 => walk_at "sqt"); (case k1 => exact rfl))
  | ((with_reducible refine' Tk.Rd.ixL ?k0 ?k1 ?_); (case k0 => walk_at "sql"); (case k1 => exact rfl))
  | ((with_reducible refine' Tk.Rd.lenL ?k0 ?_); (case k0 => walk_at "sql"))
  | ((with_reducible refine' Tk.Rd.lenT ?k0 ?_); (case k0 => walk_at "sqt"))
  | ((with_reducible refine' Tk.Rd.lenS ?k0 ?_); (case k0 => first | assumption | omega | (simp; omega)))
  | ((with_reducible refine' Tk.Rd.slTr ?k0 fun p H' S hp => ?_); (case k0 => walk_at "hp"))
  | ((with_reducible refine' Tk.Rd.slT ?k0 fun p H' S hq => ?_); (case k0 => walk_at "sqt"))
  | ((with_reducible refine' Tk.Rd.catTr ?k0 ?k1 ?k2 fun p H' S hp => ?_); (case k0 => walk_at "hp"); (case k1 => walk_at "hp"); (case k2 => walk_at "sz"))
  | ((with_reducible refine' Tk.Rd.catA ?k0 ?k1 ?k2 ?k3 ?k4 fun p H' np S hp => ?_); (case k0 => walk_at "sqt"); (case k1 => walk_at "sqt"); (case k2 => simp); (case k3 => simp); (case k4 => first | (simp; done) | (simp; omega)))
  | with_reducible refine Tk.Rd.make ?_
  | ((with_reducible refine' Tk.Rd.tplL ?k0 fun q H' nq S hq => ?_); (case k0 => walk_at "sql"))
  | ((with_reducible refine' Tk.Rd.lstL ?k0 fun q H' nq S hq => ?_); (case k0 => walk_at "sql"))
  | ((with_reducible refine' Tk.Rd.lstT ?k0 fun q H' nq S hq => ?_); (case k0 => walk_at "sqt"))
  | ((with_reducible refine' Tk.Rd.join ?k0 ?k1 ?_); (case k0 => walk_at "sql"); (case k1 => first | assumption | omega))
  | with_reducible refine Tk.Rd.mx ?_
  | with_reducible refine Tk.Rd.mn ?_
  | with_reducible refine Tk.Rd.noPart ?_
  | with_reducible refine Tk.Rd.part ?_
  | with_reducible refine Tk.Rd.partK_i ?_
  | with_reducible refine Tk.Rd.slc ?_
  | ((with_reducible refine' Tk.Rd.gtup ?k0 ?k1 ?_); (case k0 => walk_at "sqt"); (case k1 => exact rfl))
  | ((with_reducible refine' Tk.Rd.glst ?k0 ?k1 ?_); (case k0 => walk_at "sql"); (case k1 => exact rfl))
  | with_reducible refine Tk.Rd.gcons ?_
  | with_reducible refine Tk.Rd.gnil ?_
  | with_reducible refine Tk.Rd.next ?_
  | with_reducible refine Tk.Rd.drop ?_
  | with_reducible refine Tk.Rd.ret ?_
  | with_reducible refine Tk.Rd.retN ?_
  | with_reducible refine Tk.Rd.par ?_
  | with_reducible refine Tk.Rd.parK_i ?_
  | with_reducible refine Tk.Rd.par3 ?_
  | with_reducible refine Tk.Rd.par3K_i ?_
  | ((with_reducible refine' Tk.Rd.aug ?k0 ?_); (case k0 => exact rfl))
  | with_reducible refine Tk.Rd.ip ?_
  | ((with_reducible refine' Tk.Rd.bmK_l ?k0 ?_); (case k0 => walk_at "sql"))
  | ((with_reducible refine' Tk.Rd.addS ?k0 ?_); (case k0 => walk_at "sz"))
  | fail "rd1")
local macro_rules | `(tactic| walk_at "rd1i") => `(tactic| first
  | walk_at "rd1"
  | with_reducible refine Tk.Rd.ifS ?_
  | fail "rd1i")
local macro_rules | `(tactic| walk_at "rd") => `(tactic| (repeat' walk_at "rd1i"))
local macro_rules | `(tactic| walk_at "rs") => `(tactic| ((repeat' walk_at "rd1"); (try dsimp only)))
local macro_rules | `(tactic| walk_at "hall") => `(tactic| first
  | assumption
  | ((with_reducible refine' Tk.HallAt.sm ?k0 ?k1); (case k0 => assumption); (case k1 => walk_at "hall"))
  | fail "hall")
local macro_rules | `(tactic| walk_at "parts") => `(tactic| first
  | assumption
  | ((with_reducible refine' Tk.PartsAt.sm ?k0 ?k1); (case k0 => assumption); (case k1 => walk_at "parts"))
  | fail "parts")
local macro_rules | `(tactic| walk_at "sm") => `(tactic| first
  | assumption
  | exact Tk.Sm.int rfl
  | exact Tk.Sm.flat1 rfl
  | ((with_reducible refine' Tk.Sm.sm ?k0 ?k1); (case k0 => assumption); (case k1 => walk_at "sm"))
  | fail "sm")
local macro_rules | `(tactic| walk_at "rd1") => `(tactic| first
  | ((with_reducible refine' Tk.Rd.f_modulus ?k0 ?k1 ?_); (case k0 => assumption); (case k1 => walk_at "hall"))
  | ((with_reducible refine' Tk.Rd.f_lateness ?k0 ?k1 ?_); (case k0 => assumption); (case k1 => walk_at "hall"))
  | ((with_reducible refine' Tk.Rd.f_takes ?k0 ?k1 fun tp htp => ?_); (case k0 => assumption); (case k1 => walk_at "hall"))
  | ((with_reducible refine' Tk.Rd.f_calls ?k0 ?k1 fun cp hcp => ?_); (case k0 => assumption); (case k1 => walk_at "hall"))
  | ((with_reducible refine' Tk.Rd.h_meth ?k0 ?k1 ?_); (case k0 => walk_at "hall"); (case k1 => decide +kernel))
  | ((with_reducible refine' Tk.Rd.h_prop ?k0 ?_); (case k0 => walk_at "hall"))
  | ((with_reducible refine' Tk.Rd.h_taken0 ?k0 fun H' S => ?_); (case k0 => walk_at "hall"))
  | ((with_reducible refine' Tk.Rd.h_taken1 ?k0 fun H' S => ?_); (case k0 => walk_at "hall"))
  | ((with_reducible refine' Tk.Rd.h_takenL ?k0 fun H' S => ?_); (case k0 => walk_at "hall"))
  | ((with_reducible refine' Tk.Rd.h_called0 ?k0 ?_); (case k0 => walk_at "hall"))
  | ((with_reducible refine' Tk.Rd.h_called1 ?k0 ?_); (case k0 => walk_at "hall"))
  | ((with_reducible refine' Tk.Rd.h_calledL ?k0 ?_); (case k0 => walk_at "hall"))
  | ((with_reducible refine' Tk.Rd.h_waiting ?k0 ?k1 fun H' S => ?_); (case k0 => walk_at "hall"); (case k1 => omega))
  | ((with_reducible refine' Tk.Rd.h_growth ?k0 fun H' S => ?_); (case k0 => walk_at "hall"))
  | ((with_reducible refine' Tk.Rd.h_period ?k0 ?_); (case k0 => walk_at "hall"))
  | ((with_reducible refine' Tk.Rd.h_lhall ?k0 fun h lp H' nh nl S hA => ?_); (case k0 => walk_at "parts"))
  | ((with_reducible refine' Tk.Rd.h_length ?k0 ?_); (case k0 => walk_at "parts"))
  | ((with_reducible refine' Tk.Rd.h_counts ?k0 ?k1 fun r a b H' nr na nb nab S hr ha hb => ?_); (case k0 => walk_at "parts"); (case k1 => omega))
  | ((with_reducible refine' Tk.Rd.h_countsL ?k0 ?k1 fun r a b H' nr na nb nab S hr ha hb => ?_); (case k0 => walk_at "parts"); (case k1 => decide))
  | ((with_reducible refine' Tk.Rd.h_make ?k0 ?k1 ?k2 fun h lp H' nh nl S hA => ?_); (case k0 => assumption); (case k1 => walk_at "hp"); (case k2 => walk_at "hp"))
  | ((with_reducible refine' Tk.Rd.p_0 ?k0 ?_); (case k0 => walk_at "parts"))
  | ((with_reducible refine' Tk.Rd.p_1 ?k0 fun htp => ?_); (case k0 => walk_at "parts"))
  | ((with_reducible refine' Tk.Rd.p_2 ?k0 fun hcp => ?_); (case k0 => walk_at "parts"))
  | ((with_reducible refine' Tk.Rd.p_3 ?k0 ?_); (case k0 => walk_at "parts"))
  | fail "rd1")
local macro_rules | `(tactic| walk_at "sqt") => `(tactic| first | ((with_reducible refine' Tk.PartsAt.sq ?k0); (case k0 => walk_at "parts")) | fail "sqt")
local macro_rules | `(tactic| walk_at "free") => `(tactic| first
  | assumption
  | ((with_reducible refine' Tk.Same.fr ?k0 ?k1); (case k0 => assumption); (case k1 => walk_at "free")))
local macro_rules | `(tactic| walk_at "hp") => `(tactic| first
  | ((with_reducible refine' Tk.But.gt ?k0 ?k1 ?k2); (case k0 => assumption); (case k1 => assumption); (case k2 => walk_at "hp"))
  | ((with_reducible refine' Tk.But.gl ?k0 ?k1 ?k2); (case k0 => assumption); (case k1 => assumption); (case k2 => walk_at "hp"))
  | fail "hp")
local macro_rules | `(tactic| walk_at "hall") => `(tactic| first | ((with_reducible refine' Tk.HallAt.bt ?k0 ?k1 ?k2 ?k3); (case k0 => assumption); (case k1 => assumption); (case k2 => assumption); (case k3 => walk_at "hall")) | fail "hall")
local macro_rules | `(tactic| walk_at "parts") => `(tactic| first | ((with_reducible refine' Tk.PartsAt.bt ?k0 ?k1 ?k2); (case k0 => assumption); (case k1 => assumption); (case k2 => walk_at "parts")) | fail "parts")
local macro_rules | `(tactic| walk_at "rd1") => `(tactic| first
  | ((with_reducible refine' Tk.Rd.h_below ?k0 ?k1 ?k2 ?k3 fun r H' cs hr B hd hcs => ?_); (case k0 => walk_at "hp"); (case k1 => assumption); (case k2 => first | decide | omega); (case k3 => first | decide | omega))
  | ((with_reducible refine' Tk.Rd.h_parts ?k0 ?k1 ?k2 ?k3 fun t tp cp m lt tk cl H' cs nt B hd hcs hP l1 l2 => ?_); (case k0 => walk_at "hp"); (case k1 => assumption); (case k2 => first | decide | omega); (case k3 => first | decide | omega))
  | ((with_reducible refine' Tk.Rd.h_partsL ?k0 ?k1 ?k2 ?k3 fun t tp cp m lt tk cl H' cs nt B hd hcs hP l1 l2 => ?_); (case k0 => walk_at "hp"); (case k1 => assumption); (case k2 => first | decide | omega); (case k3 => first | decide | omega))
  | ((with_reducible refine' Tk.Rd.h_small ?k0 ?k1 fun t tp cp m lt tk cl H' cs nt B hd hcs hP m1 l1 l2 l3 => ?_); (case k0 => walk_at "hp"); (case k1 => assumption))
  | ((with_reducible refine' Tk.Rd.h_tick ?k0 ?k1 fun t H' cs ht B hd hcs => ?_); (case k0 => walk_at "hp"); (case k1 => assumption))
  | ((with_reducible refine' Tk.Rd.h_mo ?k0 fun v H' S hv => ?_); (case k0 => walk_at "hall"))
  | ((with_reducible refine' Tk.Rd.h_lc ?k0 fun v H' S hv => ?_); (case k0 => walk_at "hall"))
  | ((with_reducible refine' Tk.Rd.h_lm ?k0 fun v H' S hv => ?_); (case k0 => walk_at "hall"))
  | ((with_reducible refine' Tk.Rd.h_gl ?k0 fun v H' S hv => ?_); (case k0 => walk_at "hall"))
  | ((with_reducible refine' Tk.Rd.h_ot ?k0 ?k1 fun r H' nr S hr => ?_); (case k0 => walk_at "hall"); (case k1 => first | assumption | omega))
  | ((with_reducible refine' Tk.Rd.h_most2 ?k0 fun v H' S hv => ?_); (case k0 => walk_at "parts"))
  | ((with_reducible refine' Tk.Rd.h_opens2L ?k0 ?k1 fun l ys H' nl S hl hlen hR => ?_); (case k0 => walk_at "parts"); (case k1 => decide))
  | ((with_reducible refine' Tk.Rd.h_opens2 ?k0 ?k1 fun l ys H' nl S hl hlen hR => ?_); (case k0 => walk_at "parts"); (case k1 => first | decide | omega))
  | fail "rd1")
local macro_rules | `(tactic| walk_at "ok") => `(tactic| first
  | assumption
  | ((with_reducible refine' Tk.HallAt.ok ?k0); (case k0 => walk_at "hall"))
  | ((with_reducible refine' Tk.PartsAt.ok ?k0); (case k0 => walk_at "parts"))
  | fail "ok")
local macro_rules | `(tactic| walk_at "sml") => `(tactic| first
  | exact Tk.Sml.ints (by walk_at "szb")
  | exact Tk.Sml.intsT (by walk_at "szb")
  | trivial
  | (simp [Tk.Sml]; done)
  | (simp [Tk.Sml]; omega)
  | fail "sml")
local macro_rules | `(tactic| walk_at "rd1") => `(tactic| first
  | ((with_reducible refine' Tk.Rd.nT ?k0 ?_); (case k0 => with_reducible exact rfl))
  | ((with_reducible refine' Tk.Rd.dT ?k0 ?_); (case k0 => with_reducible exact rfl))
  | with_reducible refine Tk.Rd.nF Tk.Rd.int_non ?_
  | with_reducible refine Tk.Rd.nF Tk.Rd.ref_non ?_
  | with_reducible refine Tk.Rd.dF Tk.Rd.int_non ?_
  | with_reducible refine Tk.Rd.dF Tk.Rd.ref_non ?_
  | ((with_reducible refine' Tk.Rd.h_disp ?k0 ?k1 ?_); (case k0 => first | assumption | omega); (case k1 => walk_at "hall"))
  | ((with_reducible refine' Tk.Rd.h_hold ?k0 ?k1 ?k2 ?k3 fun l H' nl S hl => ?_); (case k0 => walk_at "hall"); (case k1 => first | assumption | omega); (case k2 => first | assumption | omega); (case k3 => first | assumption | omega))
  | ((with_reducible refine' Tk.Rd.h_mis ?k0 ?k1 ?k2 fun l ys H' nl S hl hd => ?_); (case k0 => walk_at "hall"); (case k1 => first | assumption | omega); (case k2 => first | assumption | omega))
  | ((with_reducible refine' Tk.Rd.h_enc ?k0 fun l H' nl S hl => ?_); (case k0 => walk_at "hall"))
  | ((with_reducible refine' Tk.Rd.h_dec ?k0 ?k1 fun h lp H' nh nl S hA => ?_); (case k0 => walk_at "hp"); (case k1 => walk_at "ok"))
  | ((with_reducible refine' Tk.Rd.h_text ?k0 fun H' S => ?_); (case k0 => walk_at "hall"))
  | ((with_reducible refine' Tk.Rd.h_eqd ?k0 ?k1 ?k2 fun H' S => ?_); (case k0 => walk_at "dp"); (case k1 => walk_at "dp"); (case k2 => walk_at "sml"))
  | ((with_reducible refine' Tk.Rd.eqd ?k0 ?k1 ?k2 ?k3 ?_); (case k0 => walk_at "dp"); (case k1 => walk_at "dp"); (case k2 => walk_at "sml"); (case k3 => walk_at "sml"))
  | ((with_reducible refine' Tk.Rd.ned ?k0 ?k1 ?k2 ?k3 ?_); (case k0 => walk_at "dp"); (case k1 => walk_at "dp"); (case k2 => walk_at "sml"); (case k3 => walk_at "sml"))
  | fail "rd1")
/-! ### _law_distinct and _law_shown -/
namespace Tk
open PySem PySem.Spec PyProof.Rows L2 Mm LamX
def spDistinct : Sp := fun vs H Q _ => ∃ (t tp cp : Addr) (m lt : Nat) (tk cl : List Nat), vs = [.ref t] ∧ PartsAt H t m tp tk cp cl lt ∧ ∀ (r : Nat) H', Same H H' → 0 < r → r ≤ m → m ∣ r * gain tk cl → Q (vn (per tk cl + r * per tk cl)) H'
def spShown : Sp := fun vs H Q _ => ∃ (t tp cp : Addr) (m lt : Nat) (tk cl : List Nat) (n : Nat), vs = [.ref t, vn n] ∧ PartsAt H t m tp tk cp cl lt ∧ n ≤ 10000 ∧ ∀ r H', H r = none → Same H H' → H' r = some (.lst ((List.range n).map (dispV m tk cl))) → Q (.ref r) H'
/-- what many rounds at least are -/
theorem cyc_round {m r : Nat} {tk cl : List Nat} (hm : 0 < m) (hr : 0 < r) (h : m ∣ r * gain tk cl) : cyc m tk cl ≤ r * per tk cl := by
  unfold cyc
  generalize gain tk cl = g at *
  have g0 : 0 < Nat.gcd m g := Nat.gcd_pos_of_pos_left _ hm
  have d : m / Nat.gcd m g ∣ r := by
    have e1 := Nat.div_mul_cancel (Nat.gcd_dvd_left m g)
    have e2 := Nat.div_mul_cancel (Nat.gcd_dvd_right m g)
    have c : Nat.Coprime (m / Nat.gcd m g) (g / Nat.gcd m g) := Nat.coprime_div_gcd_div_gcd g0
    have h2 : (m / Nat.gcd m g) * Nat.gcd m g ∣ (r * (g / Nat.gcd m g)) * Nat.gcd m g := by
      rw [e1, Nat.mul_assoc, e2]
      exact h
    exact c.dvd_of_dvd_mul_right (Nat.dvd_of_mul_dvd_mul_right g0 h2)
  rw [Nat.mul_comm]
  exact Nat.mul_le_mul_right _ (Nat.le_of_dvd hr d)
section
variable {P : Program} {w : World} {K : PySem.W.Frag} {mg : Str → Option Value} {base : Heap}
theorem ok__law_shown (T : Txt K mg) : OkF P w K mg base 2 (He.ga K "_law_shown") ["_law_parts", "_law_ticks"] spShown := by
  have G__law_counts : OkF P w K mg base 1 (He.ga K "_law_counts") ["_law_parts", "_law_ticks"] spCounts := ok__law_counts T
  refine FnP.okF T.f__law_shown sc__law_shown (fun _ _ _ _ _ _ us hl => match us, hl with | [_, _], _ => rfl) (fun vs H Q E h => ?_) (fun cdv A outer s H vs Q E hr h => ?_)
  · obtain ⟨t, _, _, _, _, _, _, _, rfl, _⟩ := h
    rfl
  obtain ⟨t, tp, cp, m, lt, tk, cl, n, rfl, hP, hn, k⟩ := h
  have m2 := hP.ok.m2
  refine ⟨_, (pss_cons (ps_set (i := 2) sc__law_shown.nd rfl (Or.inr rfl) (pe_ix (ixTK (K := K)) (pe_call G__law_counts.one (hr.mono (by decide)) (by rfl) T.g__law_counts G__law_counts.kp G__law_counts.two .nil passL (pa_cons (pv 0) (pa_cons (pv 1) pa_nil))) pe_int (fun _ _ => rfl)))
    (pss_one (ps_ret (pe_lc (own := [("_law_tick", 3)]) (g := gName 3) (tt := tYes) (by rfl) sc__law_shown.nd (pi_range1 (by rfl) T.g_range (pa_cons (pv 1) pa_nil)) (blkOk_by (own := [("_law_tick", 3)]) (N := N__law_shown) (sc := (defScope s__law_shown)) (by decide +kernel)) (fun _ _ _ _ _ => pg_name (i := 3) sc__law_shown.nd rfl (Or.inl rfl)) (fun _ _ _ _ _ => pts_nil) (fun _ _ _ _ _ => (pe_ifExp (pt_cmpR op_gt (pe_ix (ixLK (K := K)) (pv 2) (pe_op op_add (pv 3) pe_int) (fun _ _ => rfl)) pe_int (nomark _)) (pe_op op_mod (pe_op op_sub (pe_ix (ixLK (K := K)) (pv 2) (pe_op op_add (pv 3) pe_int) (fun _ _ => rfl)) pe_int) (pe_ix (ixTK (K := K)) (pv 0) pe_int (fun _ _ => rfl))) pe_non)))))), ?_⟩
  walk_at "rd"
  rename_i r a b H1 nr na nb nab S hr' ha hb
  have hP1 := hP.same S
  refine Rd.lc_rng (fun i => dispV m tk cl i) (by omega) (fun i hi => Rd.turn1 rfl fun H2 S2 Q2 q2 => ?_) fun l H2 nl S2 hl => k l H2 (by cases e : H l with
    | none => rfl
    | some o => rw [S _ _ e] at nl; cases nl) (S.trans S2) hl
  have hb2 := S2 _ _ hb
  have hP2 := hP1.same S2
  walk_at "rd"
  refine Rd.d2 (fun e => ?_) (fun e => ?_)
  · walk_at "rd"
    have e2 : ((cal tk cl (i + 1) : Int) - 1) = ((cal tk cl (i + 1) - 1 : Nat) : Int) := by omega
    have e1 : dispV m tk cl i = vn ((cal tk cl (i + 1) - 1) % m) := if_neg (by omega)
    rw [e2, ← Int.natCast_emod, show V.int (((cal tk cl (i + 1) - 1) % m : Nat) : Int) = dispV m tk cl i from e1.symm]
    exact q2 _ (Same.refl _)
  · walk_at "rd"
    have e0 : cal tk cl (i + 1) = 0 := by omega
    have e1 : dispV m tk cl i = .non := if_pos e0
    rw [← e1]
    exact q2 _ (Same.refl _)
theorem ok__law_distinct (T : Txt K mg) : OkF P w K mg base 2 (He.ga K "_law_distinct") ["_law_parts"] spDistinct := by
  have G__law_length : OkF P w K mg base 1 (He.ga K "_law_length") ["_law_parts"] spLength := ok__law_length T
  have G__law_counts : OkF P w K mg base 1 (He.ga K "_law_counts") ["_law_parts", "_law_ticks"] spCounts := ok__law_counts T
  refine FnP.okF T.f__law_distinct sc__law_distinct (fun _ _ _ _ _ _ us hl => match us, hl with | [_], _ => rfl) (fun vs H Q E h => ?_) (fun cdv A outer s H vs Q E hr h => ?_)
  · obtain ⟨t, _, _, _, _, _, _, rfl, _⟩ := h
    rfl
  obtain ⟨t, tp, cp, m, lt, tk, cl, rfl, hP, k⟩ := h
  have m2 := hP.ok.m2
  refine ⟨_, (pss_cons (ps_set (i := 1) sc__law_distinct.nd rfl (Or.inl rfl) (pe_call G__law_length.one (hr.mono (by decide)) (by rfl) T.g__law_length G__law_length.kp G__law_length.two .nil passL (pa_cons (pv 0) pa_nil)))
    (pss_cons (ps_set (i := 2) sc__law_distinct.nd rfl (Or.inl rfl) (pe_ix (ixTK (K := K)) (pe_call G__law_counts.one (hr.mono (by decide)) (by rfl) T.g__law_counts G__law_counts.kp G__law_counts.two .nil passL (pa_cons (pv 0) (pa_cons (pe_op op_mul pe_int (pv 1)) pa_nil))) pe_int (fun _ _ => rfl)))
    (pss_cons (ps_par (i := 3) (j := 4) (by rfl) sc__law_distinct.nd rfl rfl (by decide) rfl rfl (pa_cons (pe_op op_sub (pe_ix (ixLK (K := K)) (pv 2) (pe_op op_mul pe_int (pv 1)) (fun _ _ => rfl)) (pe_ix (ixLK (K := K)) (pv 2) (pv 1) (fun _ _ => rfl))) (pa_cons pe_int pa_nil)) (by rfl))
    (pss_cons (ps_while own_cx (pt_cmpR op_gt (pe_op op_mod (pe_op op_mul (pv 4) (pv 3)) (pe_ix (ixTK (K := K)) (pv 0) pe_int (fun _ _ => rfl))) pe_int (nomark _))
      (pss_one (ps_set (i := 4) sc__law_distinct.nd rfl (Or.inl rfl) (pe_op op_add (pv 4) pe_int))))
    (pss_one (ps_ret (pe_op op_add (pv 1) (pe_op op_mul (pv 4) (pv 1))))))))), ?_⟩
  have p144 := per_144 hP.ok.tkP hP.ok.clP
  walk_at "rd"
  rw [show (2 : Int) * (per tk cl : Int) = ((2 * per tk cl : Nat) : Int) by omega]
  refine Rd.h_counts hP (by omega) fun r a b H1 nr na nb nab S hr' ha hb => ?_
  have hP1 := hP.same S
  walk_at "rd"
  rw [show (2 : Int) * (per tk cl : Int) = ((2 * per tk cl : Nat) : Int) by omega]
  refine Rd.ixF hb (Nat.le_refl _) ?_
  walk_at "rd"
  have mono : cal tk cl (per tk cl) ≤ cal tk cl (2 * per tk cl) := cal_mono (by omega)
  have p0 := per_pos hP.ok.tkP.pos hP.ok.clP.pos
  generalize hg : gain tk cl = g at k
  have g1 : cal tk cl (2 * per tk cl) = cal tk cl (per tk cl) + g := by unfold gain at hg; omega
  have g2 : ((cal tk cl (per tk cl) + g : Nat) : Int) - (cal tk cl (per tk cl) : Int) = (g : Int) := by omega
  rw [g1, g2]
  refine ⟨fun mm σ H2 => ∃ q : Nat, 0 < q ∧ q ≤ m ∧ (∀ j, 0 < j → j < q → ¬ m ∣ j * g) ∧ σ = [some (.ref t), some (vn (per tk cl)), some (.ref b), some (.int (g : Int)), some (.int (q : Int))] ∧ H2 = H1 ∧ mm = m - q, ⟨_, 1, by omega, by omega, fun j h1 h2 => by omega, rfl, rfl, rfl⟩, ?_⟩
  rintro mm σ H2 ⟨q, q0, qm, no, rfl, rfl, rfl⟩
  have mM : m ≤ 10000 := by
    obtain ⟨_, h, _⟩ := hP.ok
    exact h
  walk_at "rd"
  rw [show (q : Int) * (g : Int) % (m : Int) = ((q * g % m : Nat) : Int) by rw [Int.natCast_emod, Int.natCast_mul]]
  refine Rd.d2 (fun e => ?_) (fun e => ?_)
  · refine ⟨_, fun σ' H' z => z, ?_⟩
    have nd : ¬ m ∣ q * g := fun d => by
      have := Nat.mod_eq_zero_of_dvd d
      omega
    have qm2 : q ≠ m := fun e => nd (by rw [e]; exact Nat.dvd_mul_right _ _)
    walk_at "rd"
    refine ⟨m - (q + 1), by omega, q + 1, by omega, by omega, fun j j0 jq => ?_, ?_, rfl, rfl⟩
    · rcases Nat.lt_or_ge j q with z | z
      · exact no j j0 z
      · obtain rfl : j = q := by omega
        exact nd
    · rfl
  · walk_at "rd"
    have d : m ∣ q * g := Nat.dvd_of_mod_eq_zero (by omega)
    rw [show ((per tk cl : Nat) : Int) + (q : Int) * ((per tk cl : Nat) : Int) = ((per tk cl + q * per tk cl : Nat) : Int) by rw [Int.natCast_add, Int.natCast_mul]]
    exact k q _ S q0 qm d
end
end Tk

end

/-! ### k16: how far two displays must be compared -/
namespace Tk
open PySem PySem.Spec PyProof.Rows L2 Mm
theorem cap16 {P1 P2 c1 c2 r1 r2 : Nat} (p1 : 0 < P1) (p2 : 0 < P2) (q1 : 0 < r1) (q2 : 0 < r2) (h1 : c1 ≤ r1 * P1) (h2 : c2 ≤ r2 * P2) : 2 * max P1 P2 + Nat.lcm c1 c2 ≤ (P1 + r1 * P1) * (P2 + r2 * P2) + 9 := by
  have x1 : P1 ≤ r1 * P1 := Nat.le_mul_of_pos_left _ q1
  have x2 : P2 ≤ r2 * P2 := Nat.le_mul_of_pos_left _ q2
  have l : Nat.lcm c1 c2 ≤ c1 * c2 := Nat.div_le_self _ _
  generalize r1 * P1 = x at *
  generalize r2 * P2 = y at *
  have a := Nat.mul_le_mul h1 h2
  have b := Nat.mul_le_mul_left P1 x2
  have m1 : P1 ≤ P1 * P2 := Nat.le_mul_of_pos_right _ p2
  have m2 : P2 ≤ P1 * P2 := Nat.le_mul_of_pos_left _ p1
  rw [Nat.add_mul, Nat.mul_add, Nat.mul_add]
  have : max P1 P2 ≤ P1 * P2 := Nat.max_le.mpr ⟨m1, m2⟩
  omega
theorem diff_all {m m' : Nat} {tk cl tk' cl' : List Nat} (h1 : Pat tk) (h2 : Pat cl) (h3 : Pat tk') (h4 : Pat cl') (hm : 0 < m) (hm' : 0 < m') (h : ∀ i, i < 2 * max (per tk cl) (per tk' cl') + Nat.lcm (cyc m tk cl) (cyc m' tk' cl') → dispV m tk cl i = dispV m' tk' cl' i) : ∀ t, dispV m tk cl t = dispV m' tk' cl' t := fun t => by
  have y0 := cyc_pos h1 h2 hm
  have y1 := cyc_pos h3 h4 hm'
  have l0 : 0 < Nat.lcm (cyc m tk cl) (cyc m' tk' cl') := Nat.lcm_pos y0 y1
  rcases Nat.lt_or_ge t (2 * max (per tk cl) (per tk' cl')) with z | z
  · exact h t (by omega)
  · obtain ⟨n, k, a, b, rfl⟩ := red_p2 l0 z
    obtain ⟨u, hu⟩ := Nat.dvd_lcm_left (cyc m tk cl) (cyc m' tk' cl')
    obtain ⟨v, hv⟩ := Nat.dvd_lcm_right (cyc m tk cl) (cyc m' tk' cl')
    have e1 : dispV m tk cl (n + k * Nat.lcm (cyc m tk cl) (cyc m' tk' cl')) = dispV m tk cl n := by
      have := disp_cycle h1 h2 hm (t := n) (by omega) (k * u)
      rw [hu, show k * (cyc m tk cl * u) = k * u * cyc m tk cl by rw [Nat.mul_comm (cyc m tk cl) u, Nat.mul_assoc]]
      exact this
    have e2 : dispV m' tk' cl' (n + k * Nat.lcm (cyc m tk cl) (cyc m' tk' cl')) = dispV m' tk' cl' n := by
      have := disp_cycle h3 h4 hm' (t := n) (by omega) (k * v)
      rw [hv, show k * (cyc m' tk' cl' * v) = k * v * cyc m' tk' cl' by rw [Nat.mul_comm (cyc m' tk' cl') v, Nat.mul_assoc]]
      exact this
    rw [e1, e2]
    exact h n b
/-- multiples of one period: the cycles fit -/
theorem lcm_mult {m M : Nat} {tk cl tk' cl' : List Nat} {m' : Nat} (dv : per tk cl ∣ per tk' cl') (d1 : m ∣ M) (d2 : m' ∣ M) (hM : 0 < M) (p0 : 0 < per tk' cl') : Nat.lcm (cyc m tk cl) (cyc m' tk' cl') ≤ per tk' cl' * M := by
  have div : ∀ m g, m / Nat.gcd m g ∣ m := fun m g => Nat.div_dvd_of_dvd (Nat.gcd_dvd_left _ _)
  refine Nat.le_of_dvd (Nat.mul_pos p0 hM) (Nat.lcm_dvd ?_ ?_)
  · exact Nat.mul_dvd_mul dv (Nat.dvd_trans (div _ _) d1)
  · exact Nat.mul_dvd_mul (Nat.dvd_refl _) (Nat.dvd_trans (div _ _) d2)
end Tk

section
local macro_rules | `(tactic| walk_at "hp") => `(tactic| first
  | assumption
  | with_reducible exact L2.upd_same
  | ((with_reducible refine' Tk.Same.get ?k0 ?k1); (case k0 => assumption); (case k1 => walk_at "hp"))
  | fail "hp")
local macro_rules | `(tactic| walk_at "same") => `(tactic| first
  | assumption
  | exact L2.Same.refl _
  | ((with_reducible refine' Tk.Same.nw ?k0 ?k1); (case k0 => assumption); (case k1 => walk_at "same"))
  | ((with_reducible refine' Tk.Same.tr ?k0 ?k1); (case k0 => assumption); (case k1 => walk_at "same")))
local macro_rules | `(tactic| walk_at "sql") => `(tactic| first
  | assumption
  | ((with_reducible refine' L2.SqL.of ?k0); (case k0 => walk_at "hp"))
  | ((with_reducible refine' L2.Same.seq ?k0 ?k1); (case k0 => assumption); (case k1 => walk_at "sql")))
local macro_rules | `(tactic| walk_at "sqt") => `(tactic| first
  | assumption
  | ((with_reducible refine' L2.SqT.of ?k0); (case k0 => walk_at "hp"))
  | ((with_reducible refine' Tk.sqt_sm ?k0 ?k1); (case k0 => assumption); (case k1 => walk_at "sqt")))
local macro_rules | `(tactic| walk_at "sz") => `(tactic| first
  | (show (_ : Nat) ≤ 1000; decide)
  | (simp; done)
  | (simp; omega))
local macro_rules | `(tactic| walk_at "szb") => `(tactic| first
  | assumption
  | (show (_ : Nat) ≤ 100000; decide)
  | (simp; done)
  | (simp; omega))
local macro_rules | `(tactic| walk_at "dp") => `(tactic| first
  | assumption
  | with_reducible exact L2.Dp.non
  | with_reducible exact L2.Dp.int _
  | with_reducible exact L2.Dp.str _
  | with_reducible exact L2.Dp.bl _
  | ((with_reducible refine' L2.Dp.lst ?k0 ?k1); (case k0 => walk_at "sql"); (case k1 => walk_at "dpa"))
  | ((with_reducible refine' L2.Dp.tup ?k0 ?k1); (case k0 => walk_at "sqt"); (case k1 => walk_at "dpa"))
  | ((with_reducible refine' Tk.dp_sm ?k0 ?k1); (case k0 => assumption); (case k1 => walk_at "dp"))
  | fail "dp")
local macro_rules | `(tactic| walk_at "dpa") => `(tactic| first
  | assumption
  | with_reducible exact L2.DpAll.nil
  | ((with_reducible refine' L2.DpAll.cons ?k0 ?k1); (case k0 => walk_at "dp"); (case k1 => walk_at "dpa"))
  | with_reducible exact Tk.dp_nats _
  | ((with_reducible refine' Tk.dpA_sm ?k0 ?k1); (case k0 => assumption); (case k1 => walk_at "dpa"))
  | fail "dpa")
local macro_rules | `(tactic| walk_at "ci") => `(tactic| first
  | exact .inl ⟨by decide, by decide⟩
  | exact .inr ⟨by decide, by decide⟩
  | exact .inl ⟨by omega, by omega⟩
  | exact .inr ⟨by omega, by omega⟩
  | exact ⟨by decide, by decide⟩
  | exact ⟨by omega, by omega⟩
  | (show (0 : Int) < _; decide)
  | (show (0 : Int) < _; omega))
local macro_rules | `(tactic| walk_at "rd1") => `(tactic| first
  | with_reducible refine Tk.Rd.seq ?_
  | with_reducible refine Tk.Rd.star ?_
  | with_reducible refine Tk.Rd.int1_i ?_
  | with_reducible refine Tk.Rd.int1_b ?_
  | with_reducible refine Tk.Rd.tlc2 ?_
  | with_reducible refine Tk.Rd.lrg3 ?_
  | with_reducible refine Tk.Rd.lrg ?_
  | with_reducible refine Tk.Rd.rg1 ?_
  | with_reducible refine Tk.Rd.rg1K_i ?_
  | with_reducible refine Tk.Rd.rg2 ?_
  | with_reducible refine Tk.Rd.rg2K_i ?_
  | ((with_reducible refine' Tk.Rd.catL ?k0 ?k1 ?k2 fun p H' np S hp => ?_); (case k0 => walk_at "hp"); (case k1 => walk_at "hp"); (case k2 => walk_at "szb"))
  | ((with_reducible refine' Tk.Rd.starK_t ?k0 ?_); (case k0 => walk_at "sqt"))
  | ((with_reducible refine' Tk.Rd.starK_l ?k0 ?_); (case k0 => walk_at "sql"))
  | ((with_reducible refine' Tk.Rd.var ?k0 ?_); (case k0 => exact rfl))
  | with_reducible refine Tk.Rd.c ?_
  | with_reducible refine Tk.Rd.op ?_
  | with_reducible refine Tk.Rd.i0 ?_
  | with_reducible refine Tk.Rd.asg ?_
  | with_reducible refine Tk.Rd.name ?_
  | with_reducible refine Tk.Rd.cons ?_
  | with_reducible refine Tk.Rd.nil ?_
  | with_reducible refine Tk.Rd.call ?_
  | with_reducible refine Tk.Rd.callK_i ?_
  | with_reducible refine Tk.Rd.tst ?_
  | with_reducible refine Tk.Rd.bv ?_
  | with_reducible refine Tk.Rd.toB_i ?_
  | with_reducible refine Tk.Rd.ift ?_
  | with_reducible refine Tk.Rd.iff ?_
  | with_reducible refine Tk.Rd.ifnt ?_
  | with_reducible refine Tk.Rd.ifnf ?_
  | with_reducible refine Tk.Rd.not ?_
  | with_reducible refine Tk.Rd.and ?_
  | with_reducible refine Tk.Rd.or ?_
  | with_reducible refine Tk.Rd.andV ?_
  | with_reducible refine Tk.Rd.andK_i ?_
  | with_reducible refine Tk.Rd.orV ?_
  | with_reducible refine Tk.Rd.orK_i ?_
  | with_reducible refine Tk.Rd.notV ?_
  | with_reducible refine Tk.Rd.notK_i ?_
  | with_reducible refine Tk.Rd.tif ?_
  | with_reducible refine Tk.Rd.yes ?_
  | with_reducible refine Tk.Rd.tfor ?_
  | with_reducible refine Tk.Rd.tlc ?_
  | with_reducible refine Tk.Rd.rng ?_
  | ((with_reducible refine' Tk.Rd.rngK_n ?k0 ?_); (case k0 => first | decide | omega))
  | ((with_reducible refine' Tk.Rd.rngK_lit ?k0 ?_); (case k0 => decide))
  | with_reducible refine Tk.Rd.rng2 ?_
  | with_reducible refine Tk.Rd.rng3 ?_
  | with_reducible refine Tk.Rd.ilist ?_
  | with_reducible refine Tk.Rd.zip ?_
  | with_reducible refine Tk.Rd.itup ?_
  | ((with_reducible refine' Tk.Rd.listK_i ?k0 ?_); (case k0 => walk_at "sql"))
  | ((with_reducible refine' Tk.Rd.ituK_i ?k0 ?_); (case k0 => walk_at "sqt"))
  | with_reducible refine Tk.Rd.chain ?_
  | with_reducible refine Tk.Rd.chainL_i ?_
  | with_reducible refine Tk.Rd.un ?_
  | with_reducible refine Tk.Rd.u1 ?_
  | ((with_reducible refine' Tk.Rd.i1 ?k0 ?_); (case k0 => walk_at "ci"))
  | ((with_reducible refine' Tk.Rd.eq ?k0 ?_); (case k0 => exact rfl))
  | ((with_reducible refine' Tk.Rd.ne ?k0 ?_); (case k0 => exact rfl))
  | with_reducible refine Tk.Rd.isN ?_
  | with_reducible refine Tk.Rd.notN ?_
  | with_reducible refine Tk.Rd.fld ?_
  | with_reducible refine Tk.Rd.meth ?_
  | with_reducible refine Tk.Rd.prop ?_
  | with_reducible refine Tk.Rd.cb ?_
  | with_reducible refine Tk.Rd.bm ?_
  | with_reducible refine Tk.Rd.m0 ?_
  | with_reducible refine Tk.Rd.m0K_i ?_
  | with_reducible refine Tk.Rd.m1 ?_
  | with_reducible refine Tk.Rd.m1K_i ?_
  | with_reducible refine Tk.Rd.tup ?_
  | ((with_reducible refine' Tk.Rd.tupK_i ?k0 fun p H' np S hp => ?_); (case k0 => walk_at "sz"))
  | with_reducible refine Tk.Rd.lst ?_
  | ((with_reducible refine' Tk.Rd.lstK_i ?k0 fun p H' np S hp => ?_); (case k0 => walk_at "sz"))
  | ((with_reducible refine' Tk.Rd.ixF ?k0 ?k1 ?_); (case k0 => walk_at "hp"); (case k1 => omega))
  | ((with_reducible refine' Tk.Rd.ixF1 ?k0 ?k1 ?_); (case k0 => walk_at "hp"); (case k1 => omega))
  | ((with_reducible refine' Tk.Rd.ixT ?k0 ?k1 ?_); (case k0 => walk_at "sqt"); (case k1 => exact rfl))
  | ((with_reducible refine' Tk.Rd.ixL ?k0 ?k1 ?_); (case k0 => walk_at "sql"); (case k1 => exact rfl))
  | ((with_reducible refine' Tk.Rd.lenL ?k0 ?_); (case k0 => walk_at "sql"))
  | ((with_reducible refine' Tk.Rd.lenT ?k0 ?_); (case k0 => walk_at "sqt"))
  | ((with_reducible refine' Tk.Rd.lenS ?k0 ?_); (case k0 => first | assumption | omega | (simp; omega)))
  | ((with_reducible refine' Tk.Rd.slTr ?k0 fun p H' S hp => ?_); (case k0 => walk_at "hp"))
  | ((with_reducible refine' Tk.Rd.slT ?k0 fun p H' S hq => ?_); (case k0 => walk_at "sqt"))
  | ((with_reducible refine' Tk.Rd.catTr ?k0 ?k1 ?k2 fun p H' S hp => ?_); (case k0 => walk_at "hp"); (case k1 => walk_at "hp"); (case k2 => walk_at "sz"))
  | ((with_reducible refine' Tk.Rd.catA ?k0 ?k1 ?k2 ?k3 ?k4 fun p H' np S hp => ?_); (case k0 => walk_at "sqt"); (case k1 => walk_at "sqt"); (case k2 => simp); (case k3 => simp); (case k4 => first | (simp; done) | (simp; omega)))
  | with_reducible refine Tk.Rd.make ?_
  | ((with_reducible refine' Tk.Rd.tplL ?k0 fun q H' nq S hq => ?_); (case k0 => walk_at "sql"))
  | ((with_reducible refine' Tk.Rd.lstL ?k0 fun q H' nq S hq => ?_); (case k0 => walk_at "sql"))
  | ((with_reducible refine' Tk.Rd.lstT ?k0 fun q H' nq S hq => ?_); (case k0 => walk_at "sqt"))
  | ((with_reducible refine' Tk.Rd.join ?k0 ?k1 ?_); (case k0 => walk_at "sql"); (case k1 => first | assumption | omega))
  | with_reducible refine Tk.Rd.mx ?_
  | with_reducible refine Tk.Rd.mn ?_
  | with_reducible refine Tk.Rd.noPart ?_
  | with_reducible refine Tk.Rd.part ?_
  | with_reducible refine Tk.Rd.partK_i ?_
  | with_reducible refine Tk.Rd.slc ?_
  | ((with_reducible refine' Tk.Rd.gtup ?k0 ?k1 ?_); (case k0 => walk_at "sqt"); (case k1 => exact rfl))
  | ((with_reducible refine' Tk.Rd.glst ?k0 ?k1 ?_); (case k0 => walk_at "sql"); (case k1 => exact rfl))
  | with_reducible refine Tk.Rd.gcons ?_
  | with_reducible refine Tk.Rd.gnil ?_
  | with_reducible refine Tk.Rd.next ?_
  | with_reducible refine Tk.Rd.drop ?_
  | with_reducible refine Tk.Rd.ret ?_
  | with_reducible refine Tk.Rd.retN ?_
  | with_reducible refine Tk.Rd.par ?_
  | with_reducible refine Tk.Rd.parK_i ?_
  | with_reducible refine Tk.Rd.par3 ?_
  | with_reducible refine Tk.Rd.par3K_i ?_
  | ((with_reducible refine' Tk.Rd.aug ?k0 ?_); (case k0 => exact rfl))
  | with_reducible refine Tk.Rd.ip ?_
  | ((with_reducible refine' Tk.Rd.bmK_l ?k0 ?_); (case k0 => walk_at "sql"))
  | ((with_reducible refine' Tk.Rd.addS ?k0 ?_); (case k0 => walk_at "sz"))
  | fail "rd1")
local macro_rules | `(tactic| walk_at "rd1i") => `(tactic| first
  | walk_at "rd1"
  | with_reducible refine Tk.Rd.ifS ?_
  | fail "rd1i")
local macro_rules | `(tactic| walk_at "rd") => `(tactic| (repeat' walk_at "rd1i"))
local macro_rules | `(tactic| walk_at "rs") => `(tactic| ((repeat' walk_at "rd1"); (try dsimp only)))
local macro_rules | `(tactic| walk_at "hall") => `(tactic| first
  | assumption
  | ((with_reducible refine' Tk.HallAt.sm ?k0 ?k1); (case k0 => assumption); (case k1 => walk_at "hall"))
  | fail "hall")
local macro_rules | `(tactic| walk_at "parts") => `(tactic| first
  | assumption
  | ((with_reducible refine' Tk.PartsAt.sm ?k0 ?k1); (case k0 => assumption); (case k1 => walk_at "parts"))
  | fail "parts")
local macro_rules | `(tactic| walk_at "sm") => `(tactic| first
  | assumption
  | exact Tk.Sm.int rfl
  | exact Tk.Sm.flat1 rfl
  | ((with_reducible refine' Tk.Sm.sm ?k0 ?k1); (case k0 => assumption); (case k1 => walk_at "sm"))
  | fail "sm")
local macro_rules | `(tactic| walk_at "rd1") => `(tactic| first
  | ((with_reducible refine' Tk.Rd.f_modulus ?k0 ?k1 ?_); (case k0 => assumption); (case k1 => walk_at "hall"))
  | ((with_reducible refine' Tk.Rd.f_lateness ?k0 ?k1 ?_); (case k0 => assumption); (case k1 => walk_at "hall"))
  | ((with_reducible refine' Tk.Rd.f_takes ?k0 ?k1 fun tp htp => ?_); (case k0 => assumption); (case k1 => walk_at "hall"))
  | ((with_reducible refine' Tk.Rd.f_calls ?k0 ?k1 fun cp hcp => ?_); (case k0 => assumption); (case k1 => walk_at "hall"))
  | ((with_reducible refine' Tk.Rd.h_meth ?k0 ?k1 ?_); (case k0 => walk_at "hall"); (case k1 => decide +kernel))
  | ((with_reducible refine' Tk.Rd.h_prop ?k0 ?_); (case k0 => walk_at "hall"))
  | ((with_reducible refine' Tk.Rd.h_taken0 ?k0 fun H' S => ?_); (case k0 => walk_at "hall"))
  | ((with_reducible refine' Tk.Rd.h_taken1 ?k0 fun H' S => ?_); (case k0 => walk_at "hall"))
  | ((with_reducible refine' Tk.Rd.h_takenL ?k0 fun H' S => ?_); (case k0 => walk_at "hall"))
  | ((with_reducible refine' Tk.Rd.h_called0 ?k0 ?_); (case k0 => walk_at "hall"))
  | ((with_reducible refine' Tk.Rd.h_called1 ?k0 ?_); (case k0 => walk_at "hall"))
  | ((with_reducible refine' Tk.Rd.h_calledL ?k0 ?_); (case k0 => walk_at "hall"))
  | ((with_reducible refine' Tk.Rd.h_waiting ?k0 ?k1 fun H' S => ?_); (case k0 => walk_at "hall"); (case k1 => omega))
  | ((with_reducible refine' Tk.Rd.h_growth ?k0 fun H' S => ?_); (case k0 => walk_at "hall"))
  | ((with_reducible refine' Tk.Rd.h_period ?k0 ?_); (case k0 => walk_at "hall"))
  | ((with_reducible refine' Tk.Rd.h_lhall ?k0 fun h lp H' nh nl S hA => ?_); (case k0 => walk_at "parts"))
  | ((with_reducible refine' Tk.Rd.h_length ?k0 ?_); (case k0 => walk_at "parts"))
  | ((with_reducible refine' Tk.Rd.h_counts ?k0 ?k1 fun r a b H' nr na nb nab S hr ha hb => ?_); (case k0 => walk_at "parts"); (case k1 => omega))
  | ((with_reducible refine' Tk.Rd.h_countsL ?k0 ?k1 fun r a b H' nr na nb nab S hr ha hb => ?_); (case k0 => walk_at "parts"); (case k1 => decide))
  | ((with_reducible refine' Tk.Rd.h_make ?k0 ?k1 ?k2 fun h lp H' nh nl S hA => ?_); (case k0 => assumption); (case k1 => walk_at "hp"); (case k2 => walk_at "hp"))
  | ((with_reducible refine' Tk.Rd.p_0 ?k0 ?_); (case k0 => walk_at "parts"))
  | ((with_reducible refine' Tk.Rd.p_1 ?k0 fun htp => ?_); (case k0 => walk_at "parts"))
  | ((with_reducible refine' Tk.Rd.p_2 ?k0 fun hcp => ?_); (case k0 => walk_at "parts"))
  | ((with_reducible refine' Tk.Rd.p_3 ?k0 ?_); (case k0 => walk_at "parts"))
  | fail "rd1")
local macro_rules | `(tactic| walk_at "sqt") => `(tactic| first | ((with_reducible refine' Tk.PartsAt.sq ?k0); (case k0 => walk_at "parts")) | fail "sqt")
local macro_rules | `(tactic| walk_at "free") => `(tactic| first
  | assumption
  | ((with_reducible refine' Tk.Same.fr ?k0 ?k1); (case k0 => assumption); (case k1 => walk_at "free")))
local macro_rules | `(tactic| walk_at "hp") => `(tactic| first
  | ((with_reducible refine' Tk.But.gt ?k0 ?k1 ?k2); (case k0 => assumption); (case k1 => assumption); (case k2 => walk_at "hp"))
  | ((with_reducible refine' Tk.But.gl ?k0 ?k1 ?k2); (case k0 => assumption); (case k1 => assumption); (case k2 => walk_at "hp"))
  | fail "hp")
local macro_rules | `(tactic| walk_at "hall") => `(tactic| first | ((with_reducible refine' Tk.HallAt.bt ?k0 ?k1 ?k2 ?k3); (case k0 => assumption); (case k1 => assumption); (case k2 => assumption); (case k3 => walk_at "hall")) | fail "hall")
local macro_rules | `(tactic| walk_at "parts") => `(tactic| first | ((with_reducible refine' Tk.PartsAt.bt ?k0 ?k1 ?k2); (case k0 => assumption); (case k1 => assumption); (case k2 => walk_at "parts")) | fail "parts")
local macro_rules | `(tactic| walk_at "rd1") => `(tactic| first
  | ((with_reducible refine' Tk.Rd.h_below ?k0 ?k1 ?k2 ?k3 fun r H' cs hr B hd hcs => ?_); (case k0 => walk_at "hp"); (case k1 => assumption); (case k2 => first | decide | omega); (case k3 => first | decide | omega))
  | ((with_reducible refine' Tk.Rd.h_parts ?k0 ?k1 ?k2 ?k3 fun t tp cp m lt tk cl H' cs nt B hd hcs hP l1 l2 => ?_); (case k0 => walk_at "hp"); (case k1 => assumption); (case k2 => first | decide | omega); (case k3 => first | decide | omega))
  | ((with_reducible refine' Tk.Rd.h_partsL ?k0 ?k1 ?k2 ?k3 fun t tp cp m lt tk cl H' cs nt B hd hcs hP l1 l2 => ?_); (case k0 => walk_at "hp"); (case k1 => assumption); (case k2 => first | decide | omega); (case k3 => first | decide | omega))
  | ((with_reducible refine' Tk.Rd.h_small ?k0 ?k1 fun t tp cp m lt tk cl H' cs nt B hd hcs hP m1 l1 l2 l3 => ?_); (case k0 => walk_at "hp"); (case k1 => assumption))
  | ((with_reducible refine' Tk.Rd.h_tick ?k0 ?k1 fun t H' cs ht B hd hcs => ?_); (case k0 => walk_at "hp"); (case k1 => assumption))
  | ((with_reducible refine' Tk.Rd.h_mo ?k0 fun v H' S hv => ?_); (case k0 => walk_at "hall"))
  | ((with_reducible refine' Tk.Rd.h_lc ?k0 fun v H' S hv => ?_); (case k0 => walk_at "hall"))
  | ((with_reducible refine' Tk.Rd.h_lm ?k0 fun v H' S hv => ?_); (case k0 => walk_at "hall"))
  | ((with_reducible refine' Tk.Rd.h_gl ?k0 fun v H' S hv => ?_); (case k0 => walk_at "hall"))
  | ((with_reducible refine' Tk.Rd.h_ot ?k0 ?k1 fun r H' nr S hr => ?_); (case k0 => walk_at "hall"); (case k1 => first | assumption | omega))
  | ((with_reducible refine' Tk.Rd.h_most2 ?k0 fun v H' S hv => ?_); (case k0 => walk_at "parts"))
  | ((with_reducible refine' Tk.Rd.h_opens2L ?k0 ?k1 fun l ys H' nl S hl hlen hR => ?_); (case k0 => walk_at "parts"); (case k1 => decide))
  | ((with_reducible refine' Tk.Rd.h_opens2 ?k0 ?k1 fun l ys H' nl S hl hlen hR => ?_); (case k0 => walk_at "parts"); (case k1 => first | decide | omega))
  | fail "rd1")
local macro_rules | `(tactic| walk_at "ok") => `(tactic| first
  | assumption
  | ((with_reducible refine' Tk.HallAt.ok ?k0); (case k0 => walk_at "hall"))
  | ((with_reducible refine' Tk.PartsAt.ok ?k0); (case k0 => walk_at "parts"))
  | fail "ok")
local macro_rules | `(tactic| walk_at "sml") => `(tactic| first
  | exact Tk.Sml.ints (by walk_at "szb")
  | exact Tk.Sml.intsT (by walk_at "szb")
  | trivial
  | (simp [Tk.Sml]; done)
  | (simp [Tk.Sml]; omega)
  | fail "sml")
local macro_rules | `(tactic| walk_at "rd1") => `(tactic| first
  | ((with_reducible refine' Tk.Rd.nT ?k0 ?_); (case k0 => with_reducible exact rfl))
  | ((with_reducible refine' Tk.Rd.dT ?k0 ?_); (case k0 => with_reducible exact rfl))
  | with_reducible refine Tk.Rd.nF Tk.Rd.int_non ?_
  | with_reducible refine Tk.Rd.nF Tk.Rd.ref_non ?_
  | with_reducible refine Tk.Rd.dF Tk.Rd.int_non ?_
  | with_reducible refine Tk.Rd.dF Tk.Rd.ref_non ?_
  | ((with_reducible refine' Tk.Rd.h_disp ?k0 ?k1 ?_); (case k0 => first | assumption | omega); (case k1 => walk_at "hall"))
  | ((with_reducible refine' Tk.Rd.h_hold ?k0 ?k1 ?k2 ?k3 fun l H' nl S hl => ?_); (case k0 => walk_at "hall"); (case k1 => first | assumption | omega); (case k2 => first | assumption | omega); (case k3 => first | assumption | omega))
  | ((with_reducible refine' Tk.Rd.h_mis ?k0 ?k1 ?k2 fun l ys H' nl S hl hd => ?_); (case k0 => walk_at "hall"); (case k1 => first | assumption | omega); (case k2 => first | assumption | omega))
  | ((with_reducible refine' Tk.Rd.h_enc ?k0 fun l H' nl S hl => ?_); (case k0 => walk_at "hall"))
  | ((with_reducible refine' Tk.Rd.h_dec ?k0 ?k1 fun h lp H' nh nl S hA => ?_); (case k0 => walk_at "hp"); (case k1 => walk_at "ok"))
  | ((with_reducible refine' Tk.Rd.h_text ?k0 fun H' S => ?_); (case k0 => walk_at "hall"))
  | ((with_reducible refine' Tk.Rd.h_eqd ?k0 ?k1 ?k2 fun H' S => ?_); (case k0 => walk_at "dp"); (case k1 => walk_at "dp"); (case k2 => walk_at "sml"))
  | ((with_reducible refine' Tk.Rd.eqd ?k0 ?k1 ?k2 ?k3 ?_); (case k0 => walk_at "dp"); (case k1 => walk_at "dp"); (case k2 => walk_at "sml"); (case k3 => walk_at "sml"))
  | ((with_reducible refine' Tk.Rd.ned ?k0 ?k1 ?k2 ?k3 ?_); (case k0 => walk_at "dp"); (case k1 => walk_at "dp"); (case k2 => walk_at "sml"); (case k3 => walk_at "sml"))
  | fail "rd1")
namespace Tk
open PySem PySem.Spec PyProof.Rows L2 Mm LamX
theorem late0 {l : Nat} (h : l ≤ 99) : Parts 3 [1, 0, 2] [1, 2, 0] l := ⟨by decide, by decide, ⟨by decide, by decide, by decide⟩, ⟨by decide, by decide, by decide⟩, h⟩
theorem late1 : Parts 3 [1, 2, 0] [3, 0, 0] 0 := ⟨by decide, by decide, ⟨by decide, by decide, by decide⟩, ⟨by decide, by decide, by decide⟩, by decide⟩
theorem late_d {H : Hp} {v : V} (h : DiffV (dispV 3 [1, 0, 2] [1, 2, 0]) (dispV 3 [1, 2, 0] [3, 0, 0]) H v) : ∃ r, v = .ref r ∧ H r = some (.tup [.int 3, .int 1, .int 0]) := by
  cases h with
  | no h => exact absurd (h 3) (by decide)
  | at_ t r k0 kb hr =>
    obtain rfl : t = 3 := by
      rcases Nat.lt_trichotomy t 3 with z | z | z
      · have : t = 0 ∨ t = 1 ∨ t = 2 := by omega
        rcases this with rfl | rfl | rfl <;> exact absurd (by decide) k0
      · exact z
      · exact absurd (kb 3 z) (by decide)
    exact ⟨r, rfl, hr⟩
theorem late_e {H : Hp} {v : V} (h : DiffV (dispV 3 [1, 2, 0] [3, 0, 0]) (dispV 3 [1, 0, 2] [1, 2, 0]) H v) : ∃ r, v = .ref r ∧ H r = some (.tup [.int 3, .int 0, .int 1]) := by
  cases h with
  | no h => exact absurd (h 3) (by decide)
  | at_ t r k0 kb hr =>
    obtain rfl : t = 3 := by
      rcases Nat.lt_trichotomy t 3 with z | z | z
      · have : t = 0 ∨ t = 1 ∨ t = 2 := by omega
        rcases this with rfl | rfl | rfl <;> exact absurd (by decide) k0
      · exact z
      · exact absurd (kb 3 z) (by decide)
    exact ⟨r, rfl, hr⟩
theorem per_l0 : per [1, 0, 2] [1, 2, 0] = 3 := by decide
theorem per_l1 : per [1, 2, 0] [3, 0, 0] = 3 := by decide

theorem per_small {tk cl : List Nat} (h1 : Pat tk) (h2 : Pat cl) (l1 : tk.length ≤ 3) (l2 : cl.length ≤ 3) : per tk cl ≤ 6 := by
  have a := h1.pos
  have b := h2.pos
  unfold per
  generalize tk.length = x at *
  generalize cl.length = y at *
  have hx : x = 1 ∨ x = 2 ∨ x = 3 := by omega
  have hy : y = 1 ∨ y = 2 ∨ y = 3 := by omega
  rcases hx with rfl | rfl | rfl <;> rcases hy with rfl | rfl | rfl <;> decide
theorem cut_last (xs : List V) : cutV xs none (some (-1)) = xs.dropLast := by
  have e : HT.sIx xs.length xs.length (some (-1)) = xs.length - 1 := by
    unfold HT.sIx
    simp only
    rw [if_pos (by decide)]
    omega
  unfold cutV
  rw [e, HT.sIx_none, List.drop_zero, Nat.sub_zero, List.dropLast_eq_take]
def dDisp (m : Nat) (tk cl : List Nat) (t : Nat) : PyData := if cal tk cl (t + 1) = 0 then .none else dN ((cal tk cl (t + 1) - 1) % m)
theorem dp_disp {K : PySem.W.Frag} {H : Hp} {m t : Nat} {tk cl : List Nat} : L2.Dp K H (dispV m tk cl t) (dDisp m tk cl t) := by
  unfold dispV dDisp
  by_cases h : cal tk cl (t + 1) = 0
  · rw [if_pos h, if_pos h]
    exact .non
  · rw [if_neg h, if_neg h]
    exact .int _
theorem sml_disp {n m t : Nat} {tk cl : List Nat} : Sml (n + 1) (dDisp m tk cl t) := by
  unfold dDisp
  by_cases h : cal tk cl (t + 1) = 0
  · rw [if_pos h]
    trivial
  · rw [if_neg h]
    trivial
theorem sml_diff {n t : Nat} {d e : PyData} (hd : Sml (n + 1) d) (he : Sml (n + 1) e) : Sml (n + 2) (.tuple [dN t, d, e]) := ⟨by show 3 ≤ 100000; decide, fun y hy => by
  rcases List.mem_cons.mp hy with rfl | hy
  · trivial
  rcases List.mem_cons.mp hy with rfl | hy
  · exact hd
  · rw [List.mem_singleton.mp hy]
    exact he⟩
theorem least (p : Nat → Prop) : ∀ n, (∀ i, i < n → p i) ∨ ∃ u, u < n ∧ ¬ p u ∧ ∀ j, j < u → p j
  | 0 => .inl fun i h => by omega
  | n + 1 => by
    rcases least p n with h | ⟨u, l, a, b⟩
    · by_cases z : p n
      · exact .inl fun i hi => by
          rcases Nat.lt_or_ge i n with y | y
          · exact h i y
          · obtain rfl : i = n := by omega
            exact z
      · exact .inr ⟨n, by omega, z, h⟩
    · exact .inr ⟨u, by omega, a, b⟩
theorem nil_ne {u : Nat} {r : List Nat} : ¬ (PyData.list (List.map dN (u :: r)) = PyData.list []) := fun e => by
  injection e with e
  cases e
theorem filter_head2 {c : Nat → Bool} {t : Nat} (h0 : c t = true) (h1 : ∀ s, s < t → c s = true → False) : ∀ {n : Nat}, t < n → ∃ r, (List.range n).filter c = t :: r
  | 0, h => by omega
  | n + 1, h => by
    rw [List.range_succ, List.filter_append]
    rcases Nat.lt_or_ge t n with z | z
    · obtain ⟨r, e⟩ := filter_head2 h0 h1 z
      rw [e]
      exact ⟨_, rfl⟩
    · obtain rfl : t = n := by omega
      rw [List.filter_eq_nil_iff.mpr fun s hs hc => h1 s (List.mem_range.mp hs) hc]
      exact ⟨[], by simp [h0]⟩
/-- the second hall of a turn -/
structure R16 (m : Nat) (tk cl : List Nat) (m2 : Nat) (tk2 cl2 : List Nat) : Prop where
  m20 : m2 ≤ 20
  p12 : per tk2 cl2 ≤ 12
  fit : Nat.lcm (cyc m tk cl) (cyc m2 tk2 cl2) ≤ 3600
theorem R16.rand {m m2 : Nat} {tk cl tk2 cl2 : List Nat} (h1 : Pat tk) (h2 : Pat cl) (h3 : Pat tk2) (h4 : Pat cl2) (l1 : tk.length ≤ 3) (l2 : cl.length ≤ 3) (l3 : tk2.length ≤ 3) (l4 : cl2.length ≤ 3) (a : m ≤ 10) (b : m2 ≤ 10) : R16 m tk cl m2 tk2 cl2 := by
  have p := per_small h1 h2 l1 l2
  have q := per_small h3 h4 l3 l4
  refine ⟨by omega, by omega, Nat.le_trans (Nat.div_le_self _ _) ?_⟩
  have c1 : cyc m tk cl ≤ 60 := Nat.le_trans cyc_le (Nat.mul_le_mul p a)
  have c2 : cyc m2 tk2 cl2 ≤ 60 := Nat.le_trans cyc_le (Nat.mul_le_mul q b)
  exact Nat.mul_le_mul c1 c2
theorem R16.mult {m m2 : Nat} {tk cl tk2 cl2 : List Nat} (h3 : Pat tk2) (h4 : Pat cl2) (d : per tk cl ∣ per tk2 cl2) (e : m ∣ m2) (p : per tk2 cl2 ≤ 12) (b : m2 ≤ 20) (c : 0 < m2) : R16 m tk cl m2 tk2 cl2 := by
  refine ⟨b, p, Nat.le_trans (lcm_mult d e (Nat.dvd_refl _) c (per_pos h3.pos h4.pos)) ?_⟩
  exact Nat.le_trans (Nat.mul_le_mul p b) (by decide)
theorem per_twice {tk cl tk2 cl2 : List Nat} (h1 : Pat tk) (h2 : Pat cl) (l1 : tk.length ≤ 3) (l2 : cl.length ≤ 3) (e1 : tk2.length = tk.length ∨ tk2.length = 2 * tk.length) (e2 : cl2.length = 2 * cl.length) : per tk2 cl2 ≤ 12 ∧ per tk cl ∣ per tk2 cl2 := by
  have a := h1.pos
  have b := h2.pos
  unfold per
  rw [e2]
  have z : Nat.lcm tk.length cl.length ∣ Nat.lcm tk2.length (2 * cl.length) := Nat.lcm_dvd (Nat.dvd_trans (by
    rcases e1 with e | e <;> rw [e]
    · exact Nat.dvd_refl _
    · exact Nat.dvd_mul_left _ _) (Nat.dvd_lcm_left _ _)) (Nat.dvd_trans (Nat.dvd_mul_left _ _) (Nat.dvd_lcm_right _ _))
  refine ⟨?_, z⟩
  clear z
  generalize tk.length = x at *
  generalize cl.length = y at *
  generalize tk2.length = u at *
  have hx : x = 1 ∨ x = 2 ∨ x = 3 := by omega
  have hy : y = 1 ∨ y = 2 ∨ y = 3 := by omega
  rcases e1 with rfl | rfl <;> rcases hx with rfl | rfl | rfl <;> rcases hy with rfl | rfl | rfl <;> decide
theorem pat_flat {ps : List Nat} (h : Pat ps) {k : Nat} (hk : 0 < k) (hl : k * ps.length ≤ 12) : Pat (List.replicate k ps).flatten := ⟨by simp; exact Nat.mul_pos hk h.pos, by simp; exact hl, fun x hx => by
  obtain ⟨l, hl, hx⟩ := List.mem_flatten.mp hx
  rw [List.eq_of_mem_replicate hl] at hx
  exact h.nine x hx⟩
section
variable {P : Program} {w : World} {K : PySem.W.Frag} {mg : Str → Option Value} {base : Heap}
theorem ok_law (T : Txt K mg) {fd : FuncData} (F : FnP K "law" "law" s_law (He.ga K "law") fd) : FnOk P w K mg base CX0 8 (He.ga K "law") fd ["_law_script"] (spLaw K) := by
  have G__law_random : OkF P w K mg base 1 (He.ga K "_law_random") ["_law_script", "_law_salt"] (spRandom K) := ok__law_random T
  have G__law_below : OkF P w K mg base 1 (He.ga K "_law_below") ["_law_d", "_law_limit"] spBelow := ok__law_below T
  have G__law_small : OkF P w K mg base 3 (He.ga K "_law_small") ["_law_d"] spSmall := ok__law_small T
  have G__law_hall : OkF P w K mg base 7 (He.ga K "_law_hall") ["_law_parts"] (spLHall (He.ga K "Hall")) := ok__law_hall T
  have G__law_distinct : OkF P w K mg base 2 (He.ga K "_law_distinct") ["_law_parts"] spDistinct := ok__law_distinct T
  have G__law_shown : OkF P w K mg base 2 (He.ga K "_law_shown") ["_law_parts", "_law_ticks"] spShown := ok__law_shown T
  have G_init : OkF P w K mg base 5 (He.ma K (He.ga K "Hall") "__init__") ["self", "modulus", "takes", "calls", "lateness"] (spInit (He.ga K "Hall")) := ok_init T
  have G_first_error : OkF P w K mg base 5 (He.ga K "first_error") ["hall", "log"] (spErr (He.ga K "Hall")) := ok_first_error T
  have G_first_difference : OkF P w K mg base 5 (He.ga K "first_difference") ["hall", "other"] (spFd (He.ga K "Hall")) := ok_first_difference T
  have G__law_equal : OkF P w K mg base 5 (He.ga K "_law_equal") ["_law_actual", "_law_expected"] (spEqOf (Sm K 4)) := ok__law_equal T 4
  refine okLaw F sc_law (fun vs H Q E h => ?_) (fun cdv A outer s H vs Q E hr h => ?_)
  · obtain ⟨a, ns, rfl, _⟩ := h
    rfl
  obtain ⟨a, ns, rfl, hS, hlen, k⟩ := h
  refine ⟨_, (pss_cons (ps_set (i := 1) sc_law.nd rfl (Or.inl rfl) (pe_call G__law_random.one (hr.mono (by decide)) (by rfl) T.g__law_random G__law_random.kp G__law_random.two .nil passL (pa_cons (pv 0) (pa_cons pe_int pa_nil))))
    (pss_cons (ps_set (i := 2) sc_law.nd rfl (Or.inl rfl) (pe_lst (pa_cons (pe_make T.mk_Hall G_init.one (hr.mono (by decide)) (by rfl) T.g_Hall G_init.two .nil passL (pa_cons pe_int (pa_cons (pe_tup (pa_cons pe_int (pa_cons pe_int (pa_cons pe_int pa_nil)))) (pa_cons (pe_tup (pa_cons pe_int (pa_cons pe_int (pa_cons pe_int pa_nil)))) (pa_cons (pe_call G__law_below.one (hr.mono (by decide)) (by rfl) T.g__law_below G__law_below.kp G__law_below.two .nil passL (pa_cons (pv 1) (pa_cons pe_int pa_nil))) pa_nil))))) (pa_cons (pe_make T.mk_Hall G_init.one (hr.mono (by decide)) (by rfl) T.g_Hall G_init.two .nil passL (pa_cons pe_int (pa_cons (pe_tup (pa_cons pe_int (pa_cons pe_int (pa_cons pe_int pa_nil)))) (pa_cons (pe_tup (pa_cons pe_int (pa_cons pe_int (pa_cons pe_int pa_nil)))) (pa_cons pe_int pa_nil))))) pa_nil))))
    (pss_cons (ps_if (PW.pt (pw_or (pt_cmpR (neDK (K := K) hr.units) (pe_call G_first_difference.one (hr.mono (by decide)) (by rfl) T.g_first_difference G_first_difference.kp G_first_difference.two .nil passL (pa_cons (pe_ix (ixLK (K := K)) (pv 2) pe_int (fun _ _ => rfl)) (pa_cons (pe_ix (ixLK (K := K)) (pv 2) pe_int (fun _ _ => rfl)) pa_nil))) (pe_tup (pa_cons pe_int (pa_cons pe_int (pa_cons pe_int pa_nil)))) (nomark _)) (pw_or1 (pt_cmpR (neDK (K := K) hr.units) (pe_call G_first_difference.one (hr.mono (by decide)) (by rfl) T.g_first_difference G_first_difference.kp G_first_difference.two .nil passL (pa_cons (pe_ix (ixLK (K := K)) (pv 2) pe_int (fun _ _ => rfl)) (pa_cons (pe_ix (ixLK (K := K)) (pv 2) pe_int (fun _ _ => rfl)) pa_nil))) (pe_tup (pa_cons pe_int (pa_cons pe_int (pa_cons pe_int pa_nil)))) (nomark _))))) (pss_one (ps_ret pe_bl)) pss_nil)
    (pss_cons (ps_for PassesOwn.never rfl (pi_range1 (by rfl) T.g_range (pa_cons pe_int pa_nil)) (pg_name (i := 3) sc_law.nd rfl (Or.inl rfl))
      (pss_cons (ps_set (i := 4) sc_law.nd rfl (Or.inl rfl) (pe_call G__law_small.one (hr.mono (by decide)) (by rfl) T.g__law_small G__law_small.kp G__law_small.two .nil passL (pa_cons (pv 1) pa_nil)))
    (pss_cons (ps_set (i := 5) sc_law.nd rfl (Or.inl rfl) (pe_call G__law_small.one (hr.mono (by decide)) (by rfl) T.g__law_small G__law_small.kp G__law_small.two .nil passL (pa_cons (pv 1) pa_nil)))
    (Evl.pss_cut (ps_if (pt_cmpR op_eq (pe_call G__law_below.one (hr.mono (by decide)) (by rfl) T.g__law_below G__law_below.kp G__law_below.two .nil passL (pa_cons (pv 1) (pa_cons pe_int pa_nil))) pe_int (nomark _)) (pss_cons (ps_set (i := 6) sc_law.nd rfl (Or.inl rfl) (pe_call G__law_below.one (hr.mono (by decide)) (by rfl) T.g__law_below G__law_below.kp G__law_below.two .nil passL (pa_cons (pv 1) (pa_cons pe_int pa_nil))))
    (pss_cons (ps_set (i := 5) sc_law.nd rfl (Or.inl rfl) (pe_op (catAK (K := K)) (pe_slice (slAK (K := K)) (pv 4) po_none (po_some pe_int)) (pe_tup (pa_cons (pe_call G__law_below.one (hr.mono (by decide)) (by rfl) T.g__law_below G__law_below.kp G__law_below.two .nil passL (pa_cons (pv 1) (pa_cons pe_int pa_nil))) pa_nil))))
    (Evl.pss_cut (ps_if (pt_cmpR op_eq (pv 6) pe_int (nomark _)) (pss_one (ps_set (i := 5) sc_law.nd rfl (Or.inl rfl) (pe_tup (pa_cons (pe_ix (ixTK (K := K)) (pv 4) pe_int (fun _ _ => rfl)) (pa_cons (pe_op (repTK (K := K)) (pe_ix (ixTK (K := K)) (pv 4) pe_int (fun _ _ => rfl)) pe_int) (pa_cons (pe_op (repTK (K := K)) (pe_ix (ixTK (K := K)) (pv 4) pe_int (fun _ _ => rfl)) pe_int) (pa_cons (pe_ix (ixTK (K := K)) (pv 4) pe_int (fun _ _ => rfl)) pa_nil))))))) pss_nil)
    (Evl.pss_cut (ps_if (pt_cmpR op_eq (pv 6) pe_int (nomark _)) (pss_one (ps_set (i := 5) sc_law.nd rfl (Or.inl rfl) (pe_tup (pa_cons (pe_ix (ixTK (K := K)) (pv 4) pe_int (fun _ _ => rfl)) (pa_cons (pe_ix (ixTK (K := K)) (pv 4) pe_int (fun _ _ => rfl)) (pa_cons (pe_op (catAK (K := K)) (pe_op (catAK (K := K)) (pe_ix (ixTK (K := K)) (pv 4) pe_int (fun _ _ => rfl)) (pe_slice (slAK (K := K)) (pe_ix (ixTK (K := K)) (pv 4) pe_int (fun _ _ => rfl)) po_none (po_some (pe_un un_neg pe_int)))) (pe_tup (pa_cons (pe_call G__law_below.one (hr.mono (by decide)) (by rfl) T.g__law_below G__law_below.kp G__law_below.two .nil passL (pa_cons (pv 1) (pa_cons pe_int pa_nil))) pa_nil))) (pa_cons (pe_ix (ixTK (K := K)) (pv 4) pe_int (fun _ _ => rfl)) pa_nil))))))) pss_nil)
    (pss_one (ps_if (pt_cmpR op_eq (pv 6) pe_int (nomark _)) (pss_one (ps_set (i := 5) sc_law.nd rfl (Or.inl rfl) (pe_tup (pa_cons (pe_op op_mul (pe_ix (ixTK (K := K)) (pv 4) pe_int (fun _ _ => rfl)) (pe_op op_add pe_int (pe_call G__law_below.one (hr.mono (by decide)) (by rfl) T.g__law_below G__law_below.kp G__law_below.two .nil passL (pa_cons (pv 1) (pa_cons pe_int pa_nil))))) (pa_cons (pe_ix (ixTK (K := K)) (pv 4) pe_int (fun _ _ => rfl)) (pa_cons (pe_ix (ixTK (K := K)) (pv 4) pe_int (fun _ _ => rfl)) (pa_cons (pe_ix (ixTK (K := K)) (pv 4) pe_int (fun _ _ => rfl)) pa_nil))))))) pss_nil)))))) pss_nil)
    (pss_cons (ps_set (i := 7) sc_law.nd rfl (Or.inr rfl) (pe_lc (own := [("_law_parts", 15)]) (g := gName 15) (tt := tYes) (by rfl) sc_law.nd (pi_listK (K := K) (pe_lst (pa_cons (pv 4) (pa_cons (pv 5) pa_nil)))) (blkOk_by (own := [("_law_parts", 15)]) (N := N_law) (sc := (defScope s_law)) (by decide +kernel)) (fun _ _ _ _ _ => pg_name (i := 15) sc_law.nd rfl (Or.inl rfl)) (fun _ _ _ _ _ => pts_nil) (fun _ _ _ _ _ => (pe_call G__law_distinct.one (hr.mono (by decide)) (by rfl) T.g__law_distinct G__law_distinct.kp G__law_distinct.two .nil passL (pa_cons (pv 15) pa_nil)))))
    (pss_cons (ps_set (i := 8) sc_law.nd rfl (Or.inr rfl) (pe_lc (own := [("_law_parts", 15)]) (g := gName 15) (tt := tYes) (by rfl) sc_law.nd (pi_listK (K := K) (pe_lst (pa_cons (pv 4) (pa_cons (pv 5) pa_nil)))) (blkOk_by (own := [("_law_parts", 15)]) (N := N_law) (sc := (defScope s_law)) (by decide +kernel)) (fun _ _ _ _ _ => pg_name (i := 15) sc_law.nd rfl (Or.inl rfl)) (fun _ _ _ _ _ => pts_nil) (fun _ _ _ _ _ => (pe_call G__law_shown.one (hr.mono (by decide)) (by rfl) T.g__law_shown G__law_shown.kp G__law_shown.two .nil passL (pa_cons (pv 15) (pa_cons (pe_callB (show CallR _ (.builtin "min") Rd.rMin2 from call_min2 (by rfl)) (by rfl) T.g_min (by decide +kernel) (pa_cons pe_int (pa_cons (pe_op op_add (pe_op op_mul (pe_ix (ixLK (K := K)) (pv 7) pe_int (fun _ _ => rfl)) (pe_ix (ixLK (K := K)) (pv 7) pe_int (fun _ _ => rfl))) pe_int) pa_nil))) pa_nil))))))
    (pss_cons (ps_setLc (i := 9) (own := [("_law_tick", 16)]) (g := gName 16) (tt := _) (by rfl) sc_law.nd rfl rfl (sw_true rfl rfl rfl (by decide +kernel)) (pi_range1 (by rfl) T.g_range (pa_cons (pe_callB (lenK (K := K)) (by rfl) T.g_len (by decide +kernel) (pa_cons (pe_ix (ixLK (K := K)) (pv 8) pe_int (fun _ _ => rfl)) pa_nil)) pa_nil)) (blkOk_by (own := [("_law_tick", 16)]) (N := N_law) (sc := (defScope s_law)) (by decide +kernel)) (fun _ _ _ _ _ => pg_name (i := 16) sc_law.nd rfl (Or.inl rfl)) (fun _ _ _ _ _ => (pts_one (pt_cmpR op_ne (pe_ix (ixLK (K := K)) (pe_ix (ixLK (K := K)) (pv 8) pe_int (fun _ _ => rfl)) (pv 16) (fun _ _ => rfl)) (pe_ix (ixLK (K := K)) (pe_ix (ixLK (K := K)) (pv 8) pe_int (fun _ _ => rfl)) (pv 16) (fun _ _ => rfl)) (nomark _)))) (fun _ _ _ _ _ => (pv 16)))
    (pss_cons (ps_set (i := 10) sc_law.nd rfl (Or.inl rfl) pe_non)
    (Evl.pss_cut (ps_if (pt_cmpR (neDK (K := K) hr.units) (pv 9) (pe_lst pa_nil) (nomark _)) (pss_one (ps_set (i := 10) sc_law.nd rfl (Or.inl rfl) (pe_tup (pa_cons (pe_ix (ixLK (K := K)) (pv 9) pe_int (fun _ _ => rfl)) (pa_cons (pe_ix (ixLK (K := K)) (pe_ix (ixLK (K := K)) (pv 8) pe_int (fun _ _ => rfl)) (pe_ix (ixLK (K := K)) (pv 9) pe_int (fun _ _ => rfl)) (fun _ _ => rfl)) (pa_cons (pe_ix (ixLK (K := K)) (pe_ix (ixLK (K := K)) (pv 8) pe_int (fun _ _ => rfl)) (pe_ix (ixLK (K := K)) (pv 9) pe_int (fun _ _ => rfl)) (fun _ _ => rfl)) pa_nil)))))) pss_nil)
    (pss_cons (ps_setLc (i := 11) (own := [("_law_parts", 15)]) (g := gName 15) (tt := tYes) (by rfl) sc_law.nd rfl rfl (sw_true rfl rfl rfl (by decide +kernel)) (pi_listK (K := K) (pe_lst (pa_cons (pv 4) (pa_cons (pv 5) pa_nil)))) (blkOk_by (own := [("_law_parts", 15)]) (N := N_law) (sc := (defScope s_law)) (by decide +kernel)) (fun _ _ _ _ _ => pg_name (i := 15) sc_law.nd rfl (Or.inl rfl)) (fun _ _ _ _ _ => pts_nil) (fun _ _ _ _ _ => (pe_call G__law_hall.one (hr.mono (by decide)) (by rfl) T.g__law_hall G__law_hall.kp G__law_hall.two .nil passL (pa_cons (pv 15) pa_nil))))
    (pss_cons (ps_if (pt_not (pt_val (pe_call G__law_equal.one (hr.mono (by decide)) (by rfl) T.g__law_equal G__law_equal.kp G__law_equal.two .nil passL (pa_cons (pe_call G_first_difference.one (hr.mono (by decide)) (by rfl) T.g_first_difference G_first_difference.kp G_first_difference.two .nil passL (pa_cons (pe_ix (ixLK (K := K)) (pv 11) pe_int (fun _ _ => rfl)) (pa_cons (pe_ix (ixLK (K := K)) (pv 11) pe_int (fun _ _ => rfl)) pa_nil))) (pa_cons (pv 10) pa_nil))))) (pss_one (ps_ret pe_bl)) pss_nil)
    (pss_cons (ps_if (pt_cmpR op_ne (pe_cmpR (show OpR _ (compareOp .Is) Rd.rIsN from op_isN) (pe_call G_first_difference.one (hr.mono (by decide)) (by rfl) T.g_first_difference G_first_difference.kp G_first_difference.two .nil passL (pa_cons (pe_ix (ixLK (K := K)) (pv 11) pe_int (fun _ _ => rfl)) (pa_cons (pe_ix (ixLK (K := K)) (pv 11) pe_int (fun _ _ => rfl)) pa_nil))) pe_non (nomark _)) (pe_cmpR (show OpR _ (compareOp .Is) Rd.rIsN from op_isN) (pv 10) pe_non (nomark _)) (nomark _)) (pss_one (ps_ret pe_bl)) pss_nil)
    (pss_cons (ps_set (i := 12) sc_law.nd rfl (Or.inr rfl) (pe_slice (slLK (K := K)) (pe_ix (ixLK (K := K)) (pv 8) pe_int (fun _ _ => rfl)) po_none (po_some (pe_call G__law_below.one (hr.mono (by decide)) (by rfl) T.g__law_below G__law_below.kp G__law_below.two .nil passL (pa_cons (pv 1) (pa_cons pe_int pa_nil))))))
    (pss_cons (ps_setLc (i := 13) (own := [("_law_tick", 16)]) (g := gName 16) (tt := _) (by rfl) sc_law.nd rfl rfl (sw_true rfl rfl rfl (by decide +kernel)) (pi_range1 (by rfl) T.g_range (pa_cons (pe_callB (lenK (K := K)) (by rfl) T.g_len (by decide +kernel) (pa_cons (pv 12) pa_nil)) pa_nil)) (blkOk_by (own := [("_law_tick", 16)]) (N := N_law) (sc := (defScope s_law)) (by decide +kernel)) (fun _ _ _ _ _ => pg_name (i := 16) sc_law.nd rfl (Or.inl rfl)) (fun _ _ _ _ _ => (pts_one (pt_cmpR op_ne (pe_ix (ixLK (K := K)) (pv 12) (pv 16) (fun _ _ => rfl)) (pe_ix (ixLK (K := K)) (pe_ix (ixLK (K := K)) (pv 8) pe_int (fun _ _ => rfl)) (pv 16) (fun _ _ => rfl)) (nomark _)))) (fun _ _ _ _ _ => (pv 16)))
    (pss_cons (ps_set (i := 14) sc_law.nd rfl (Or.inl rfl) (pe_lst (pa_cons (pe_call G_first_error.one (hr.mono (by decide)) (by rfl) T.g_first_error G_first_error.kp G_first_error.two .nil passL (pa_cons (pe_ix (ixLK (K := K)) (pv 11) pe_int (fun _ _ => rfl)) (pa_cons (pv 12) pa_nil))) (pa_cons (pe_call G_first_error.one (hr.mono (by decide)) (by rfl) T.g_first_error G_first_error.kp G_first_error.two .nil passL (pa_cons (pe_ix (ixLK (K := K)) (pv 11) pe_int (fun _ _ => rfl)) (pa_cons (pv 12) pa_nil))) pa_nil))))
    (pss_one (ps_if (pt_not (pt_val (pe_call G__law_equal.one (hr.mono (by decide)) (by rfl) T.g__law_equal G__law_equal.kp G__law_equal.two .nil passL (pa_cons (pv 14) (pa_cons (pe_lst (pa_cons pe_non (pa_cons (pe_ifExp (pt_cmpR (neDK (K := K) hr.units) (pv 13) (pe_lst pa_nil) (nomark _)) (pe_ix (ixLK (K := K)) (pv 13) pe_int (fun _ _ => rfl)) pe_non) pa_nil))) pa_nil))))) (pss_one (ps_ret pe_bl)) pss_nil)))))))))))))))))
    (pss_one (ps_ret pe_bl)))))), ?_⟩
  refine ⟨_, rfl, a, ns, 16, rfl, hS, hlen, by decide, by decide, fun d cs H1 hd0 S1 hd hcs => ?_⟩
  clear hS S1 hd0
  walk_at "rs"
  rename_i p1 H2 n1 S1 hp1 p2 H3 n2 S2 hp2 l H4 cs4 hl B4 hd4 hcs4
  refine Rd.h_make (m := 3) (tk := [1, 0, 2]) (cl := [1, 2, 0]) (lt := l) (late0 (by omega)) (B4 _ _ (ne_new n1 hd) (S2 _ _ hp1)) (B4 _ _ (ne_new n2 (S1 _ _ hd)) hp2) fun h0 lp0 H5 nh0 nl0 S5 hA => ?_
  have hd5 := S5 _ _ hd4
  clear hd hcs n1 S1 hp1 n2 S2 hp2 B4
  walk_at "rs"
  rename_i p1 H6 n1 S6 hp1 p2 H7 n2 S7 hp2
  refine Rd.h_make (m := 3) (tk := [1, 2, 0]) (cl := [3, 0, 0]) (lt := 0) late1 (S7 _ _ hp1) hp2 fun h1 lp1 H8 nh1 nl1 S8 hB => ?_
  have hA8 := hA.same ((S6.trans S7).trans S8)
  have hd8 := S8 _ _ (S7 _ _ (S6 _ _ hd5))
  clear hA hd5 S6 S7 S8 hp1 hp2 n1 n2 nh0 nl0 nh1 nl1 S5 hd4
  walk_at "rs"
  refine Rd.ifF (P := fun H => Same H8 H) (fun Q' q' => ?_) fun H9 S9 => ?_
  · walk_at "rd"
    rename_i pl H9 nl S9 hpl
    refine Rd.h_fd (hA8.same S9) (hB.same S9) (by decide) (by decide) (by decide) fun v H10 S10 hv => ?_
    obtain ⟨r, rfl, hr⟩ := late_d hv
    have hpl10 := S10 _ _ hpl
    walk_at "rd"
    rename_i rt H11 n11 S11 hrt
    have S811 : Same H8 H11 := (S9.trans S10).trans S11
    refine Rd.h_fd (hB.same S811) (hA8.same S811) (by decide) (by decide) (by decide) fun v H12 S12 hv => ?_
    obtain ⟨r2, rfl, hr2⟩ := late_e hv
    have S812 : Same H8 H12 := S811.trans S12
    walk_at "rd"
    rename_i rt2 H13 n13 S13 hrt2
    simp only [decide_true, Bool.not_true]
    exact q' _ (S812.trans S13)
  have hd9 := S9 _ _ hd8
  clear hA8 hB hd8 S9
  walk_at "rs"
  refine Rd.for_rng (n := 3) (fun i σ H2 => ∃ us, us.length = 15 ∧ σ = some (.ref a) :: some (.ref d) :: us ∧ ∃ cs, H2 d = some (.lst cs) ∧ DSt cs)
    ⟨_, rfl, rfl, cs4, hd9, hcs4⟩ ?_ ?_
  · clear hd9 hcs4
    rintro i σ H2 hi ⟨us, hus, rfl, cs, hd, hcs⟩
    obtain ⟨v2, v3, v4, v5, v6, v7, v8, v9, v10, v11, v12, v13, v14, v15, v16, rfl⟩ : ∃ v2 v3 v4 v5 v6 v7 v8 v9 v10 v11 v12 v13 v14 v15 v16, us = [v2, v3, v4, v5, v6, v7, v8, v9, v10, v11, v12, v13, v14, v15, v16] := by
      match us, hus with
      | [_, _, _, _, _, _, _, _, _, _, _, _, _, _, _], _ => exact ⟨_, _, _, _, _, _, _, _, _, _, _, _, _, _, _, rfl⟩
    clear hus
    walk_at "rs"
    rename_i t tp cp m lt tk cl H3 cs3 nt B3 hd3 hc3 hP m10 l1 l2 l3 t2 tp2 cp2 m2 lt2 tk2 cl2 H4 cs4 nt2 B4 hd4 hc4 hP2 m20 l21 l22 l23
    have hP4 := hP.bt B4 hd3
    have h1 := hP.ok.tkP
    have h2 := hP.ok.clP
    have mm2 := hP.ok.m2
    have hl0 := h1.pos
    have hl1 := h2.pos
    have R0 : R16 m tk cl m2 tk2 cl2 := .rand h1 h2 hP2.ok.tkP hP2.ok.clP l1 l2 l21 l22 m10 m20
    clear hd hcs nt B3 hd3 hc3 nt2 B4 hP
    let Pr : L2.St → Hp → Prop := fun σ2 H => ∃ (v6 : Option V) (t2 tp2 cp2 : Addr) (m2 lt2 : Nat) (tk2 cl2 : List Nat) (cs : List V), σ2 = [some (.ref a), some (.ref d), v2, some (.int (i : Int)), some (.ref t), some (.ref t2), v6, v7, v8, v9, v10, v11, v12, v13, v14, v15, v16] ∧ PartsAt H t m tp tk cp cl lt ∧ PartsAt H t2 m2 tp2 tk2 cp2 cl2 lt2 ∧ R16 m tk cl m2 tk2 cl2 ∧ H d = some (.lst cs) ∧ DSt cs
    refine Rd.cut Pr ?_ ?_
    · refine Rd.ifS ?_
      walk_at "rs"
      rename_i r H5 cs5 hr B5 hd5 hc5
      have hP5 := hP4.bt B5 hd4
      have hP25 := hP2.bt B5 hd4
      refine Rd.e2 (fun e => ?_) (fun e => ?_)
      · clear hP2 hP4 hd4 hc4 B5 hP25 R0
        have tA := hP5.at_
        walk_at "rd"
        rename_i kd H6 cs6 hkd B6 hd6 hc6 p7 H7 S7 hp7 ll H8 cs8 hll B8 hd8 hc8 p9 H9 n9 S9 hp9
        rw [cut_preI _ (z := 3) (n := 3) rfl] at hp7
        refine Rd.catTr (S9 _ _ (B8 _ _ (ne_of hp7 (S7 _ _ hd6) (fun q => by cases q)) hp7)) hp9 (by simp) fun p10 H10 S10 hp10 => ?_
        have hP10 := ((((hP5.bt B6 hd5).same S7).bt B8 (S7 _ _ hd6)).same S9).same S10
        have hd10 := S10 _ _ (S9 _ _ hd8)
        have hQ10 : PartsAt H10 p10 m tp tk cp cl ll := ⟨hp10, hP10.tkA, hP10.clA, ⟨mm2, hP10.ok.m4, h1, h2, by omega⟩⟩
        have rel : R16 m tk cl m tk cl := .rand h1 h2 h1 h2 l1 l2 l1 l2 m10 m10
        clear hP5 hd5 hc5 hd6 hc6 B6 S7 hp7 B8 hd8 n9 S9 hp9 S10 hp10 tA
        walk_at "rs"
        let Pr2 : L2.St → Hp → Prop := fun σ2 H => ∃ (t2 tp2 cp2 : Addr) (m2 lt2 : Nat) (tk2 cl2 : List Nat) (cs : List V), σ2 = [some (.ref a), some (.ref d), v2, some (.int (i : Int)), some (.ref t), some (.ref t2), some (vn kd), v7, v8, v9, v10, v11, v12, v13, v14, v15, v16] ∧ PartsAt H t m tp tk cp cl lt ∧ PartsAt H t2 m2 tp2 tk2 cp2 cl2 lt2 ∧ R16 m tk cl m2 tk2 cl2 ∧ H d = some (.lst cs) ∧ DSt cs
        refine Rd.cut Pr2 ?_ ?_
        · refine Rd.ifS ?_
          walk_at "rs"
          refine Rd.e2 (fun e => ?_) (fun e => ?_)
          · walk_at "rd"
            refine Rd.repTr hP10.tkA (by intro e; have := congrArg List.length e; rw [List.length_map, List.length_nil] at this; omega) (by decide) (by decide) (by simp; omega) fun p11 H11 n11 S11 hp11 => ?_
            have hP11 := hP10.same S11
            walk_at "rd"
            refine Rd.repTr hP11.clA (by intro e; have := congrArg List.length e; rw [List.length_map, List.length_nil] at this; omega) (by decide) (by decide) (by simp; omega) fun p12 H12 n12 S12 hp12 => ?_
            have hP12 := hP11.same S12
            walk_at "rd"
            rename_i p13 H13 n13 S13 hp13
            rw [flat_map] at hp11 hp12
            have k1 := pat_flat h1 (k := 2) (by decide) (by omega)
            have k2 := pat_flat h2 (k := 2) (by decide) (by omega)
            obtain ⟨z1, z2⟩ := per_twice (tk2 := (List.replicate 2 tk).flatten) (cl2 := (List.replicate 2 cl).flatten) h1 h2 l1 l2 (.inr (by simp; omega)) (by simp; omega)
            exact ⟨p13, p11, p12, m, lt, _, _, cs8, rfl, hP12.same S13, ⟨hp13, S13 _ _ (S12 _ _ hp11), S13 _ _ hp12, ⟨mm2, hP10.ok.m4, k1, k2, hP10.ok.l99⟩⟩, .mult k1 k2 z2 (Nat.dvd_refl _) z1 (by omega) (by omega), S13 _ _ (S12 _ _ (S11 _ _ hd10)), hc8⟩
          · walk_at "rd"
            exact ⟨p10, tp, cp, m, ll, tk, cl, cs8, rfl, hP10, hQ10, rel, hd10, hc8⟩
        clear hP10 hQ10 hd10 hc8 rel
        rintro σ2 H11 ⟨t2, tp2, cp2, m2, lt2, tk2, cl2, cs9, rfl, hP11, hQ11, rel, hd11, hc9⟩
        refine Rd.cut Pr2 ?_ ?_
        · refine Rd.ifS ?_
          walk_at "rs"
          refine Rd.e2 (fun e => ?_) (fun e => ?_)
          · walk_at "rd"
            rename_i htp11 hcp11 hcp12 p12 H12 S12 hp12
            rw [cut_last] at hp12
            refine Rd.catTr (S12 _ _ hP11.clA) hp12 (by simp; omega) fun p13 H13 S13 hp13 => ?_
            have hd13 := S13 _ _ (S12 _ _ hd11)
            have hP13 := (hP11.same S12).same S13
            clear hP11 hQ11 rel
            walk_at "rd"
            rename_i r14 H14 cs14 hr14 B14 hd14 hc14 p15 H15 n15 S15 hp15 p16 H16 S16 hp16 p17 H17 n17 S17 hp17
            have hP16 := ((hP13.bt B14 hd13).same S15).same S16
            have hd16 := S16 _ _ (S15 _ _ hd14)
            have e16 : cl.map vn ++ (cl.map vn).dropLast ++ [vn r14] = (cl ++ cl.dropLast ++ [r14]).map vn := by
              rw [List.map_append, List.map_append, List.map_dropLast]
              rfl
            rw [e16] at hp16
            have len : (cl ++ cl.dropLast ++ [r14]).length = 2 * cl.length := by simp; omega
            have k2 : Pat (cl ++ cl.dropLast ++ [r14]) := ⟨by omega, by omega, fun x hx => by
              rcases List.mem_append.mp hx with hx | hx
              · rcases List.mem_append.mp hx with hx | hx
                · exact h2.nine x hx
                · exact h2.nine x (List.dropLast_subset _ hx)
              · rw [List.mem_singleton.mp hx]
                omega⟩
            obtain ⟨z1, z2⟩ := per_twice (tk2 := tk) (cl2 := cl ++ cl.dropLast ++ [r14]) h1 h2 l1 l2 (.inl rfl) len
            have hP17 := hP16.same S17
            exact ⟨p17, tp, p16, m, lt, tk, _, cs14, rfl, hP17, ⟨hp17, hP17.tkA, S17 _ _ hp16, ⟨mm2, hP17.ok.m4, h1, k2, hP17.ok.l99⟩⟩, .mult h1 k2 z2 (Nat.dvd_refl _) z1 (by omega) (by omega), S17 _ _ hd16, hc14⟩
          · walk_at "rd"
            exact ⟨t2, tp2, cp2, m2, lt2, tk2, cl2, cs9, rfl, hP11, hQ11, rel, hd11, hc9⟩
        clear hP11 hQ11 hd11 hc9 rel
        rintro σ2 H11 ⟨t2, tp2, cp2, m2, lt2, tk2, cl2, cs9, rfl, hP11, hQ11, rel, hd11, hc9⟩
        refine Rd.ifS ?_
        walk_at "rs"
        refine Rd.e2 (fun e => ?_) (fun e => ?_)
        · walk_at "rd"
          rename_i r12 H12 cs12 hr12 B12 hd12 hc12 htp12 hcp12 p13 H13 n13 S13 hp13
          have hP13 := (hP11.bt B12 hd11).same S13
          have e13 : V.int ((m : Int) * (1 + (r12 : Int))) = vn (m * (1 + r12)) := vn_int (by rw [Int.natCast_mul, Int.natCast_add]; rfl)
          rw [e13] at hp13
          have le : m * (1 + r12) ≤ 20 := Nat.mul_le_mul m10 (show 1 + r12 ≤ 2 by omega)
          have ge : 2 ≤ m * (1 + r12) := Nat.le_trans mm2 (Nat.le_mul_of_pos_right _ (by omega))
          have p6 := per_small h1 h2 l1 l2
          exact ⟨_, p13, tp, cp, m * (1 + r12), lt, tk, cl, cs12, rfl, hP13, ⟨hp13, hP13.tkA, hP13.clA, ⟨ge, by omega, h1, h2, hP13.ok.l99⟩⟩, .mult h1 h2 (Nat.dvd_refl _) (Nat.dvd_mul_right _ _) (by omega) le (by omega), S13 _ _ hd12, hc12⟩
        · walk_at "rd"
          exact ⟨_, t2, tp2, cp2, m2, lt2, tk2, cl2, cs9, rfl, hP11, hQ11, rel, hd11, hc9⟩
      · walk_at "rd"
        exact ⟨_, t2, tp2, cp2, m2, lt2, tk2, cl2, cs5, rfl, hP5, hP25, R0, hd5, hc5⟩
    rintro σ2 H5 ⟨v6', t2, tp2, cp2, m2, lt2, tk2, cl2, cs, rfl, hP5, hQ5, rel, hd5, hc5⟩
    clear hP4 hP2 hd4 hc4 R0 Pr m20 l21 l22 l23
    walk_at "rs"
    rename_i pl H6 n6 S6 hpl
    refine Rd.lc_two (K := K) (fun y _ => ∃ r, y = vn (per tk cl + r * per tk cl) ∧ 0 < r ∧ r ≤ m ∧ m ∣ r * gain tk cl) (fun y _ => ∃ r, y = vn (per tk2 cl2 + r * per tk2 cl2) ∧ 0 < r ∧ r ≤ m2 ∧ m2 ∣ r * gain tk2 cl2) (SqL.of hpl) (fun _ => rfl)
      (fun H' D hD S nD Q' q' => ?_) (fun H' D hD S nD Q' q' => ?_) ?_
    · walk_at "rd"
      exact ⟨t, tp, cp, m, lt, tk, cl, rfl, hP5.same (S6.trans S), fun r H2 S0 r0 rm hd => q' _ _ S0 fun Hx _ => ⟨r, rfl, r0, rm, hd⟩⟩
    · walk_at "rd"
      exact ⟨t2, tp2, cp2, m2, lt2, tk2, cl2, rfl, hQ5.same (S6.trans S), fun r H2 S0 r0 rm hd => q' _ _ S0 fun Hx _ => ⟨r, rfl, r0, rm, hd⟩⟩
    rintro D _ _ H7 nD S7 hD ⟨r1, rfl, r10, r1m, r1d⟩ ⟨r2, rfl, r20, r2m, r2d⟩
    have hP7 := hP5.same (S6.trans S7)
    have hQ7 := hQ5.same (S6.trans S7)
    have hd7 := S7 _ _ (S6 _ _ hd5)
    clear hP5 hQ5 hd5 n6 S6 hpl nD S7
    have h3 := hQ7.ok.tkP
    have h4 := hQ7.ok.clP
    have m22 := hQ7.ok.m2
    have b1 : r1 * per tk cl ≤ 60 := Nat.le_trans (Nat.mul_le_mul (Nat.le_trans r1m m10) (per_small h1 h2 l1 l2)) (by decide)
    have b2 : r2 * per tk2 cl2 ≤ 240 := Nat.le_trans (Nat.mul_le_mul (Nat.le_trans r2m rel.m20) rel.p12) (by decide)
    have c1 := cyc_round (m := m) (tk := tk) (cl := cl) (by omega) r10 r1d
    have c2 := cyc_round (m := m2) (tk := tk2) (cl := cl2) (by omega) r20 r2d
    have cap := cap16 (per_pos h1.pos h2.pos) (per_pos h3.pos h4.pos) r10 r20 c1 c2
    have p6 := per_small h1 h2 l1 l2
    have p12 := rel.p12
    have fit := rel.fit
    have cy1 : cyc m tk cl ≤ 60 := Nat.le_trans cyc_le (Nat.mul_le_mul p6 m10)
    have cy2 : cyc m2 tk2 cl2 ≤ 240 := Nat.le_trans cyc_le (Nat.mul_le_mul p12 rel.m20)
    obtain ⟨n, hn, n6, n2⟩ : ∃ n, n = min 6000 ((per tk cl + r1 * per tk cl) * (per tk2 cl2 + r2 * per tk2 cl2) + 9) ∧ n ≤ 6000 ∧ 2 * max (per tk cl) (per tk2 cl2) + Nat.lcm (cyc m tk cl) (cyc m2 tk2 cl2) ≤ n := ⟨_, rfl, by omega, by omega⟩
    have n5 : 5 ≤ n := by
      have := per_pos h1.pos h2.pos
      have := Nat.lcm_pos (cyc_pos h1 h2 (m := m) (by omega)) (cyc_pos h3 h4 (m := m2) (by omega))
      omega
    walk_at "rs"
    rename_i pl H8 n8 S8 hpl
    have hP8 := hP7.same S8
    have hQ8 := hQ7.same S8
    have hd8 := S8 _ _ hd7
    have hD8 := S8 _ _ hD
    clear hP7 hQ7 hd7 n8 S8 hD
    have e6 : min (6000 : Int) (((per tk cl + r1 * per tk cl : Nat) : Int) * ((per tk2 cl2 + r2 * per tk2 cl2 : Nat) : Int) + 9) = (n : Int) := by
      rw [hn, ← Int.natCast_mul]
      omega
    refine Rd.lc_two (K := K) (fun y H => ∃ l, y = .ref l ∧ H l = some (.lst ((List.range n).map (dispV m tk cl))) ∧ l ≠ d) (fun y H => ∃ l, y = .ref l ∧ H l = some (.lst ((List.range n).map (dispV m2 tk2 cl2))) ∧ l ≠ d) (SqL.of hpl) (fun _ => rfl)
      (fun H' D' hD' S nD Q' q' => ?_) (fun H' D' hD' S nD Q' q' => ?_) ?_
    · have hDS := S _ _ hD8
      walk_at "rd"
      rw [e6]
      exact ⟨t, tp, cp, m, lt, tk, cl, n, rfl, hP8.same S, by omega, fun r H2 nr S2 hr => q' _ _ S2 fun Hx b => ⟨r, rfl, b _ _ (fun z => nD (z ▸ nr)) hr, ne_new nr (S _ _ hd8)⟩⟩
    · have hDS := S _ _ hD8
      walk_at "rd"
      rw [e6]
      exact ⟨t2, tp2, cp2, m2, lt2, tk2, cl2, n, rfl, hQ8.same S, by omega, fun r H2 nr S2 hr => q' _ _ S2 fun Hx b => ⟨r, rfl, b _ _ (fun z => nD (z ▸ nr)) hr, ne_new nr (S _ _ hd8)⟩⟩
    rintro E' _ _ H9 nE S9 hE ⟨L0, rfl, hL0, nL0⟩ ⟨L1, rfl, hL1, nL1⟩
    have nEd : E' ≠ d := ne_new nE hd8
    have hP9 := hP8.same S9
    have hQ9 := hQ8.same S9
    have hd9 := S9 _ _ hd8
    clear hP8 hQ8 hd8 hD8 hpl S9
    have e0 : ∀ i, i < n → ((List.range n).map (dispV m tk cl))[i]? = some (dispV m tk cl i) := fun i hi => by
      rw [List.getElem?_map, List.getElem?_range hi]
      rfl
    have e1 : ∀ i, i < n → ((List.range n).map (dispV m2 tk2 cl2))[i]? = some (dispV m2 tk2 cl2 i) := fun i hi => by
      rw [List.getElem?_map, List.getElem?_range hi]
      rfl
    have sc : ∀ i, scal (dispV m tk cl i) (dispV m2 tk2 cl2 i) = true := fun i => by
      rcases itm_disp (m := m) (tk := tk) (cl := cl) (t := i) with x | ⟨n, x⟩ <;> rcases itm_disp (m := m2) (tk := tk2) (cl := cl2) (t := i) with y | ⟨n', y⟩ <;> rw [x, y] <;> rfl
    walk_at "rd"
    rw [List.length_map, List.length_range]
    refine Rd.rngK_n (by omega) ?_
    refine Rd.lc_rng0_if (fun i => !decide (dispV m tk cl i = dispV m2 tk2 cl2 i)) vn (by omega) (fun i hi => ?_) fun U H10 nU S10 hU => ?_
    · refine Rd.turn2 rfl (fun H' S Q' q => ?_) (fun H' S hb' Q' q => ?_)
      · have hE' := S _ _ hE
        have hL0' := S _ _ hL0
        have hL1' := S _ _ hL1
        walk_at "rd"
        refine Rd.ixL (SqL.of hL0') (atn (e0 i hi)) ?_
        walk_at "rd"
        refine Rd.ixL (SqL.of hL1') (atn (e1 i hi)) ?_
        walk_at "rd"
        refine Rd.ne (sc i) ?_
        walk_at "rd"
        exact q _ (Same.refl _)
      · walk_at "rd"
        exact q _ (Same.refl _)
    have un : ((List.range n).filter (fun i => !decide (dispV m tk cl i = dispV m2 tk2 cl2 i)) = [] ∧ ∀ i, i < n → dispV m tk cl i = dispV m2 tk2 cl2 i) ∨ ∃ u r, (List.range n).filter (fun i => !decide (dispV m tk cl i = dispV m2 tk2 cl2 i)) = u :: r ∧ u < n ∧ dispV m tk cl u ≠ dispV m2 tk2 cl2 u ∧ ∀ j, j < u → dispV m tk cl j = dispV m2 tk2 cl2 j := by
      rcases least (fun i => dispV m tk cl i = dispV m2 tk2 cl2 i) n with h | ⟨u, l, x, y⟩
      · exact .inl ⟨List.filter_eq_nil_iff.mpr fun s hs hc => by
          rw [decide_eq_true (h s (List.mem_range.mp hs))] at hc
          exact absurd hc (by decide), h⟩
      · obtain ⟨r, e⟩ := filter_head2 (c := fun i => !decide (dispV m tk cl i = dispV m2 tk2 cl2 i)) (t := u) (by rw [decide_eq_false x]; rfl) (fun s hs hc => by
          rw [decide_eq_true (y s hs)] at hc
          exact absurd hc (by decide)) l
        exact .inr ⟨u, r, e, l, x, y⟩
    have ul : ((List.range n).filter (fun i => !decide (dispV m tk cl i = dispV m2 tk2 cl2 i))).length ≤ 6000 := by
      have := List.length_filter_le (fun i => !decide (dispV m tk cl i = dispV m2 tk2 cl2 i)) (List.range n)
      rw [List.length_range] at this
      omega
    generalize (List.range n).filter (fun i => !decide (dispV m tk cl i = dispV m2 tk2 cl2 i)) = us at hU un ul
    have hsm : Sml 8 (.list (us.map dN)) := Sml.ints (n := 6) (by omega)
    have hs0 : Sml 8 (.list []) := Sml.ints (n := 6) (ns := []) (by decide)
    have hP10 := hP9.same S10
    have hQ10 := hQ9.same S10
    have hd10 := S10 _ _ hd9
    have hE10 := S10 _ _ hE
    have hL010 := S10 _ _ hL0
    have hL110 := S10 _ _ hL1
    clear hP9 hQ9 hd9 hE hL0 hL1 S10 nU
    walk_at "rs"
    -- what is expected
    let Px : L2.St → Hp → Prop := fun σ2 H => ∃ x, σ2 = [some (.ref a), some (.ref d), v2, some (.int (i : Int)), some (.ref t), some (.ref t2), v6', some (.ref D), some (.ref E'), some (.ref U), some x, v11, v12, v13, v14, v15, v16] ∧ Same H10 H ∧ DiffV (dispV m tk cl) (dispV m2 tk2 cl2) H x
    refine Rd.cut Px ?_ ?_
    · refine Rd.ifS ?_
      walk_at "rd"
      rename_i p1 H11 n1 S1 hp1
      rcases un with ⟨rfl, h⟩ | ⟨u, r, rfl, u2, hne, hb⟩
      · simp only [List.map_nil, decide_true, Bool.not_true]
        walk_at "rd"
        exact ⟨_, rfl, S1, .no (diff_all h1 h2 h3 h4 (by omega) (by omega) fun i hi => h i (by omega))⟩
      · simp only [eq_false (nil_ne (u := u) (r := r)), decide_false, Bool.not_false]
        rw [if_pos trivial]
        have hE1 := S1 _ _ hE10
        have hL01 := S1 _ _ hL010
        have hL11 := S1 _ _ hL110
        have hU1 := S1 _ _ hU
        walk_at "rd"
        refine Rd.ixL0 (SqL.of hU1) ?_
        walk_at "rd"
        refine Rd.ixL0 (SqL.of hU1) ?_
        walk_at "rd"
        refine Rd.ixL (SqL.of hL01) (atn (e0 u u2)) ?_
        walk_at "rd"
        refine Rd.ixL0 (SqL.of hU1) ?_
        walk_at "rd"
        refine Rd.ixL (SqL.of hL11) (atn (e1 u u2)) ?_
        walk_at "rd"
        rename_i r5 H12 n5 S5 hr5
        exact ⟨_, rfl, S1.trans S5, .at_ u r5 hne hb hr5⟩
    rintro σ2 H11 ⟨x, rfl, S11, hx⟩
    have hP11 := hP10.same S11
    have hQ11 := hQ10.same S11
    have hd11 := S11 _ _ hd10
    have hE11 := S11 _ _ hE10
    have hL011 := S11 _ _ hL010
    have hL111 := S11 _ _ hL110
    clear Px hP10 hQ10 hd10 hE10 hL010 hL110 hU un ul hsm hs0 S11
    walk_at "rs"
    rename_i pl H12 n12 S12 hpl
    have hP12 := hP11.same S12
    have hQ12 := hQ11.same S12
    refine Rd.lc_twoL (K := K) (fun y H => ∃ h lp, y = .ref h ∧ HallAt (He.ga K "Hall") H h m tk cl lt lp ∧ lp ≠ d) (fun y H => ∃ h lp, y = .ref h ∧ HallAt (He.ga K "Hall") H h m2 tk2 cl2 lt2 lp ∧ lp ≠ d) (SqL.of hpl) (fun _ => rfl)
      (fun H' D' hD' S nD Q' q' => ?_) (fun H' D' hD' S nD Q' q' => ?_) ?_
    · walk_at "rd"
      rename_i h lp H'' nh nl S2 hA
      obtain ⟨zs, hzs⟩ := nD
      exact q' _ _ S2 fun Hx b => ⟨h, lp, rfl, hA.but b (S2 _ _ hzs) (ne_new nl hzs), ne_new nl (S _ _ (S12 _ _ hd11))⟩
    · walk_at "rd"
      rename_i h lp H'' nh nl S2 hA
      obtain ⟨zs, hzs⟩ := nD
      exact q' _ _ S2 fun Hx b => ⟨h, lp, rfl, hA.but b (S2 _ _ hzs) (ne_new nl hzs), ne_new nl (S _ _ (S12 _ _ hd11))⟩
    rintro F _ _ H13 nF S13 hF ⟨ha, lpa, rfl, hA, nla⟩ ⟨hb, lpb, rfl, hB, nlb⟩
    have nFd : F ≠ d := ne_new nF (S12 _ _ hd11)
    have hd13 := S13 _ _ (S12 _ _ hd11)
    have hE13 := S13 _ _ (S12 _ _ hE11)
    have hL013 := S13 _ _ (S12 _ _ hL011)
    have hL113 := S13 _ _ (S12 _ _ hL111)
    have hx13 : DiffV (dispV m tk cl) (dispV m2 tk2 cl2) H13 x := by
      cases hx with
      | no h => exact .no h
      | at_ t r h0 hb hr => exact .at_ t r h0 hb (S13 _ _ (S12 _ _ hr))
    clear hP11 hQ11 hP12 hQ12 hd11 hE11 hL011 hL111 S12 S13 hpl n12 hx
    walk_at "rs"
    refine Rd.ifF (P := fun H => Same H13 H) (fun Q' q' => ?_) fun H14 S14 => ?_
    · walk_at "rd"
      refine Rd.h_fd hA hB (by omega) (by omega) (by omega) fun v H14 S14 hv => ?_
      walk_at "rd"
      cases hx13 with
      | no h =>
        cases hv with
        | no _ =>
          refine Rd.h_eqd (d := .none) .non .non trivial fun H15 S15 => ?_
          walk_at "rd"
          exact q' _ (S14.trans S15)
        | at_ t r h0 _ _ => exact absurd (h t) h0
      | at_ t3 r3 k0 kb hr =>
        cases hv with
        | no h => exact absurd (h t3) k0
        | at_ t4 r4 z0 zb hz =>
          obtain rfl : t4 = t3 := by
            rcases Nat.lt_trichotomy t4 t3 with z | z | z
            · exact absurd (kb _ z) z0
            · exact z
            · exact absurd (zb _ z) k0
          refine Rd.h_eqd (d := .tuple [dN t4, dDisp m tk cl t4, dDisp m2 tk2 cl2 t4]) (.tup (SqT.of hz) (.cons (.int _) (.cons dp_disp (.cons dp_disp .nil)))) (.tup (SqT.of (S14 _ _ hr)) (.cons (.int _) (.cons dp_disp (.cons dp_disp .nil)))) (sml_diff sml_disp sml_disp) fun H15 S15 => ?_
          walk_at "rd"
          exact q' _ (S14.trans S15)
    have hA14 := hA.same S14
    have hB14 := hB.same S14
    have hd14 := S14 _ _ hd13
    have hE14 := S14 _ _ hE13
    have hL014 := S14 _ _ hL013
    have hL114 := S14 _ _ hL113
    have hF14 := S14 _ _ hF
    have hx14 : DiffV (dispV m tk cl) (dispV m2 tk2 cl2) H14 x := by
      cases hx13 with
      | no h => exact .no h
      | at_ t r h0 hb hr => exact .at_ t r h0 hb (S14 _ _ hr)
    clear hA hB hd13 hE13 hL013 hL113 hF S14 hx13 nF
    walk_at "rs"
    refine Rd.ifF (P := fun H => Same H14 H) (fun Q' q' => ?_) fun H15 S15 => ?_
    · walk_at "rd"
      refine Rd.h_fd hB14 hA14 (by omega) (by omega) (by rw [Nat.max_comm, Nat.lcm_comm]; omega) fun v H15 S15 hv => ?_
      walk_at "rd"
      have e : decide (v = V.non) = decide (x = V.non) := by
        cases hx14 with
        | no h =>
          cases hv with
          | no _ => rfl
          | at_ t r h0 _ _ => exact absurd (h t).symm h0
        | at_ t r h0 _ _ =>
          cases hv with
          | no h => exact absurd (h t).symm h0
          | at_ t' r' _ _ _ => rw [decide_eq_false Rd.ref_non, decide_eq_false Rd.ref_non]
      rw [e]
      simp only [decide_true, Bool.not_true]
      exact q' _ S15
    have hA15 := hA14.same S15
    have hB15 := hB14.same S15
    have hd15 := S15 _ _ hd14
    have hE15 := S15 _ _ hE14
    have hL015 := S15 _ _ hL014
    have hL115 := S15 _ _ hL114
    have hF15 := S15 _ _ hF14
    clear hA14 hB14 hd14 hE14 hL014 hL114 hF14 S15 hx14
    walk_at "rs"
    rename_i r H16 cs16 hr B16 hd16 hc16
    have hA16 := HallAt.bt B16 hd15 nla hA15
    have hB16 := HallAt.bt B16 hd15 nlb hB15
    have hE16 := B16 _ _ nEd hE15
    have hL016 := B16 _ _ nL0 hL015
    have hL116 := B16 _ _ nL1 hL115
    have hF16 := B16 _ _ nFd hF15
    clear hA15 hB15 hd15 hE15 hL015 hL115 hF15 B16
    refine Rd.slL (SqL.of hL016) fun G H17 nG S17 hG => ?_
    rw [cut_preI _ (z := (r : Int)) (n := r) rfl, ← List.map_take, List.take_range] at hG
    have hA17 := hA16.same S17
    have hB17 := hB16.same S17
    have hd17 := S17 _ _ hd16
    have hE17 := S17 _ _ hE16
    have hL117 := S17 _ _ hL116
    have hF17 := S17 _ _ hF16
    clear hA16 hB16 hd16 hE16 hL016 hL116 hF16 S17 nG
    obtain ⟨nn, hnn, nn1, nn2⟩ : ∃ nn, min r n = nn ∧ nn ≤ n ∧ nn ≤ 40 := ⟨_, rfl, by omega, by omega⟩
    rw [hnn] at hG
    have g0 : ∀ i, i < nn → ((List.range nn).map (dispV m tk cl))[i]? = some (dispV m tk cl i) := fun i hi => by
      rw [List.getElem?_map, List.getElem?_range hi]
      rfl
    walk_at "rs"
    rw [List.length_map, List.length_range]
    refine Rd.rngK_n (by omega) ?_
    refine Rd.lc_rng0_if (fun i => !decide (dispV m tk cl i = dispV m2 tk2 cl2 i)) vn (by omega) (fun i hi => ?_) fun U H18 nU S18 hU => ?_
    · refine Rd.turn2 rfl (fun H' S Q' q => ?_) (fun H' S hb' Q' q => ?_)
      · have hE' := S _ _ hE17
        have hG' := S _ _ hG
        have hL1' := S _ _ hL117
        walk_at "rd"
        refine Rd.ixL (SqL.of hG') (atn (g0 i hi)) ?_
        walk_at "rd"
        refine Rd.ixL (SqL.of hL1') (atn (e1 i (by omega))) ?_
        walk_at "rd"
        refine Rd.ne (sc i) ?_
        walk_at "rd"
        exact q _ (Same.refl _)
      · walk_at "rd"
        exact q _ (Same.refl _)
    have un : ((List.range nn).filter (fun i => !decide (dispV m tk cl i = dispV m2 tk2 cl2 i)) = [] ∧ ∀ i, i < nn → dispV m tk cl i = dispV m2 tk2 cl2 i) ∨ ∃ u r, (List.range nn).filter (fun i => !decide (dispV m tk cl i = dispV m2 tk2 cl2 i)) = u :: r ∧ u < nn ∧ dispV m tk cl u ≠ dispV m2 tk2 cl2 u ∧ ∀ j, j < u → dispV m tk cl j = dispV m2 tk2 cl2 j := by
      rcases least (fun i => dispV m tk cl i = dispV m2 tk2 cl2 i) nn with h | ⟨u, l, x, y⟩
      · exact .inl ⟨List.filter_eq_nil_iff.mpr fun s hs hc => by
          rw [decide_eq_true (h s (List.mem_range.mp hs))] at hc
          exact absurd hc (by decide), h⟩
      · obtain ⟨r, e⟩ := filter_head2 (c := fun i => !decide (dispV m tk cl i = dispV m2 tk2 cl2 i)) (t := u) (by rw [decide_eq_false x]; rfl) (fun s hs hc => by
          rw [decide_eq_true (y s hs)] at hc
          exact absurd hc (by decide)) l
        exact .inr ⟨u, r, e, l, x, y⟩
    have ul : ((List.range nn).filter (fun i => !decide (dispV m tk cl i = dispV m2 tk2 cl2 i))).length ≤ 6000 := by
      have := List.length_filter_le (fun i => !decide (dispV m tk cl i = dispV m2 tk2 cl2 i)) (List.range nn)
      rw [List.length_range] at this
      omega
    generalize (List.range nn).filter (fun i => !decide (dispV m tk cl i = dispV m2 tk2 cl2 i)) = us at hU un ul
    have hsm : Sml 8 (.list (us.map dN)) := Sml.ints (n := 6) (by omega)
    have hs0 : Sml 8 (.list []) := Sml.ints (n := 6) (ns := []) (by decide)
    have hi0 : ∀ x ∈ (List.range nn).map (dispV m tk cl), Itm x := fun x hx => by
      obtain ⟨i, _, rfl⟩ := List.mem_map.mp hx
      exact disp_itm
    have hA18 := hA17.same S18
    have hB18 := hB17.same S18
    have hd18 := S18 _ _ hd17
    have hF18 := S18 _ _ hF17
    have hG18 := S18 _ _ hG
    clear hA17 hB17 hd17 hE17 hL117 hF17 hG S18 nU
    walk_at "rs"
    refine Rd.h_err hA18 hG18 (by simp; omega) hi0 fun v H19 S19 hv => ?_
    obtain rfl : v = .non := by
      cases hv with
      | no _ => rfl
      | at_ i x hx hn _ =>
        have i2 : i < nn := by
          have := (List.getElem?_eq_some_iff.mp hx).1
          simpa using this
        rw [g0 i i2] at hx
        injection hx with hx
        exact absurd hx.symm hn
    clear hv
    have hF19 := S19 _ _ hF18
    walk_at "rs"
    refine Rd.h_err (hB18.same S19) (S19 _ _ hG18) (by simp; omega) hi0 fun v H20 S20 hv => ?_
    have hU20 := S20 _ _ (S19 _ _ hU)
    have hd20 := S20 _ _ (S19 _ _ hd18)
    clear hA18 hB18 hF18 hF19 hG18 hd18 S19 S20 hU
    walk_at "rs"
    rename_i pf H21 nf S21 hpf
    have hU21 := S21 _ _ hU20
    have hd21 := S21 _ _ hd20
    refine Rd.ifF (P := fun H => Same H21 H) (fun Q' q' => ?_) fun H22 S22 => ?_
    · walk_at "rd"
      rename_i p1 H22 n1 S1 hp1
      have hpf1 := S1 _ _ hpf
      rcases un with ⟨rfl, heq⟩ | ⟨u, r, rfl, u2, hne, hb⟩
      · simp only [List.map_nil, decide_true, Bool.not_true]
        obtain rfl : v = .non := by
          cases hv with
          | no _ => rfl
          | at_ i x hx hn _ =>
            have i2 : i < nn := by
              have := (List.getElem?_eq_some_iff.mp hx).1
              simpa using this
            rw [g0 i i2] at hx
            injection hx with hx
            exact absurd (hx.symm.trans (heq i i2)) hn
        walk_at "rd"
        rename_i p2 H23 n2 S2 hp2 H24 S24
        exact q' _ ((S1.trans S2).trans S24)
      · simp only [eq_false (nil_ne (u := u) (r := r)), decide_false, Bool.not_false]
        rw [if_pos trivial]
        obtain rfl : v = vn u := by
          cases hv with
          | no h => exact absurd (h u _ (g0 u u2)) hne
          | at_ i x hx hn h =>
            have i2 : i < nn := by
              have := (List.getElem?_eq_some_iff.mp hx).1
              simpa using this
            rw [g0 i i2] at hx
            injection hx with hx
            rcases Nat.lt_trichotomy i u with z | z | z
            · exact absurd (hx.symm.trans (hb i z)) hn
            · rw [z]
            · exact absurd (h u _ z (g0 u u2)) hne
        have hU1 := S1 _ _ hU21
        walk_at "rd"
        refine Rd.ixL0 (SqL.of hU1) ?_
        walk_at "rd"
        rename_i p2 H23 n2 S2 hp2 H24 S24
        exact q' _ ((S1.trans S2).trans S24)
    exact ⟨_, rfl, rfl, _, S22 _ _ hd21, hc16⟩
  · rintro σ H _
    walk_at "rd"
    exact k H
end
end Tk

end

/-! ### The end -/
namespace Tk
open PySem PySem.Spec PyProof.Rows L2
theorem facts {P : Program} {w : World} {K : PySem.W.Frag} {h : Heap} {mg : Str → Option Value} {f : Addr} (X : K.In h) (G : h.Ns mainGlobals mg) (hfa : mg ("law" : Str) = some (.ref f)) (c : Says fcts dps K) :
    ∃ fd : FuncData, (∀ (s : Shared) (v : Value), BindsTo s fd ⟨[v], []⟩ [("_law_script", v)]) ∧ ∀ base : Heap, K.In base → base.Ns mainGlobals mg → FnOk P w K mg base CX0 8 f fd ["_law_script"] (spLaw K) := by
  obtain ⟨fd, F⟩ := law_fn c
  have T := txt X G c
  have e := hfa.symm.trans (He.glo_ok X G (c.fact lawF rfl))
  cases e
  have b := FunD.bindsA (ps := ["_law_script"]) F fun _ _ _ _ _ _ us hl => match us, hl with | [_], _ => rfl
  exact ⟨fd, fun s v => b s [v] rfl, fun base _ _ => ok_law T F⟩
end Tk
open PySem PySem.W PySem.Calls PyProof.Rows
set_option maxRecDepth 100000 in
set_option maxHeartbeats 0 in
theorem PySem.Challenge.cw_ticketwrap_k16_first_differences_holds : PySem.Challenge.rw_ticketwrap_k16_first_differences.Holds := by
  w_on; o_law
  refine HeadRun.head_imp (r := OpenLaw.row PySem.Challenge.rw_ticketwrap_k16_first_differences) (q := view (OpenLaw.row PySem.Challenge.rw_ticketwrap_k16_first_differences).prog [0, 41]) (H := Tk.hk) (ob := Tk.ob) (M := 20000) (loose := Tk.names) (d := HeadRun.topDef (OpenLaw.row PySem.Challenge.rw_ticketwrap_k16_first_differences).prog 41) (kwd := []) Tk.ob_eq Tk.run
    (by kernel_rfl) (by kernel_rfl) (by kernel_rfl) (by rfl) (by first | assumption | decide +kernel) (by decide +kernel) ⟨rfl, rfl, rfl, rfl, rfl, by decide +kernel⟩ ?hw ?hc
  case hw => w_witness2
  case hc =>
    refine L2.walk_ofE (l := PySem.Challenge.rw_ticketwrap_k16_first_differences) (n := 63) (k := 8) (x := "_law_script") (CX := L2.CX0) rfl (by decide) (by kernel_rfl) ⟨rfl, by decide, by decide⟩ ?F (fun _ _ _ _ z => z)
    intro w mg fa h Y G hmg0
    obtain ⟨K, KX, c, _⟩ := Y
    have hmg : mg ("law" : PySem.Str) = some (.ref fa) := by
      have e : (HeadRun.topDef (OpenLaw.row PySem.Challenge.rw_ticketwrap_k16_first_differences).prog 41).name = ("law" : PySem.Str) := by kernel_rfl
      rw [← e]
      exact hmg0
    obtain ⟨fd, hb, hF⟩ := Tk.facts (P := (PySem.Challenge.rw_ticketwrap_k16_first_differences).prog) (w := w) KX G hmg c
    exact ⟨K, fd, Tk.spLaw K, KX, hb, fun H a ns hl _ hS => ⟨a, ns, rfl, hS, hl, fun _ => rfl⟩, hF⟩
