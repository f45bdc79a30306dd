import PyProof.Rows.All
import Wide.All
import OpenK.AllK
import Wide.FinOn
import KE.KStateDown
import KE.KMathGC
import KE.KTupSum
import KE.GoesEnum
import KE.KUnpackStar
import HandS.StrMore
import HandS.Zip
import HandS.ClsMeth
import HandS.Codes
import HandS.ForMost
import HandS.Exc
import HandS.TryOnly
import HandS.ExcOwn
import HandS.ExcValue
import HandS.WordsExc
import HandS.Defaults
import HandS.Property
import HandS.Conv
import HandS.Flow
import HandS.Wide
import HandS.IsInst
import HandS.TupAny
import HandS.Deep
import HandS.Evl
import HandS.Lambda
import HandS.EndTab
import HandS.HeadWalk
import HandS.GenList
import HandS.RevRange
import HandS.Gcd
import HandS.CallLocal
import HandS.TryMany
import HandS.SetKeys
import HandS.Star
import HandS.TupMul
import HandS.Style
import HandS.SortKw
import KE.DatumOrd
import PyProof.GenComp
import KE.HD3
import HandS.HeadEnd
import HandS.HeadHook1
import HandS.HeadHook2
import HandS.HeadHook4
import HandS.NestedK
import KE.KExcIs
import KE.KExcSuper
import KE.KSuperObj
import HandS.ExcSuper
import HandS.ExcInit
import HandS.ExcField
import HandS.ExcIs
import HandS.FStr
import HandS.SetFor
import HandS.Strs
import HandS.ExcCtx
import HandS.HotCalls
import HandS.SuiteRaise
import KE.KExcRaise
import HandS.Finally
import PySem.Challenge.RW_ticketwrap_k03_invalid_halls
set_option Elab.async false
set_option linter.all false
set_option maxRecDepth 100000
set_option maxHeartbeats 4000000
/-! ### A. Rules and facts of our own -/
namespace Tk
open PySem PySem.Spec PyProof.Rows L2
section
variable {X : Cx}

/-! math.lcm, sum of a tuple -/
def rLcm : List V → Hp → VK → Prop := fun vs H Q => ∃ a b : Nat, vs = [.int a, .int b] ∧ a < 1000000 ∧ b < 1000000 ∧ Q (.int ((Nat.lcm a b : Nat) : Int)) H
theorem cr_lcm : CallR X (.builtin "math.lcm") rLcm := by
  intro pins s σ H vs us Q I r h
  obtain ⟨a, b, rfl, ha, hb, q⟩ := h
  obtain ⟨t, u, rfl⟩ := Vals.int2 r
  refine PySem.W.mc_lcm (by simp; omega) (by simp; omega) fun _ => ⟨.int _, H, I.tok _, ⟨_, rfl⟩, ?_⟩
  simpa using q
def rSumT (K : PySem.W.Frag) : List V → Hp → VK → Prop := fun vs H Q => ∃ (a : Addr) (ns : List Int), vs = [V.ref a] ∧ SqT K H a (ns.map V.int) ∧ Q (.int ns.sum) H
theorem istup_old {h : Heap} {t : Addr} {its : List Value} (p : IsTup h t its.toArray) : h.IsTuple t its.toArray := by
  obtain ⟨o, ho, hc, n, hd⟩ := p
  exact ⟨o, ho, hc, n, hd⟩
theorem cr_sumT (hc : X.calm = true) : CallR X (.builtin "sum") (rSumT X.K) := by
  intro pins s σ H vs us Q I r h
  obtain ⟨a, ns, rfl, hs, q⟩ := h
  obtain ⟨its, rv, hl, _⟩ := I.tuple hs
  rw [Vals.ref1 r]
  have hi := rv.ints
  obtain ⟨xs, hx⟩ := hi.allInts.items
  have hn : numsOf its.toArray.toList = ns := by rw [show its.toArray.toList = its from rfl, hi.numsOf]
  have ht := istup_old hl
  rw [hx] at ht hn
  rw [nums_intItems] at hn
  refine PySem.W.ktm_sumG (I.ok.hd hc) ht fun h' tk t' hk => ?_
  rw [preSum_eq, List.take_of_length_le (by simp), hn]
  exact ⟨.int _, H, I.kept hk, ⟨_, rfl⟩, q⟩
/-- f(e, ..), f a name for a built-in function of a module -/
theorem pfun {x : Str} {p pos : Pos} {e : Expr} {es : List Expr} {t : TA} {id : String} {r : List V → Hp → VK → Prop} (hc : CallR X (.builtin id) r) (hg : Gl X x) (hm : X.mg x = some (.builtin id)) (ha : PA X (e :: es) t) (hdb : (x == ("__debug__" : Str)) = false := by decide)
    (he : starEach (e :: es) X.env = (false, eval e X.env) :: starEach es X.env := by rfl) (hpl : (backTo pos (starEach es X.env)).any (·.1) = false := by rfl) : PE X (.Call (.Name x p) (e :: es) [] pos) (tCB r t) :=
  ⟨fun pins s σ H _ I h => wpAny_Call_Name_kw (ld_glob I hg hm (PyProof.Rows.callWith_builtin1 (thn (ha.run pos pins s σ H _ I h) fun us s1 ⟨vs, H1, I1, r1, q1⟩ => hc pins s1 σ H1 vs us _ I1 r1 q1) he hpl) hdb)⟩

/-! a comprehension within a comprehension -/
theorem look_relabel {env : Env} : ∀ {names : List (Str × NameKind)} {x : Str}, names.lookup x = some .cell ∨ names.lookup x = some .free →
    (names.map fun (n, k) => if (k == NameKind.free && env.scope.kind == .function && env.kindOf n == some .cell) then (n, NameKind.cell) else (n, k)).lookup x = some .cell ∨
    (names.map fun (n, k) => if (k == NameKind.free && env.scope.kind == .function && env.kindOf n == some .cell) then (n, NameKind.cell) else (n, k)).lookup x = some .free
  | [], x, h => by rcases h with h | h <;> simp at h
  | (n, k) :: r, x, h => by
    have ih := @look_relabel env r x
    show List.lookup x ((if (k == NameKind.free && env.scope.kind == .function && env.kindOf n == some .cell) = true then (n, NameKind.cell) else (n, k)) :: _) = _ ∨ List.lookup x ((if (k == NameKind.free && env.scope.kind == .function && env.kindOf n == some .cell) = true then (n, NameKind.cell) else (n, k)) :: _) = _
    cases hx : x == n with
    | true =>
      simp only [List.lookup_cons, hx] at h
      by_cases hc : (k == NameKind.free && env.scope.kind == .function && env.kindOf n == some .cell) = true
      · rw [if_pos hc]
        simp [List.lookup_cons, hx]
      · rw [if_neg hc]
        simp only [List.lookup_cons, hx]
        exact h
    | false =>
      simp only [List.lookup_cons, hx] at h
      by_cases hc : (k == NameKind.free && env.scope.kind == .function && env.kindOf n == some .cell) = true
      · rw [if_pos hc]; simp only [List.lookup_cons, hx]; exact ih h
      · rw [if_neg hc]; simp only [List.lookup_cons, hx]; exact ih h
theorem blkRe {N : List Str} {sc scope : Scope} {own : List (Str × Nat)} {env : Env} (h : BlkOk N sc scope own) : BlkOk N (relabel sc env) scope own :=
  ⟨h.kind, h.uniq, h.ix, fun y hy e => look_relabel (h.free y hy e), h.own⟩
/-! a def that stands at a and keeps a promise; its calls -/
structure OkF (P : Program) (w : World) (K : PySem.W.Frag) (mg : Str → Option Value) (base : Heap) (k : Nat) (a : Addr) (ps : List Str) (sp : Sp) : Prop where
  ex : ∃ fd, FnOk P w K mg base (L2.CX P w) k a fd ps sp ∧ Binds K fd ps []
  kp : PySem.W.keepIn K (.ref a) = true
theorem OkF.one {P : Program} {w : World} {K : PySem.W.Frag} {mg : Str → Option Value} {base : Heap} {k : Nat} {a : Addr} {ps : List Str} {sp : Sp} (O : OkF P w K mg base k a ps sp) : FnOk P w K mg base (L2.CX P w) k a (Classical.choose O.ex) ps sp := (Classical.choose_spec O.ex).1
theorem OkF.two {P : Program} {w : World} {K : PySem.W.Frag} {mg : Str → Option Value} {base : Heap} {k : Nat} {a : Addr} {ps : List Str} {sp : Sp} (O : OkF P w K mg base k a ps sp) : Binds K (Classical.choose O.ex) ps [] := (Classical.choose_spec O.ex).2
variable {x : Str} {pos : Pos}
/-- a constant of the module -/
theorem pe_gint {v : Int} (hg : Gl X x) (h : ∃ t, X.mg x = some (.int v t)) (hd : (x == ("__debug__" : Str)) = false := by decide) : PE X (.Name x pos) (tC (.int v)) := by
  obtain ⟨t, h⟩ := h
  exact pe_glob hg h ⟨t, rfl⟩ hd
end

/-! facts of the top, read by a Hook -/
abbrev FnP (K : PySem.W.Frag) (x qual : Str) (st : Stmt) (f : Addr) (fd : FuncData) : Prop := FunD K x qual (defArgs st) (defBody st) (defScope st) [] [] f fd
/-- where a def stands, and the def -/
structure Dp where
  at_ : PySem.W.Frag → Addr
  d : He.DefD
  cl : Option ((PySem.W.Frag → Addr) × Str) := none
def look (K : PySem.W.Frag) (a : Addr) : He.FnW := match K.lookup a with
  | some o => (match o.data with
    | .func fd => some (fd.name, fd.qualname, fd.params, fd.body, fd.scope, fd.globals, fd.closure, fd.builtins)
    | _ => none)
  | none => none
def okA (K : PySem.W.Frag) (a : Addr) (d : He.DefD) : Bool := PySem.W.keepIn K (.ref a) && (match K.lookup a with
  | some o => (match o.data with
    | .func fd => PySem.W.codeIn K fd.code d.qual && (He.dflB K fd.defaults (d.dvs K) && He.kwdB K fd.kwdefaults (d.kws K))
    | _ => false)
  | none => false)
theorem fun_at {K : PySem.W.Frag} {a : Addr} {d : He.DefD} (e : look K a = d.val) (c : okA K a d = true) : ∃ fd, FunD K d.name d.qual d.params d.body d.scope (d.dvs K) (d.kws K) a fd := by
  obtain ⟨kp, c2⟩ := He.ba c
  unfold look at e
  cases q : K.lookup a with
  | none => rw [q] at c2; cases c2
  | some o =>
    obtain ⟨oc, od, dt, osl⟩ := o
    rw [q] at c2 e
    cases dt with
    | func fd =>
      obtain ⟨n1, n2, n3, n4, n5, n6, n7, n8, n9, n10, n11, n12, n13, n14, n15⟩ := fd
      have z : (some (n1, n2, n3, n4, n5, n6, n7, n15) : He.FnW) = d.val := e
      unfold He.DefD.val at z
      simp only [Option.some.injEq, Prod.mk.injEq] at z
      obtain ⟨rfl, rfl, rfl, rfl, rfl, rfl, rfl, rfl⟩ := z
      obtain ⟨c3, c4⟩ := He.ba (show (PySem.W.codeIn K n13 d.qual && (He.dflB K n8 (d.dvs K) && He.kwdB K n9 (d.kws K))) = true from c2)
      obtain ⟨c5, c6⟩ := He.ba c4
      exact ⟨_, ⟨oc, od, n8, n9, n10, n11, n12, n13, n14, osl, rfl, q, c3, He.dflB_ok c5, He.kwdB_ok c6⟩, kp⟩
    | _ => cases c2
/-! an __init__ that says super(): its closure is one cell, which holds the class -/
def lookX (K : PySem.W.Frag) (a : Addr) : He.FnW := match K.lookup a with
  | some o => (match o.data with
    | .func fd => some (fd.name, fd.qualname, fd.params, fd.body, fd.scope, fd.globals, fd.closure.map (fun q => (q.1, 0)), fd.builtins)
    | _ => none)
  | none => none
def valX (d : He.DefD) : He.FnW := some ("__init__", d.qual, d.params, .stmts d.body, d.scope, mainGlobals, [("__class__", 0)], builtinsNs)
def codeFB (K : PySem.W.Frag) (cd : Value) (file : Str) : Bool := match cd with
  | .ref c => (match K.lookup c with
    | some ⟨_, _, .fields vs, _⟩ => (match (vs[2]? : Option Value) with
      | some (.str y _) => decide (y = file)
      | _ => false)
    | _ => false)
  | _ => false
def cellB (K : PySem.W.Frag) (cl : List (Str × Addr)) (C : Addr) : Bool := match cl with
  | [(_, cc)] => (match K.lookup cc with
    | some ⟨_, _, .cell (some v), _⟩ => decide (v = .ref C)
    | _ => false)
  | _ => false
def okX (K : PySem.W.Frag) (a C : Addr) (qual file : Str) : Bool := PySem.W.keepIn K (.ref a) && (match K.lookup a with
  | some ⟨oc, _, .func fd, _⟩ => decide (oc = .type "function") && (decide (fd.defaults = .none) && (decide (fd.kwdefaults = .none) && (PySem.W.codeIn K fd.code qual && (codeFB K fd.code file && cellB K fd.closure C))))
  | _ => false)
def Dp.look (K : PySem.W.Frag) (p : Dp) : He.FnW := match p.cl with
  | none => Tk.look K (p.at_ K)
  | some _ => lookX K (p.at_ K)
def Dp.ok (K : PySem.W.Frag) (p : Dp) : Bool := match p.cl with
  | none => okA K (p.at_ K) p.d
  | some q => okX K (p.at_ K) (q.1 K) p.d.qual q.2
def Dp.val (p : Dp) : He.FnW := match p.cl with
  | none => p.d.val
  | some _ => valX p.d
theorem init_at {K : PySem.W.Frag} {a C : Addr} {d : He.DefD} {file : Str} (e : lookX K a = valX d) (c : okX K a C d.qual file = true) : PySem.W.keepIn K (.ref a) = true ∧
    ∃ (od : Option Addr) (doc pm ctv : Value) (an : Option Addr) (osl : Array (Option Value)) (c cc : Addr) (oc ocl : Obj) (vs : Array Value) (tf : Tok),
      K.lookup a = some ⟨.type "function", od, .func (PySem.W.fnX "__init__" d.qual d.params d.body d.scope [("__class__", cc)] .none .none doc pm an (.ref c) ctv), osl⟩ ∧ PySem.W.codeIn K (.ref c) d.qual = true ∧
        K.lookup c = some oc ∧ oc.data = .fields vs ∧ vs[2]? = some (.str file tf) ∧ K.lookup cc = some ocl ∧ ocl.data = .cell (some (.ref C)) := by
  obtain ⟨kp, c2⟩ := He.ba c
  refine ⟨kp, ?_⟩
  unfold lookX at e
  cases q : K.lookup a with
  | none => rw [q] at c2; cases c2
  | some o =>
    obtain ⟨oc, od, dt, osl⟩ := o
    rw [q] at c2 e
    cases dt with
    | func fd =>
      obtain ⟨n1, n2, n3, n4, n5, n6, n7, n8, n9, n10, n11, n12, n13, n14, n15⟩ := fd
      have z : (some (n1, n2, n3, n4, n5, n6, n7.map (fun q => (q.1, 0)), n15) : He.FnW) = valX d := e
      unfold valX at z
      simp only [Option.some.injEq, Prod.mk.injEq] at z
      obtain ⟨rfl, rfl, rfl, rfl, rfl, rfl, z7, rfl⟩ := z
      obtain ⟨c3, c4⟩ := He.ba (show (decide (oc = .type "function") && (decide (n8 = .none) && (decide (n9 = .none) && (PySem.W.codeIn K n13 d.qual && (codeFB K n13 file && cellB K n7 C))))) = true from c2)
      obtain ⟨c5, c6⟩ := He.ba c4
      obtain ⟨c7, c8⟩ := He.ba c6
      obtain ⟨c9, c10⟩ := He.ba c8
      obtain ⟨c11, c12⟩ := He.ba c10
      obtain rfl := of_decide_eq_true c3
      obtain rfl := of_decide_eq_true c5
      obtain rfl := of_decide_eq_true c7
      obtain ⟨c0, rfl⟩ := He.codeIn_ref c9
      unfold codeFB at c11
      dsimp only at c11
      obtain ⟨ob, vs, tf, lb, hv, hf⟩ : ∃ (ob : Obj) (vs : Array Value) (tf : Tok), K.lookup c0 = some ob ∧ ob.data = .fields vs ∧ vs[2]? = some (.str file tf) := by
        cases q0 : K.lookup c0 with
        | none => rw [q0] at c11; cases c11
        | some ob =>
          obtain ⟨b1, b2, dt, b4⟩ := ob
          rw [q0] at c11
          cases dt with
          | fields vs =>
            have c11 : (match (vs[2]? : Option Value) with
              | some (.str y _) => decide (y = file)
              | _ => false) = true := c11
            cases q2 : (vs[2]? : Option Value) with
            | none => rw [q2] at c11; cases c11
            | some v =>
              rw [q2] at c11
              cases v with
              | str y tf =>
                obtain rfl : y = file := of_decide_eq_true c11
                exact ⟨_, vs, tf, rfl, rfl, q2⟩
              | _ => cases c11
          | _ => cases c11
      unfold cellB at c12
      cases n7 with
      | nil => cases c12
      | cons p r =>
        obtain ⟨pn, cc⟩ := p
        cases r with
        | cons p2 r2 => cases c12
        | nil =>
          obtain ⟨z7, _⟩ := List.cons.inj (show [(pn, (0 : Addr))] = [(("__class__" : Str), (0 : Addr))] from z7)
          obtain rfl : pn = "__class__" := (Prod.mk.inj z7).1
          have c12 : (match K.lookup cc with
            | some ⟨_, _, .cell (some v), _⟩ => decide (v = .ref C)
            | _ => false) = true := c12
          cases q3 : K.lookup cc with
          | none => rw [q3] at c12; cases c12
          | some ocl =>
            obtain ⟨b1, b2, dt, b4⟩ := ocl
            rw [q3] at c12
            cases dt with
            | cell v =>
              cases v with
              | none => cases c12
              | some v =>
                obtain rfl : v = .ref C := of_decide_eq_true c12
                exact ⟨od, _, _, _, _, osl, c0, cc, ob, _, vs, tf, rfl, c9, lb, hv, hf, q3, rfl⟩
            | _ => cases c12
    | _ => cases c2
abbrev Al : Type := Bool × List He.FnW
def obsT (fa : List (PySem.W.Frag → Bool)) (fn : List Dp) (K : PySem.W.Frag) : Al := ((fa.all fun f => f K) && fn.all fun d => d.ok K, fn.map fun d => d.look K)
def valT (fn : List Dp) : Al := (true, fn.map fun d => d.val)
def Says (fa : List (PySem.W.Frag → Bool)) (fn : List Dp) (K : PySem.W.Frag) : Prop := obsT fa fn K = valT fn
/-! defs that make functions: their code objects, the tables of these -/
def codeAt (K : PySem.W.Frag) (a : Addr) : Addr := match K.lookup a with
  | some ⟨_, _, .func fd, _⟩ => (match fd.code with
    | .ref c => c
    | _ => 0)
  | _ => 0
def ctAt (K : PySem.W.Frag) (a : Addr) : Addr × Addr := (codeAt K a, He.tabOf K (codeAt K a))
theorem codeAt_eq {K : PySem.W.Frag} {a : Addr} {oc : Value} {od : Option Addr} {osl : Array (Option Value)} {fd : FuncData} {cd : Value} {q : Str} (lk : K.lookup a = some ⟨oc, od, .func fd, osl⟩) (e : fd.code = cd) (h : PySem.W.codeIn K cd q = true) : cd = .ref (codeAt K a) := by
  obtain ⟨c, rfl⟩ := He.codeIn_ref h
  unfold codeAt
  rw [lk]
  show Value.ref c = .ref (match fd.code with | .ref c => c | _ => 0)
  rw [e]
abbrev Mk_ : Type := PySem.W.Frag → Addr
/-- what is looked at: what is reached from the module, and the notes on builtins -/
def asX (g : Addr → Option Obj) (n : Nat) : List Addr := cStatics :: He.asD g n
structure Tells (tf : List Mk_) (h : Heap) (K : PySem.W.Frag) : Prop where
  hd : ∀ p ∈ tf, PySem.W.codeHdIn K (ctAt K (p K)).1 (ctAt K (p K)).2 = true
  out : ∀ p ∈ tf, K.lookup (ctAt K (p K)).2 = none
  empty : ∀ p ∈ tf, h.get? (ctAt K (p K)).2 = some { cls := .none, data := .fields #[] }
  apart : (tf.map fun p => (ctAt K (p K)).2).Nodup
def tabsB (g : Addr → Option Obj) (tf : List Mk_) (K : PySem.W.Frag) : Bool := (tf.all fun p => PySem.W.codeHdIn K (ctAt K (p K)).1 (ctAt K (p K)).2 && (match g (ctAt K (p K)).2 with
  | some o => He.emptyTab o
  | none => false)) && decide ((tf.map fun p => (ctAt K (p K)).2).Nodup)
abbrev AlX : Type := Al × Bool
def obsG (n : Nat) (fa : List (PySem.W.Frag → Bool)) (fn : List Dp) (tf : List Mk_) (g : Addr → Option Obj) : AlX := (obsT fa fn (He.frT g (asX g n)), tabsB g tf (He.frT g (asX g n)))
theorem tells_of {n : Nat} {tf : List Mk_} {h : Heap} (e : tabsB h.get? tf (He.frT h.get? (asX h.get? n)) = true) : Tells tf h (He.frT h.get? (asX h.get? n)) := by
  obtain ⟨h2, h5⟩ := He.ba e
  have key : ∀ p ∈ tf, PySem.W.codeHdIn (He.frT h.get? (asX h.get? n)) (ctAt (He.frT h.get? (asX h.get? n)) (p (He.frT h.get? (asX h.get? n)))).1 (ctAt (He.frT h.get? (asX h.get? n)) (p (He.frT h.get? (asX h.get? n)))).2 = true ∧
      ∃ o, h.get? (ctAt (He.frT h.get? (asX h.get? n)) (p (He.frT h.get? (asX h.get? n)))).2 = some o ∧ He.emptyTab o = true := fun p hp => by
    obtain ⟨h3, h4⟩ := He.ba (List.all_eq_true.mp h2 p hp)
    refine ⟨h3, ?_⟩
    generalize h.get? (ctAt (He.frT h.get? (asX h.get? n)) (p (He.frT h.get? (asX h.get? n)))).2 = z at h4
    cases z with
    | none => cases h4
    | some o => exact ⟨o, rfl, h4⟩
  exact ⟨fun p hp => (key p hp).1, fun p hp => by
    obtain ⟨_, o, q, z⟩ := key p hp
    exact He.frT_none q z, fun p hp => by
    obtain ⟨_, o, q, z⟩ := key p hp
    rw [q, He.emptyTab_eq z], of_decide_eq_true h5⟩
def hook (n : Nat) (fa : List (PySem.W.Frag → Bool)) (fn : List Dp) (tf : List Mk_) : PySem.W.Hook where
  α := AlX
  obs := fun s => obsG n fa fn tf s.heap.get?
  val := fun _ => (valT fn, true)
  says := fun _ h => ∃ K : PySem.W.Frag, K.In h ∧ Says fa fn K ∧ Tells tf h K
  of := fun _ _ e => ⟨_, He.frT_in, congrArg (fun z : AlX => z.1) e, tells_of (congrArg (fun z : AlX => z.2) e)⟩
  keeps := fun _ _ _ ⟨K, hK, c, t⟩ q => ⟨K, PySem.W.Frag.In.keeps hK q, c, t.hd, t.out, fun p hp => q _ _ (t.empty p hp), t.apart⟩
theorem obsG_eq {n : Nat} {fa : List (PySem.W.Frag → Bool)} {fn : List Dp} {tf : List Mk_} {g : Addr → Option Obj} {s : Shared} (h : ∀ a, g a = s.heap.get? a) : obsG n fa fn tf g = (hook n fa fn tf).obs s :=
  congrArg (obsG n fa fn tf) (funext h)
section
variable {fa : List (PySem.W.Frag → Bool)} {fn : List Dp} {K : PySem.W.Frag}
theorem Says.fact (c : Says fa fn K) (i : Nat) {f : PySem.W.Frag → Bool} (h : fa[i]? = some f := by rfl) : f K = true :=
  List.all_eq_true.mp (He.ba (show ((fa.all fun f => f K) && fn.all fun d => d.ok K) = true from congrArg (fun z : Al => z.1) c)).1 f (List.mem_of_getElem? h)
theorem Says.at_ (c : Says fa fn K) (i : Nat) {d : Dp} (h : fn[i]? = some d) : d.look K = d.val ∧ d.ok K = true := by
  have c2 := (He.ba (show ((fa.all fun f => f K) && fn.all fun d => d.ok K) = true from congrArg (fun z : Al => z.1) c)).2
  have c3 := List.all_eq_true.mp c2 d (List.mem_of_getElem? h)
  have e : (fn.map fun d => d.look K)[i]? = (fn.map fun d => d.val)[i]? := congrArg (fun z : Al => z.2[i]?) c
  rw [List.getElem?_map, List.getElem?_map, h] at e
  exact ⟨Option.some.inj e, c3⟩
theorem Says.def_ (c : Says fa fn K) (i : Nat) {at_ : PySem.W.Frag → Addr} {d : He.DefD} (h : fn[i]? = some ⟨at_, d, none⟩ := by rfl) : (∃ fd, FunD K d.name d.qual d.params d.body d.scope (d.dvs K) (d.kws K) (at_ K) fd) ∧ PySem.W.keepIn K (.ref (at_ K)) = true := by
  obtain ⟨e, c3⟩ := c.at_ i h
  exact ⟨fun_at e c3, (He.ba (show okA K (at_ K) d = true from c3)).1⟩
theorem Says.init_ (c : Says fa fn K) (i : Nat) {at_ C : PySem.W.Frag → Addr} {d : He.DefD} {file : Str} (h : fn[i]? = some ⟨at_, d, some (C, file)⟩ := by rfl) : PySem.W.keepIn K (.ref (at_ K)) = true ∧
    ∃ (od : Option Addr) (doc pm ctv : Value) (an : Option Addr) (osl : Array (Option Value)) (c cc : Addr) (oc ocl : Obj) (vs : Array Value) (tf : Tok),
      K.lookup (at_ K) = some ⟨.type "function", od, .func (PySem.W.fnX "__init__" d.qual d.params d.body d.scope [("__class__", cc)] .none .none doc pm an (.ref c) ctv), osl⟩ ∧ PySem.W.codeIn K (.ref c) d.qual = true ∧
        K.lookup c = some oc ∧ oc.data = .fields vs ∧ vs[2]? = some (.str file tf) ∧ K.lookup cc = some ocl ∧ ocl.data = .cell (some (.ref (C K))) := by
  obtain ⟨e, c3⟩ := c.at_ i h
  exact init_at e c3
end
/-! single facts -/
/-- where the property f of the class C has its getter -/
def propAt (K : PySem.W.Frag) (C : Addr) (f : Str) : Addr := match PySem.W.findIn K (.ref C) f with
  | some (some (.ref p)) => p
  | _ => 0
def getAt (K : PySem.W.Frag) (C : Addr) (f : Str) : Addr := match PySem.W.recIn K (propAt K C f) "property" with
  | some (.ref g :: _) => g
  | _ => 0
def propB (K : PySem.W.Frag) (C : Addr) (f : Str) : Bool := decide (PySem.W.findIn K (.ref C) f = some (some (.ref (propAt K C f)))) && (decide (PySem.W.specialIn K (.ref (propAt K C f)) "__get__" = some (some (.builtin "property.__get__"))) &&
  (decide (PySem.W.takesIn K (.ref (propAt K C f)) = some true) && (match PySem.W.recIn K (propAt K C f) "property" with
    | some (v :: _) => decide (v = .ref (getAt K C f))
    | _ => false)))
theorem prop_ok {K : PySem.W.Frag} {C : Addr} {f : Str} (h : propB K C f = true) : PropOf K C f (propAt K C f) (getAt K C f) := by
  obtain ⟨h1, h⟩ := He.ba h
  obtain ⟨h2, h⟩ := He.ba h
  obtain ⟨h3, h4⟩ := He.ba h
  refine ⟨of_decide_eq_true h1, of_decide_eq_true h2, of_decide_eq_true h3, ?_⟩
  cases e : PySem.W.recIn K (propAt K C f) "property" with
  | none => rw [e] at h4; cases h4
  | some l =>
    rw [e] at h4
    cases l with
    | nil => cases h4
    | cons v r => exact ⟨r, by rw [show v = _ from of_decide_eq_true h4]⟩
def bltB (x : Str) (id : String) (K : PySem.W.Frag) : Bool := decide (PySem.W.nsIn K mainGlobals x = some (some (.builtin id)))
theorem blt_ok {K : PySem.W.Frag} {h : Heap} {mg : Str → Option Value} (X : K.In h) (G : h.Ns mainGlobals mg) {x : Str} {id : String} (c : bltB x id K = true) : mg x = some (.builtin id) := PySem.W.mg_of X G (of_decide_eq_true c)
def fcB (f : He.Fa) (K : PySem.W.Frag) : Bool := f.ok K

/-- the class method m of the class C: its record, its def -/
def cmAt (K : PySem.W.Frag) (C : Addr) (m : Str) : Addr := match PySem.W.findIn K (.ref C) m with
  | some (some (.ref p)) => p
  | _ => 0
def cmFn (K : PySem.W.Frag) (C : Addr) (m : Str) : Addr := match PySem.W.recIn K (cmAt K C m) "classmethod" with
  | some (.ref g :: _) => g
  | _ => 0
def cmB (K : PySem.W.Frag) (C : Addr) (m : Str) : Bool := PySem.W.readsIn K C (.type "type") && (decide (PySem.W.specialIn K (.ref C) "__getattribute__" = some (some (.builtin "type.__getattribute__"))) && ((match PySem.W.findCls K (.ref C) (.type "type") m with
    | some (.get a b c d) => decide (a = .builtin "classmethod.__get__") && (decide (b = .ref (cmAt K C m)) && (decide (c = .none) && decide (d = .ref C)))
    | _ => false) && ((match PySem.W.recIn K (cmAt K C m) "classmethod" with
    | some (v :: _) => decide (v = .ref (cmFn K C m))
    | _ => false) && PySem.W.fnIn K (cmFn K C m))))
theorem cm_ok {K : PySem.W.Frag} {C : Addr} {m : Str} (h : cmB K C m = true) : ClX.CRead K C (.type "type") ∧ ClX.CMet K C (.type "type") m (cmAt K C m) (cmFn K C m) := by
  obtain ⟨h1, h⟩ := He.ba h
  obtain ⟨h2, h⟩ := He.ba h
  obtain ⟨h3, h⟩ := He.ba h
  obtain ⟨h4, h5⟩ := He.ba h
  refine ⟨⟨h1, of_decide_eq_true h2⟩, ?_, ?_, h5⟩
  · cases e : PySem.W.findCls K (.ref C) (.type "type") m with
    | none => rw [e] at h3; cases h3
    | some z =>
      rw [e] at h3
      cases z with
      | get a b c d =>
        obtain ⟨z1, z⟩ := He.ba (show (decide (a = .builtin "classmethod.__get__") && (decide (b = .ref (cmAt K C m)) && (decide (c = .none) && decide (d = .ref C)))) = true from h3)
        obtain ⟨z2, z⟩ := He.ba z
        obtain ⟨z3, z4⟩ := He.ba z
        rw [of_decide_eq_true z1, of_decide_eq_true z2, of_decide_eq_true z3, of_decide_eq_true z4]
      | _ => cases h3
  · cases e : PySem.W.recIn K (cmAt K C m) "classmethod" with
    | none => rw [e] at h4; cases h4
    | some l =>
      rw [e] at h4
      cases l with
      | nil => cases h4
      | cons v r => exact ⟨r, by rw [show v = _ from of_decide_eq_true h4]⟩
/-- a tuple of texts of the module -/
def strsB : List Value → List Str → Bool
  | [], [] => true
  | .str x _ :: r, y :: s => decide (x = y) && strsB r s
  | _, _ => false
theorem strs_ok : ∀ {l : List Value} {ss : List Str}, strsB l ss = true → Vals (ss.map V.str) l
  | [], [], _ => .nil
  | [], _ :: _, h => by cases h
  | v :: r, ss, h => by
    cases v with
    | str x t =>
      cases ss with
      | nil => cases h
      | cons y s =>
        obtain ⟨h1, h2⟩ := He.ba (show (decide (x = y) && strsB r s) = true from h)
        rw [List.map_cons]
        exact .cons ⟨t, by rw [of_decide_eq_true h1]⟩ (strs_ok h2)
    | _ => cases h
def tupB (x : Str) (ss : List Str) (K : PySem.W.Frag) : Bool := match K.lookup (He.ga K x) with
  | some ⟨.type c, _, .seq its _, _⟩ => decide (c = "tuple") && (decide (its.size ≤ 1000) && strsB its.toList ss)
  | _ => false
theorem tup_ok {K : PySem.W.Frag} {x : Str} {ss : List Str} (h : tupB x ss K = true) (H : Hp) : SqT K H (He.ga K x) (ss.map V.str) := by
  unfold tupB at h
  cases q : K.lookup (He.ga K x) with
  | none => rw [q] at h; cases h
  | some o =>
    obtain ⟨oc, od, dt, osl⟩ := o
    rw [q] at h
    cases oc with
    | type c =>
      cases dt with
      | seq its n =>
        obtain ⟨h1, h⟩ := He.ba (show (decide (c = "tuple") && (decide (its.size ≤ 1000) && strsB its.toList ss)) = true from h)
        obtain ⟨h2, h3⟩ := He.ba h
        refine .inr ⟨_, its, n, q, congrArg Value.type (of_decide_eq_true h1), rfl, ?_, strs_ok h3⟩
        have := of_decide_eq_true h2
        rw [sizeLine_eq]
        omega
      | _ => cases h
    | _ => cases dt <;> cases h
/-- a place, as a value -/
abbrev vnI (i : Nat) : V := .int (i : Int)

/-! named readings -/
namespace Rd
def rJoin (K : PySem.W.Frag) : V → List V → Hp → VK → Prop := fun x xs H Q => ∃ a p, ∃ ys : List Str, x = .str a ∧ xs = [.ref p] ∧ (SqL K H p (ys.map V.str) ∨ SqT K H p (ys.map V.str)) ∧ (ys.map (·.length)).sum + ys.length * a.length ≤ 16777216 ∧ Q (.str (Txt.join a ys)) H
def rSplit : V → List V → Hp → VK → Prop := fun x xs H Q => ∃ a b, x = .str a ∧ xs = [.str b] ∧ (b.length == 0) = false ∧ a.length + 2 ≤ sizeLine ∧ rNewStrs (Txt.split a b) H Q
def rMax2 : List V → Hp → VK → Prop := fun xs H Q => ∃ i j, xs = [.int i, .int j] ∧ Q (.int (if j > i then j else i)) H
def rMin2 : List V → Hp → VK → Prop := fun xs H Q => ∃ i j, xs = [.int i, .int j] ∧ Q (.int (if j < i then j else i)) H
def rIsN : R2 := fun x y H Q => y = .non ∧ Q (.bl (decide (x = .non))) H
def rNotN : R2 := fun x y H Q => y = .non ∧ Q (.bl (!decide (x = .non))) H
def rLst (K : PySem.W.Frag) : List V → Hp → VK → Prop := fun xs H Q => ∃ p ys, xs = [.ref p] ∧ (SqL K H p ys ∨ SqT K H p ys) ∧ ∀ l, H l = none → Q (.ref l) (upd H l (.lst ys))
def rTpl (K : PySem.W.Frag) : List V → Hp → VK → Prop := fun xs H Q => ∃ p ys, xs = [.ref p] ∧ ((SqL K H p ys ∧ ∀ l, H l = none → Q (.ref l) (upd H l (.tup ys))) ∨ (SqT K H p ys ∧ Q (.ref p) H))
def rInt1 : List V → Hp → VK → Prop := fun xs H Q => (∃ i, xs = [V.int i] ∧ Q (V.int i) H) ∨ ∃ k, xs = [V.bl k] ∧ Q (V.int (if k = true then 1 else 0)) H
def rStrI : List V → Hp → VK → Prop := fun xs H Q => ∃ i : Int, xs = [.int i] ∧ i.natAbs.log2 < 1920 ∧ Q (.str (toString i)) H
def rAddS : R2 := fun x y H Q => ∃ i j, x = .str i ∧ y = .str j ∧ i.length + j.length ≤ sizeLine ∧ Q (.str (i ++ j)) H
def rLenStr : List V → Hp → VK → Prop := fun xs H Q => ∃ z, xs = [.str z] ∧ z.length ≤ sizeLine ∧ Q (.int z.length) H
end Rd
section
variable {X : Cx} {o e : Expr} {to te : TE} {K : PySem.W.Frag}
theorem pe_fldK {f : Str} {pos : Pos} {ta : TE} (he : PE X e ta) (hb : attributeBase e f X.env (eval e X.env) = eval e X.env) (hK : X.K = K := by rfl) : PE X (.Attribute e f pos) (tFld K ta f) := hK ▸ pe_fld he hb
theorem repTK (hK : X.K = K := by rfl) : OpR X (binaryOp .Mult) (rRepT K) := hK ▸ op_repT
theorem starAK {e : Expr} {p : Pos} {es : List Expr} {te : TE} {t : TA} (he : PE X e te) (hr : PA X es t) (hK : X.K = K := by rfl) (hs : starEach (.Starred e p :: es) X.env = (true, eval e X.env) :: starEach es X.env := by rfl) : PA X (.Starred e p :: es) (StX.tStar K te t) := hK ▸ StX.pa_star he hr hs
theorem ixLK (hK : X.K = K := by rfl) : IxR X (rIxL K) := hK ▸ ix_list
theorem ixTK (hK : X.K = K := by rfl) : IxR X (rIxT K) := hK ▸ ix_tup
theorem ixSK (hK : X.K = K := by rfl) : IxR X (rIx K) := hK ▸ ix_seq
theorem lenK (hK : X.K = K := by rfl) : CallR X (.builtin "len") (Evl.rLenS K) := hK ▸ call_len_seq
theorem tplK (hK : X.K = K := by rfl) : CallR X (.type "tuple") (Rd.rTpl K) := hK ▸ call_tuple_of
theorem lstK (hK : X.K = K := by rfl) : CallR X (.type "list") (Rd.rLst K) := hK ▸ call_list_of
theorem slLK (hK : X.K = K := by rfl) : SlR X (rSlL K) := hK ▸ sl_list
theorem slAK (hK : X.K = K := by rfl) : SlR X (rSlA K) := hK ▸ sl_tupA
theorem eqDK (hu : X.A.units + 64 < cLine) (hK : X.K = K := by rfl) : OpR X (compareOp .Eq) (rEqD K) := hK ▸ op_eqD hu
theorem neDK (hu : X.A.units + 64 < cLine) (hK : X.K = K := by rfl) : OpR X (compareOp .NotEq) (rNeD K) := hK ▸ op_neD hu
theorem inK (hK : X.K = K := by rfl) : OpR X (compareOp .In) (rIn K false) := hK ▸ op_in_seq
theorem notInK (hK : X.K = K := by rfl) : OpR X (compareOp .NotIn) (rIn K true) := hK ▸ op_notIn_seq
theorem sumTK (hc : X.calm = true := by rfl) (hK : X.K = K := by rfl) : CallR X (.builtin "sum") (rSumT K) := hK ▸ cr_sumT hc
theorem sumLK (hc : X.calm = true := by rfl) (hK : X.K = K := by rfl) : CallR X (.builtin "sum") (rSum K) := hK ▸ cr_sum hc
theorem maxLK (hc : X.calm = true := by rfl) (hK : X.K = K := by rfl) : CallR X (.builtin "max") (rMax K) := hK ▸ cr_max hc
theorem minLK (hc : X.calm = true := by rfl) (hK : X.K = K := by rfl) : CallR X (.builtin "min") (rMin K) := hK ▸ cr_min hc
theorem allLK (hc : X.calm = true := by rfl) (hK : X.K = K := by rfl) : CallR X (.builtin "all") (rAll K) := hK ▸ cr_all hc
theorem isiK (hK : X.K = K := by rfl) : CallR X (.builtin "isinstance") (rIsi K) := hK ▸ call_isi
theorem catAK (hK : X.K = K := by rfl) : OpR X (binaryOp .Add) (rCatA K) := hK ▸ op_catA
theorem pi_listK {tg l : Expr} {tl : TE} (hl : PE X l tl) (hK : X.K = K := by rfl) : PI X tg l (iList K tl) := hK ▸ pi_list hl
theorem pi_tupK {tg l : Expr} {tl : TE} (hl : PE X l tl) (hK : X.K = K := by rfl) : PI X tg l (iTup K tl) := hK ▸ pi_tup hl
theorem pe_joinR {apos pos : Pos} (ho : PE X o to) (he : PE X e te) (hK : X.K = K := by rfl) (hs : starEach [e] X.env = [(false, eval e X.env)] := by rfl) (hbase : attributeBase o "join" X.env (eval o X.env) = eval o X.env := by rfl) (hline : (apos.endLine == pos.line) = true := by rfl) :
    PE X (.Call (.Attribute o "join" apos) [e] [] pos) (tM1 (Rd.rJoin K) to te) := by
  subst hK
  exact pe_join ho he hs hbase hline
theorem pe_splitR {apos pos : Pos} (ho : PE X o to) (he : PE X e te) (hs : starEach [e] X.env = [(false, eval e X.env)] := by rfl) (hbase : attributeBase o "split" X.env (eval o X.env) = eval o X.env := by rfl) (hline : (apos.endLine == pos.line) = true := by rfl) :
    PE X (.Call (.Attribute o "split" apos) [e] [] pos) (tM1 Rd.rSplit to te) := pe_split ho he hs hbase hline
end
/-! small words -/
theorem own_cx {X : Cx} {K : Value → Shared → Prop} {E₁ : Value → Shared → Prop} (hx : X.xe = fun e s' => wpAny (model X.prog X.w) X.A (leaving X.env e) (fun _ s'' => K e s'') E₁ s' := by rfl) : PassesOwn (model X.prog X.w) X.A X.env X.xe := passes_of hx
theorem FnP.okF {P : Program} {w : World} {K : PySem.W.Frag} {mg : Str → Option Value} {base : Heap} {x qual : Str} {st : Stmt} {f : Addr} {N ps : List Str} {k : Nat} {sp : Sp} (F : ∃ fd, FnP K x qual st f fd) (S : FnScope N ps (defScope st))
    (hb : ∀ (kV doc pm : Value) (an : Option Addr) (cdv ct : Value) (us : List Value), us.length = ps.length → bindArgs (PySem.W.fnOf x qual (defArgs st) (defBody st) (defScope st) .none kV doc pm an cdv ct) ⟨us, []⟩ = pure (ps.zip us))
    (len : ∀ vs H Q E, sp vs H Q E → vs.length = ps.length)
    (hbody : ∀ (cdv : Value) (A : Around) (outer : List Env) (s : Shared) (H : Hp) (vs : List V) (Q : VK) (E : XK), Room k (A.deeper (envOfC qual (defScope st) s.heap.objs.size f cdv)) → sp vs H Q E →
      ∃ t, PSs (cxOf (L2.CX P w) P w K mg base N qual (defScope st) f cdv A outer s H E) (defBody st) t ∧ t { nx := fun _ H' => Q .non H', rt := Q } (start N vs) H) : OkF P w K mg base (k + 1) f ps sp := by
  obtain ⟨fd, F⟩ := F
  exact ⟨⟨fd, F.ok S len hbody, F.bindsN hb⟩, F.kp⟩
/-- the law's own def: nothing leaves it -/
theorem okLaw {P : Program} {w : World} {K : PySem.W.Frag} {mg : Str → Option Value} {base : Heap} {x qual : Str} {st : Stmt} {f : Addr} {fd : FuncData} {N ps : List Str} {k : Nat} {sp : Sp} (F : FnP K x qual st f fd) (S : FnScope N ps (defScope st)) (len : ∀ vs H Q E, sp vs H Q E → vs.length = ps.length)
    (hbody : ∀ (cdv : Value) (A : Around) (outer : List Env) (s : Shared) (H : Hp) (vs : List V) (Q : VK) (E : XK), Room k (A.deeper (envOfC qual (defScope st) s.heap.objs.size f cdv)) → sp vs H Q E →
      ∃ t, PSs (cxOf CX0 P w K mg base N qual (defScope st) f cdv A outer s H E).nox (defBody st) t ∧ t { nx := fun _ H' => Q .non H', rt := Q } (start N vs) H) : FnOk P w K mg base CX0 (k + 1) f fd ps sp :=
  F.ok S len fun cdv A outer s H vs Q E hr h => by
    obtain ⟨t, h1, h2⟩ := hbody cdv A outer s H vs Q E hr h
    exact ⟨t, h1.nox, h2⟩
def spLaw (K : PySem.W.Frag) : Sp := fun vs H Q _ => ∃ (a : Addr) (ns : List Int), vs = [.ref a] ∧ SqL K H a (ns.map V.int) ∧ ns.length ≤ 63 ∧ ∀ H', Q (.bl true) H'
/-- the same, the tables of the defs that make functions there -/
def spLawT (K : PySem.W.Frag) (T : List (Addr × Str)) : Sp := fun vs H Q _ => ∃ (a : Addr) (ns : List Int), vs = [.ref a] ∧ SqL K H a (ns.map V.int) ∧ ns.length ≤ 63 ∧ LamX.Tabs T H ∧ ∀ H', Q (.bl true) H'
/-- all but what stands at d is as it was -/
def But (d : Addr) (H H' : Hp) : Prop := ∀ b o, b ≠ d → H b = some o → H' b = some o
end Tk
/-! ### Error classes: what is looked at -/
namespace Tk
open PySem PySem.Spec PyProof.Rows L2
namespace Ex
/-- what the written part says of the class beside OexC: of super().__init__ -/
structure SupC (K : PySem.W.Frag) (C : Addr) : Prop where
  oex : OexC K C
  up : PySem.W.ks_superIn K C C "__init__" = some (some (.builtin "ValueError.__init__"))
  op : PySem.W.nsIn K cStatics "thirdparty.any" = some none
  self : PySem.W.subIn K (.ref C) (.ref C) = some true
  ve : PySem.W.subIn K (.ref C) (.type "ValueError") = some true
def oexB (K : PySem.W.Frag) (C : Addr) : Bool := (match K.lookup C with
  | some ⟨.type "type", _, .cls cd, sl⟩ => (match cd.mro, sl.toList with
    | .ref C' :: bm, [_, _, _, _, some (.builtin n), _] => decide (C' = C) && (decide (n = "ValueError.__new__") && (PySem.HandSPX.refsVE bm && (cd.hasDict && !cd.hasDel)))
    | _, _ => false)
  | _ => false) && (decide (PySem.W.findIn K (.ref C) "__setattr__" = some (some (.builtin "object.__setattr__"))) && (decide (PySem.W.subIn K (.ref C) (.type "BaseException") = some true) && (decide (PySem.W.typeIn K (.ref C) = some (.type "type")) && PySem.W.keepIn K (.ref C))))
theorem oexB_ok {K : PySem.W.Frag} {C : Addr} (h : oexB K C = true) : OexC K C := by
  obtain ⟨h1, h⟩ := He.ba h
  obtain ⟨h2, h⟩ := He.ba h
  obtain ⟨h3, h⟩ := He.ba h
  obtain ⟨h4, h5⟩ := He.ba h
  refine ⟨?_, of_decide_eq_true h2, of_decide_eq_true h3, of_decide_eq_true h4, h5⟩
  split at h1
  · rename_i dd cd sl ho
    split at h1
    · rename_i C' bm k0 k1 k2 k3 n k5 hm hs
      obtain ⟨e1, h1⟩ := He.ba h1
      obtain ⟨e2, h1⟩ := He.ba h1
      obtain ⟨e3, h1⟩ := He.ba h1
      obtain ⟨e4, e5⟩ := He.ba h1
      obtain rfl := of_decide_eq_true e1
      obtain rfl := of_decide_eq_true e2
      obtain ⟨nm, bs, mro, ns, qn, hd, sn, sub, ab, col, del⟩ := cd
      dsimp only at hm e4 e5
      subst hm e4
      have e5 : del = false := by
        cases del with
        | true => cases e5
        | false => rfl
      subst e5
      have hsl : sl = #[k0, k1, k2, k3, some (.builtin "ValueError.__new__"), k5] := by
        obtain ⟨l⟩ := sl
        simp only at hs
        rw [hs]
      subst hsl
      exact ⟨nm, qn, ns, bs, bm, sn, sub, ab, col, dd, k0, k1, k2, k3, k5, ho, e3⟩
    · cases h1
  · cases h1
/-- a class with an own __init__ that says super().__init__(..), the attributes fs -/
def supB (x : Str) (fs : List Str) (K : PySem.W.Frag) : Bool := oexB K (He.ga K x) && (decide (PySem.W.ks_superIn K (He.ga K x) (He.ga K x) "__init__" = some (some (.builtin "ValueError.__init__"))) && (decide (PySem.W.nsIn K cStatics "thirdparty.any" = some none) &&
  (decide (PySem.W.subIn K (.ref (He.ga K x)) (.ref (He.ga K x)) = some true) && (decide (PySem.W.subIn K (.ref (He.ga K x)) (.type "ValueError") = some true) && (decide (PySem.W.findIn K (.ref (He.ga K x)) "__init__" = some (some (.ref (He.ma K (He.ga K x) "__init__")))) &&
    (decide (PySem.W.typeIn K (.ref (He.ma K (He.ga K x) "__init__")) = some (.type "function")) && fs.all fun f => decide (PySem.W.findIn K (.ref (He.ga K x)) f = some none)))))))
structure SupX (K : PySem.W.Frag) (x : Str) (fs : List Str) : Prop where
  sup : SupC K (He.ga K x)
  iC : PySem.W.findIn K (.ref (He.ga K x)) "__init__" = some (some (.ref (He.ma K (He.ga K x) "__init__")))
  tI : PySem.W.typeIn K (.ref (He.ma K (He.ga K x) "__init__")) = some (.type "function")
  no : ∀ f ∈ fs, PySem.W.findIn K (.ref (He.ga K x)) f = some none
theorem supB_ok {x : Str} {fs : List Str} {K : PySem.W.Frag} (h : supB x fs K = true) : SupX K x fs := by
  obtain ⟨h1, h⟩ := He.ba h
  obtain ⟨h2, h⟩ := He.ba h
  obtain ⟨h3, h⟩ := He.ba h
  obtain ⟨h4, h⟩ := He.ba h
  obtain ⟨h5, h⟩ := He.ba h
  obtain ⟨h6, h⟩ := He.ba h
  obtain ⟨h7, h8⟩ := He.ba h
  exact ⟨⟨oexB_ok h1, of_decide_eq_true h2, of_decide_eq_true h3, of_decide_eq_true h4, of_decide_eq_true h5⟩, of_decide_eq_true h6, of_decide_eq_true h7, fun f hf => of_decide_eq_true (List.all_eq_true.mp h8 f hf)⟩
/-- what every error class says, so that isinstance and the reading of its attributes go -/
def isB (x : Str) (K : PySem.W.Frag) : Bool := (PySem.W.clsIn K (He.ga K x)).isSome && (decide (PySem.W.findIn K (.ref (He.ga K x)) "__getattribute__" = some (some (.builtin "BaseException.__getattribute__"))) && (decide (PySem.W.findIn K (.ref (He.ga K x)) "__getattr__" = some none) &&
  (decide (PySem.W.subIn K (.ref (He.ga K x)) (.type "BaseException") = some true) && (decide (PySem.W.findIn K (.ref (He.ga K x)) "__class__" = some (some (.builtin "object.__class__"))) && (decide (PySem.W.specialIn K (.builtin "object.__class__") "__get__" = some (some (.builtin "getset_descriptor.__get__"))) &&
    (decide (PySem.W.takesIn K (.builtin "object.__class__") = some true) && (decide (PySem.W.mroIn K (He.ga K x) (.type "object") = some true) && PySem.W.hasDictIn K (He.ga K x))))))))
structure IsX (K : PySem.W.Frag) (C : Addr) : Prop where
  cl : (PySem.W.clsIn K C).isSome = true
  hg : PySem.W.findIn K (.ref C) "__getattribute__" = some (some (.builtin "BaseException.__getattribute__"))
  hk : PySem.W.findIn K (.ref C) "__getattr__" = some none
  hs : PySem.W.subIn K (.ref C) (.type "BaseException") = some true
  ha : PySem.W.findIn K (.ref C) "__class__" = some (some (.builtin "object.__class__"))
  hn : PySem.W.specialIn K (.builtin "object.__class__") "__get__" = some (some (.builtin "getset_descriptor.__get__"))
  ht : PySem.W.takesIn K (.builtin "object.__class__") = some true
  hm : PySem.W.mroIn K C (.type "object") = some true
  hd : PySem.W.hasDictIn K C = true
theorem isB_ok {x : Str} {K : PySem.W.Frag} (h : isB x K = true) : IsX K (He.ga K x) := by
  obtain ⟨h1, h⟩ := He.ba h
  obtain ⟨h2, h⟩ := He.ba h
  obtain ⟨h3, h⟩ := He.ba h
  obtain ⟨h4, h⟩ := He.ba h
  obtain ⟨h5, h⟩ := He.ba h
  obtain ⟨h6, h⟩ := He.ba h
  obtain ⟨h7, h⟩ := He.ba h
  obtain ⟨h8, h9⟩ := He.ba h
  exact ⟨h1, of_decide_eq_true h2, of_decide_eq_true h3, of_decide_eq_true h4, of_decide_eq_true h5, of_decide_eq_true h6, of_decide_eq_true h7, of_decide_eq_true h8, h9⟩
/-- which is an instance of which -/
def kitB (xs : List Str) (K : PySem.W.Frag) : Bool := xs.all fun x => decide (PySem.W.kitOne K (.ref (He.ga K x)) (.type "ValueError") = some true) && xs.all fun y => decide (PySem.W.kitOne K (.ref (He.ga K x)) (.ref (He.ga K y)) = some (decide (x = y)))
structure KitX (xs : List Str) (K : PySem.W.Frag) : Prop where
  ve : ∀ x ∈ xs, PySem.W.kitOne K (.ref (He.ga K x)) (.type "ValueError") = some true
  two : ∀ x ∈ xs, ∀ y ∈ xs, PySem.W.kitOne K (.ref (He.ga K x)) (.ref (He.ga K y)) = some (decide (x = y))
theorem kitB_ok {xs : List Str} {K : PySem.W.Frag} (h : kitB xs K = true) : KitX xs K :=
  ⟨fun x hx => of_decide_eq_true (He.ba (List.all_eq_true.mp h x hx)).1, fun x hx y hy => of_decide_eq_true (List.all_eq_true.mp (He.ba (List.all_eq_true.mp h x hx)).2 y hy)⟩
def InitAt (K : PySem.W.Frag) (a C : Addr) (qual : Str) (params : Arguments) (body : List Stmt) (scope : Scope) (file : Str) : Prop := PySem.W.keepIn K (.ref a) = true ∧
    ∃ (od : Option Addr) (doc pm ctv : Value) (an : Option Addr) (osl : Array (Option Value)) (c cc : Addr) (oc ocl : Obj) (vs : Array Value) (tf : Tok),
      K.lookup a = some ⟨.type "function", od, .func (PySem.W.fnX "__init__" qual params body scope [("__class__", cc)] .none .none doc pm an (.ref c) ctv), osl⟩ ∧ PySem.W.codeIn K (.ref c) qual = true ∧
        K.lookup c = some oc ∧ oc.data = .fields vs ∧ vs[2]? = some (.str file tf) ∧ K.lookup cc = some ocl ∧ ocl.data = .cell (some (.ref C))
end Ex
end Tk
/-! ### B. The text by places -/
namespace Tk
open PySem PySem.Spec PyProof.Rows L2
def top (i : Nat) : Stmt := PySem.Challenge.pw_ticketwrap_k03_invalid_halls.main.body.getD i (.Pass ⟨0, 0, 0, 0⟩)
abbrev s_xi_InvalidHall : Stmt := inClass (top 4) 0
abbrev N_xi_InvalidHall : List Str := ["self", "part", "index", "__class__"]
theorem sc_xi_InvalidHall : NdefX.NScope N_xi_InvalidHall ["self", "part", "index"] ["__class__"] (defScope s_xi_InvalidHall) := NdefX.nscope_by (by decide +kernel)
abbrev s_is_integer_within : Stmt := top 18
abbrev N_is_integer_within : List Str := ["value", "low", "high"]
theorem sc_is_integer_within : FnScope N_is_integer_within ["value", "low", "high"] (defScope s_is_integer_within) := ⟨rfl, rfl, rfl, by decide +kernel, rfl, by decide +kernel, by decide +kernel⟩
abbrev s_check_tick : Stmt := top 19
abbrev N_check_tick : List Str := ["tick"]
theorem sc_check_tick : FnScope N_check_tick ["tick"] (defScope s_check_tick) := ⟨rfl, rfl, rfl, by decide +kernel, rfl, by decide +kernel, by decide +kernel⟩
abbrev s_first_invalid_item : Stmt := top 35
abbrev N_first_invalid_item : List Str := ["pattern", "index", "item"]
theorem sc_first_invalid_item : FnScope N_first_invalid_item ["pattern"] (defScope s_first_invalid_item) := ⟨rfl, rfl, rfl, by decide +kernel, rfl, by decide +kernel, by decide +kernel⟩
abbrev s_check_pattern : Stmt := top 36
abbrev N_check_pattern : List Str := ["part", "pattern", "index"]
theorem sc_check_pattern : FnScope N_check_pattern ["part", "pattern"] (defScope s_check_pattern) := ⟨rfl, rfl, rfl, by decide +kernel, rfl, by decide +kernel, by decide +kernel⟩
abbrev s_check_hall : Stmt := top 37
abbrev N_check_hall : List Str := ["modulus", "takes", "calls", "lateness"]
theorem sc_check_hall : FnScope N_check_hall ["modulus", "takes", "calls", "lateness"] (defScope s_check_hall) := ⟨rfl, rfl, rfl, by decide +kernel, rfl, by decide +kernel, by decide +kernel⟩
abbrev s_count_calls : Stmt := top 38
abbrev N_count_calls : List Str := ["takes", "calls", "ticks", "called", "waiting", "tick", "now"]
theorem sc_count_calls : FnScope N_count_calls ["takes", "calls", "ticks"] (defScope s_count_calls) := ⟨rfl, rfl, rfl, by decide +kernel, rfl, by decide +kernel, by decide +kernel⟩
abbrev s_init : Stmt := inClass (top 39) 0
abbrev N_init : List Str := ["self", "modulus", "takes", "calls", "lateness"]
theorem sc_init : FnScope N_init ["self", "modulus", "takes", "calls", "lateness"] (defScope s_init) := ⟨rfl, rfl, rfl, by decide +kernel, rfl, by decide +kernel, by decide +kernel⟩
abbrev s_period : Stmt := inClass (top 39) 1
abbrev N_period : List Str := ["self"]
theorem sc_period : FnScope N_period ["self"] (defScope s_period) := ⟨rfl, rfl, rfl, by decide +kernel, rfl, by decide +kernel, by decide +kernel⟩
abbrev s_growth : Stmt := inClass (top 39) 2
abbrev N_growth : List Str := ["self"]
theorem sc_growth : FnScope N_growth ["self"] (defScope s_growth) := ⟨rfl, rfl, rfl, by decide +kernel, rfl, by decide +kernel, by decide +kernel⟩
abbrev s_taken : Stmt := inClass (top 39) 3
abbrev N_taken : List Str := ["self", "tick", "rounds", "rest"]
theorem sc_taken : FnScope N_taken ["self", "tick"] (defScope s_taken) := ⟨rfl, rfl, rfl, by decide +kernel, rfl, by decide +kernel, by decide +kernel⟩
abbrev s_called : Stmt := inClass (top 39) 4
abbrev N_called : List Str := ["self", "tick", "period", "skipped", "in_period"]
theorem sc_called : FnScope N_called ["self", "tick"] (defScope s_called) := ⟨rfl, rfl, rfl, by decide +kernel, rfl, by decide +kernel, by decide +kernel⟩
abbrev s_waiting : Stmt := inClass (top 39) 5
abbrev N_waiting : List Str := ["self", "tick"]
theorem sc_waiting : FnScope N_waiting ["self", "tick"] (defScope s_waiting) := ⟨rfl, rfl, rfl, by decide +kernel, rfl, by decide +kernel, by decide +kernel⟩
abbrev s__law_random : Stmt := top 41
abbrev N__law_random : List Str := ["_law_script", "_law_salt", "_law_seed", "_law_cell"]
theorem sc__law_random : FnScope N__law_random ["_law_script", "_law_salt"] (defScope s__law_random) := ⟨rfl, rfl, rfl, by decide +kernel, rfl, by decide +kernel, by decide +kernel⟩
abbrev s__law_below : Stmt := top 42
abbrev N__law_below : List Str := ["_law_d", "_law_limit", "_law_result"]
theorem sc__law_below : FnScope N__law_below ["_law_d", "_law_limit"] (defScope s__law_below) := ⟨rfl, rfl, rfl, by decide +kernel, rfl, by decide +kernel, by decide +kernel⟩
abbrev s__law_pattern : Stmt := top 43
abbrev N__law_pattern : List Str := ["_law_d", "_law_most", "_law_high", "_law_k"]
theorem sc__law_pattern : FnScope N__law_pattern ["_law_d", "_law_most"] (defScope s__law_pattern) := ⟨rfl, rfl, rfl, by decide +kernel, rfl, by decide +kernel, by decide +kernel⟩
abbrev s__law_parts : Stmt := top 44
abbrev N__law_parts : List Str := ["_law_d", "_law_most", "_law_modulus", "_law_lateness"]
theorem sc__law_parts : FnScope N__law_parts ["_law_d", "_law_most"] (defScope s__law_parts) := ⟨rfl, rfl, rfl, by decide +kernel, rfl, by decide +kernel, by decide +kernel⟩
abbrev s__law_hall : Stmt := top 45
abbrev N__law_hall : List Str := ["_law_parts_here"]
theorem sc__law_hall : FnScope N__law_hall ["_law_parts_here"] (defScope s__law_hall) := ⟨rfl, rfl, rfl, by decide +kernel, rfl, by decide +kernel, by decide +kernel⟩
abbrev s__law_error_of : Stmt := top 46
abbrev N__law_error_of : List Str := ["_law_call", "e", "_law_kinds", "_law_names", "_law_name"]
theorem sc__law_error_of : FnScope N__law_error_of ["_law_call"] (defScope s__law_error_of) := ⟨rfl, rfl, rfl, by decide +kernel, rfl, by decide +kernel, by decide +kernel⟩
abbrev s__law_all_raise : Stmt := top 47
abbrev N__law_all_raise : List Str := ["_law_calls", "_law_expected", "_law_call"]
theorem sc__law_all_raise : FnScope N__law_all_raise ["_law_calls", "_law_expected"] (defScope s__law_all_raise) := ⟨rfl, rfl, rfl, by decide +kernel, rfl, by decide +kernel, by decide +kernel⟩
abbrev s_law : Stmt := top 48
abbrev N_law : List Str := ["_law_script", "_law_d", "_law_good", "_law_part", "_law_large", "_law_odd", "_law_bad", "_law_index", "_law_at", "_law_wrong", "_law_cases", "_law_name", "_law_calls", "_law_largest", "_law_later", "_law_parts_here", "_law_k"]
theorem sc_law : FnScope N_law ["_law_script"] (defScope s_law) := ⟨rfl, rfl, rfl, by decide +kernel, rfl, by decide +kernel, by decide +kernel⟩
structure Txt (K : PySem.W.Frag) (mg : Str → Option Value) : Prop where
  g_ValueError : mg "ValueError" = none
  g_abs : mg "abs" = none
  g_bool : mg "bool" = none
  g_divmod : mg "divmod" = none
  g_enumerate : mg "enumerate" = none
  g_int : mg "int" = none
  g_isinstance : mg "isinstance" = none
  g_len : mg "len" = none
  g_list : mg "list" = none
  g_max : mg "max" = none
  g_min : mg "min" = none
  g_range : mg "range" = none
  g_sum : mg "sum" = none
  g_super : mg "super" = none
  g_tuple : mg "tuple" = none
  g_lcm : mg "lcm" = some (.builtin "math.lcm")
  c_LAST_TICK : ∃ t, mg "LAST_TICK" = some (.int 1000000000000000000 t)
  c_LEAST_MODULUS : ∃ t, mg "LEAST_MODULUS" = some (.int 2 t)
  c_GREATEST_MODULUS : ∃ t, mg "GREATEST_MODULUS" = some (.int 10000 t)
  c_MOST_ITEMS : ∃ t, mg "MOST_ITEMS" = some (.int 12 t)
  c_GREATEST_ITEM : ∃ t, mg "GREATEST_ITEM" = some (.int 9 t)
  c_GREATEST_LATENESS : ∃ t, mg "GREATEST_LATENESS" = some (.int 99 t)
  g_is_integer_within : mg "is_integer_within" = some (.ref (He.ga K "is_integer_within"))
  g_check_tick : mg "check_tick" = some (.ref (He.ga K "check_tick"))
  g_first_invalid_item : mg "first_invalid_item" = some (.ref (He.ga K "first_invalid_item"))
  g_check_pattern : mg "check_pattern" = some (.ref (He.ga K "check_pattern"))
  g_check_hall : mg "check_hall" = some (.ref (He.ga K "check_hall"))
  g_count_calls : mg "count_calls" = some (.ref (He.ga K "count_calls"))
  g__law_random : mg "_law_random" = some (.ref (He.ga K "_law_random"))
  g__law_below : mg "_law_below" = some (.ref (He.ga K "_law_below"))
  g__law_pattern : mg "_law_pattern" = some (.ref (He.ga K "_law_pattern"))
  g__law_parts : mg "_law_parts" = some (.ref (He.ga K "_law_parts"))
  g__law_hall : mg "_law_hall" = some (.ref (He.ga K "_law_hall"))
  g__law_error_of : mg "_law_error_of" = some (.ref (He.ga K "_law_error_of"))
  g__law_all_raise : mg "_law_all_raise" = some (.ref (He.ga K "_law_all_raise"))
  g_Hall : mg "Hall" = some (.ref (He.ga K "Hall"))
  cl_Hall : Cls K (He.ga K "Hall")
  mk_Hall : Mk K (He.ga K "Hall") (He.ma K (He.ga K "Hall") "__init__")
  n_modulus : NoAttr K (He.ga K "Hall") "modulus"
  n_takes : NoAttr K (He.ga K "Hall") "takes"
  n_calls : NoAttr K (He.ga K "Hall") "calls"
  n_lateness : NoAttr K (He.ga K "Hall") "lateness"
  n__called : NoAttr K (He.ga K "Hall") "_called"
  p_period : PropOf K (He.ga K "Hall") "period" (propAt K (He.ga K "Hall") "period") (getAt K (He.ga K "Hall") "period")
  p_growth : PropOf K (He.ga K "Hall") "growth" (propAt K (He.ga K "Hall") "growth") (getAt K (He.ga K "Hall") "growth")
  m_taken : Meth K (He.ga K "Hall") "taken" (He.ma K (He.ga K "Hall") "taken")
  m_called : Meth K (He.ga K "Hall") "called" (He.ma K (He.ga K "Hall") "called")
  m_waiting : Meth K (He.ga K "Hall") "waiting" (He.ma K (He.ga K "Hall") "waiting")
  g_HallError : mg "HallError" = some (.ref (He.ga K "HallError"))
  g_InvalidHall : mg "InvalidHall" = some (.ref (He.ga K "InvalidHall"))
  e_InvalidHall : PySem.W.exmOne K (.ref (He.ga K "InvalidHall")) (.ref (He.ga K "HallError")) = some true
  i_InvalidHall : Ex.IsX K (He.ga K "InvalidHall")
  x_InvalidHall : Ex.SupX K "InvalidHall" ["part", "index"]
  g_InvalidTick : mg "InvalidTick" = some (.ref (He.ga K "InvalidTick"))
  e_InvalidTick : PySem.W.exmOne K (.ref (He.ga K "InvalidTick")) (.ref (He.ga K "HallError")) = some true
  i_InvalidTick : Ex.IsX K (He.ga K "InvalidTick")
  x_InvalidTick : PySem.W.excIn K (He.ga K "InvalidTick") He.veBase "ValueError.__new__" = true ∧ PySem.W.keepIn K (.ref (He.ga K "InvalidTick")) = true ∧ PySem.W.subIn K (.ref (He.ga K "InvalidTick")) (.type "BaseException") = some true ∧ PySem.W.typeIn K (.ref (He.ga K "InvalidTick")) = some (.type "type")
  g_InvalidNumber : mg "InvalidNumber" = some (.ref (He.ga K "InvalidNumber"))
  e_InvalidNumber : PySem.W.exmOne K (.ref (He.ga K "InvalidNumber")) (.ref (He.ga K "HallError")) = some true
  i_InvalidNumber : Ex.IsX K (He.ga K "InvalidNumber")
  x_InvalidNumber : PySem.W.excIn K (He.ga K "InvalidNumber") He.veBase "ValueError.__new__" = true ∧ PySem.W.keepIn K (.ref (He.ga K "InvalidNumber")) = true ∧ PySem.W.subIn K (.ref (He.ga K "InvalidNumber")) (.type "BaseException") = some true ∧ PySem.W.typeIn K (.ref (He.ga K "InvalidNumber")) = some (.type "type")
  g_InvalidDigits : mg "InvalidDigits" = some (.ref (He.ga K "InvalidDigits"))
  e_InvalidDigits : PySem.W.exmOne K (.ref (He.ga K "InvalidDigits")) (.ref (He.ga K "HallError")) = some true
  i_InvalidDigits : Ex.IsX K (He.ga K "InvalidDigits")
  x_InvalidDigits : PySem.W.excIn K (He.ga K "InvalidDigits") He.veBase "ValueError.__new__" = true ∧ PySem.W.keepIn K (.ref (He.ga K "InvalidDigits")) = true ∧ PySem.W.subIn K (.ref (He.ga K "InvalidDigits")) (.type "BaseException") = some true ∧ PySem.W.typeIn K (.ref (He.ga K "InvalidDigits")) = some (.type "type")
  g_TooMany : mg "TooMany" = some (.ref (He.ga K "TooMany"))
  e_TooMany : PySem.W.exmOne K (.ref (He.ga K "TooMany")) (.ref (He.ga K "HallError")) = some true
  i_TooMany : Ex.IsX K (He.ga K "TooMany")
  x_TooMany : PySem.W.excIn K (He.ga K "TooMany") He.veBase "ValueError.__new__" = true ∧ PySem.W.keepIn K (.ref (He.ga K "TooMany")) = true ∧ PySem.W.subIn K (.ref (He.ga K "TooMany")) (.type "BaseException") = some true ∧ PySem.W.typeIn K (.ref (He.ga K "TooMany")) = some (.type "type")
  g_InvalidLimit : mg "InvalidLimit" = some (.ref (He.ga K "InvalidLimit"))
  e_InvalidLimit : PySem.W.exmOne K (.ref (He.ga K "InvalidLimit")) (.ref (He.ga K "HallError")) = some true
  i_InvalidLimit : Ex.IsX K (He.ga K "InvalidLimit")
  x_InvalidLimit : PySem.W.excIn K (He.ga K "InvalidLimit") He.veBase "ValueError.__new__" = true ∧ PySem.W.keepIn K (.ref (He.ga K "InvalidLimit")) = true ∧ PySem.W.subIn K (.ref (He.ga K "InvalidLimit")) (.type "BaseException") = some true ∧ PySem.W.typeIn K (.ref (He.ga K "InvalidLimit")) = some (.type "type")
  g_Contradiction : mg "Contradiction" = some (.ref (He.ga K "Contradiction"))
  e_Contradiction : PySem.W.exmOne K (.ref (He.ga K "Contradiction")) (.ref (He.ga K "HallError")) = some true
  i_Contradiction : Ex.IsX K (He.ga K "Contradiction")
  x_Contradiction : PySem.W.excIn K (He.ga K "Contradiction") He.veBase "ValueError.__new__" = true ∧ PySem.W.keepIn K (.ref (He.ga K "Contradiction")) = true ∧ PySem.W.subIn K (.ref (He.ga K "Contradiction")) (.type "BaseException") = some true ∧ PySem.W.typeIn K (.ref (He.ga K "Contradiction")) = some (.type "type")
  g_TextFault : mg "TextFault" = some (.ref (He.ga K "TextFault"))
  e_TextFault : PySem.W.exmOne K (.ref (He.ga K "TextFault")) (.ref (He.ga K "HallError")) = some true
  i_TextFault : Ex.IsX K (He.ga K "TextFault")
  x_TextFault : Ex.SupX K "TextFault" ["line"]
  g_InvalidCode : mg "InvalidCode" = some (.ref (He.ga K "InvalidCode"))
  e_InvalidCode : PySem.W.exmOne K (.ref (He.ga K "InvalidCode")) (.ref (He.ga K "HallError")) = some true
  i_InvalidCode : Ex.IsX K (He.ga K "InvalidCode")
  x_InvalidCode : Ex.SupX K "InvalidCode" ["place"]
  g_InvalidName : mg "InvalidName" = some (.ref (He.ga K "InvalidName"))
  e_InvalidName : PySem.W.exmOne K (.ref (He.ga K "InvalidName")) (.ref (He.ga K "HallError")) = some true
  i_InvalidName : Ex.IsX K (He.ga K "InvalidName")
  x_InvalidName : PySem.W.excIn K (He.ga K "InvalidName") He.veBase "ValueError.__new__" = true ∧ PySem.W.keepIn K (.ref (He.ga K "InvalidName")) = true ∧ PySem.W.subIn K (.ref (He.ga K "InvalidName")) (.type "BaseException") = some true ∧ PySem.W.typeIn K (.ref (He.ga K "InvalidName")) = some (.type "type")
  g_UnknownName : mg "UnknownName" = some (.ref (He.ga K "UnknownName"))
  e_UnknownName : PySem.W.exmOne K (.ref (He.ga K "UnknownName")) (.ref (He.ga K "HallError")) = some true
  i_UnknownName : Ex.IsX K (He.ga K "UnknownName")
  x_UnknownName : PySem.W.excIn K (He.ga K "UnknownName") He.veBase "ValueError.__new__" = true ∧ PySem.W.keepIn K (.ref (He.ga K "UnknownName")) = true ∧ PySem.W.subIn K (.ref (He.ga K "UnknownName")) (.type "BaseException") = some true ∧ PySem.W.typeIn K (.ref (He.ga K "UnknownName")) = some (.type "type")
  g_InvalidOperation : mg "InvalidOperation" = some (.ref (He.ga K "InvalidOperation"))
  e_InvalidOperation : PySem.W.exmOne K (.ref (He.ga K "InvalidOperation")) (.ref (He.ga K "HallError")) = some true
  i_InvalidOperation : Ex.IsX K (He.ga K "InvalidOperation")
  x_InvalidOperation : Ex.SupX K "InvalidOperation" ["place"]
  kit : Ex.KitX ["InvalidHall", "InvalidTick", "InvalidNumber", "InvalidDigits", "TooMany", "InvalidLimit", "Contradiction", "TextFault", "InvalidCode", "InvalidName", "UnknownName", "InvalidOperation"] K
  f_xi_InvalidHall : Ex.InitAt K (He.ma K (He.ga K "InvalidHall") "__init__") (He.ga K "InvalidHall") "InvalidHall.__init__" (defArgs s_xi_InvalidHall) (defBody s_xi_InvalidHall) (defScope s_xi_InvalidHall) "/claim/cut.py"
  f_is_integer_within : ∃ fd, FnP K "is_integer_within" "is_integer_within" s_is_integer_within (He.ga K "is_integer_within") fd
  f_check_tick : ∃ fd, FnP K "check_tick" "check_tick" s_check_tick (He.ga K "check_tick") fd
  f_first_invalid_item : ∃ fd, FnP K "first_invalid_item" "first_invalid_item" s_first_invalid_item (He.ga K "first_invalid_item") fd
  f_check_pattern : ∃ fd, FnP K "check_pattern" "check_pattern" s_check_pattern (He.ga K "check_pattern") fd
  f_check_hall : ∃ fd, FnP K "check_hall" "check_hall" s_check_hall (He.ga K "check_hall") fd
  f_count_calls : ∃ fd, FnP K "count_calls" "count_calls" s_count_calls (He.ga K "count_calls") fd
  f_init : ∃ fd, FnP K "__init__" "Hall.__init__" s_init (He.ma K (He.ga K "Hall") "__init__") fd
  f_period : ∃ fd, FnP K "period" "Hall.period" s_period (getAt K (He.ga K "Hall") "period") fd
  f_growth : ∃ fd, FnP K "growth" "Hall.growth" s_growth (getAt K (He.ga K "Hall") "growth") fd
  f_taken : ∃ fd, FnP K "taken" "Hall.taken" s_taken (He.ma K (He.ga K "Hall") "taken") fd
  f_called : ∃ fd, FnP K "called" "Hall.called" s_called (He.ma K (He.ga K "Hall") "called") fd
  f_waiting : ∃ fd, FnP K "waiting" "Hall.waiting" s_waiting (He.ma K (He.ga K "Hall") "waiting") fd
  f__law_random : ∃ fd, FnP K "_law_random" "_law_random" s__law_random (He.ga K "_law_random") fd
  f__law_below : ∃ fd, FnP K "_law_below" "_law_below" s__law_below (He.ga K "_law_below") fd
  f__law_pattern : ∃ fd, FnP K "_law_pattern" "_law_pattern" s__law_pattern (He.ga K "_law_pattern") fd
  f__law_parts : ∃ fd, FnP K "_law_parts" "_law_parts" s__law_parts (He.ga K "_law_parts") fd
  f__law_hall : ∃ fd, FnP K "_law_hall" "_law_hall" s__law_hall (He.ga K "_law_hall") fd
  f__law_error_of : ∃ fd, FnP K "_law_error_of" "_law_error_of" s__law_error_of (He.ga K "_law_error_of") fd
  f__law_all_raise : ∃ fd, FnP K "_law_all_raise" "_law_all_raise" s__law_all_raise (He.ga K "_law_all_raise") fd
def fcts : List (PySem.W.Frag → Bool) := [fcB (.free "ValueError"), fcB (.free "abs"), fcB (.free "bool"), fcB (.free "divmod"), fcB (.free "enumerate"), fcB (.free "int"), fcB (.free "isinstance"), fcB (.free "len"), fcB (.free "list"), fcB (.free "max"), fcB (.free "min"), fcB (.free "range"), fcB (.free "sum"), fcB (.free "super"), fcB (.free "tuple"), bltB "lcm" "math.lcm", fcB (.int "LAST_TICK" 1000000000000000000), fcB (.int "LEAST_MODULUS" 2), fcB (.int "GREATEST_MODULUS" 10000), fcB (.int "MOST_ITEMS" 12), fcB (.int "GREATEST_ITEM" 9), fcB (.int "GREATEST_LATENESS" 99), fcB (.glo "is_integer_within"), fcB (.glo "check_tick"), fcB (.glo "first_invalid_item"), fcB (.glo "check_pattern"), fcB (.glo "check_hall"), fcB (.glo "count_calls"), fcB (.glo "_law_random"), fcB (.glo "_law_below"), fcB (.glo "_law_pattern"), fcB (.glo "_law_parts"), fcB (.glo "_law_hall"), fcB (.glo "_law_error_of"), fcB (.glo "_law_all_raise"), fcB (.glo "Hall"), fcB (.cls "Hall"), fcB (.mkr "Hall"), fcB (.noat "Hall" "modulus"), fcB (.noat "Hall" "takes"), fcB (.noat "Hall" "calls"), fcB (.noat "Hall" "lateness"), fcB (.noat "Hall" "_called"), (fun K => propB K (He.ga K "Hall") "period"), (fun K => propB K (He.ga K "Hall") "growth"), fcB (.meth "Hall" "taken"), fcB (.meth "Hall" "called"), fcB (.meth "Hall" "waiting"), fcB (.glo "HallError"), fcB (.glo "InvalidHall"), fcB (.exm "InvalidHall" "HallError" true), Ex.isB "InvalidHall", Ex.supB "InvalidHall" ["part", "index"], fcB (.glo "InvalidTick"), fcB (.exm "InvalidTick" "HallError" true), Ex.isB "InvalidTick", fcB (.exc "InvalidTick"), fcB (.glo "InvalidNumber"), fcB (.exm "InvalidNumber" "HallError" true), Ex.isB "InvalidNumber", fcB (.exc "InvalidNumber"), fcB (.glo "InvalidDigits"), fcB (.exm "InvalidDigits" "HallError" true), Ex.isB "InvalidDigits", fcB (.exc "InvalidDigits"), fcB (.glo "TooMany"), fcB (.exm "TooMany" "HallError" true), Ex.isB "TooMany", fcB (.exc "TooMany"), fcB (.glo "InvalidLimit"), fcB (.exm "InvalidLimit" "HallError" true), Ex.isB "InvalidLimit", fcB (.exc "InvalidLimit"), fcB (.glo "Contradiction"), fcB (.exm "Contradiction" "HallError" true), Ex.isB "Contradiction", fcB (.exc "Contradiction"), fcB (.glo "TextFault"), fcB (.exm "TextFault" "HallError" true), Ex.isB "TextFault", Ex.supB "TextFault" ["line"], fcB (.glo "InvalidCode"), fcB (.exm "InvalidCode" "HallError" true), Ex.isB "InvalidCode", Ex.supB "InvalidCode" ["place"], fcB (.glo "InvalidName"), fcB (.exm "InvalidName" "HallError" true), Ex.isB "InvalidName", fcB (.exc "InvalidName"), fcB (.glo "UnknownName"), fcB (.exm "UnknownName" "HallError" true), Ex.isB "UnknownName", fcB (.exc "UnknownName"), fcB (.glo "InvalidOperation"), fcB (.exm "InvalidOperation" "HallError" true), Ex.isB "InvalidOperation", Ex.supB "InvalidOperation" ["place"], Ex.kitB ["InvalidHall", "InvalidTick", "InvalidNumber", "InvalidDigits", "TooMany", "InvalidLimit", "Contradiction", "TextFault", "InvalidCode", "InvalidName", "UnknownName", "InvalidOperation"], fcB (.glo "law")]
def lawF : Nat := 98
def dps : List Dp := [⟨fun K => (He.ma K (He.ga K "InvalidHall") "__init__"), ⟨("__init__", none), "__init__", "InvalidHall.__init__", defArgs s_xi_InvalidHall, defBody s_xi_InvalidHall, defScope s_xi_InvalidHall, [], []⟩, some ((fun K => He.ga K "InvalidHall"), "/claim/cut.py")⟩, ⟨fun K => (He.ga K "is_integer_within"), ⟨("is_integer_within", none), "is_integer_within", "is_integer_within", defArgs s_is_integer_within, defBody s_is_integer_within, defScope s_is_integer_within, [], []⟩, none⟩, ⟨fun K => (He.ga K "check_tick"), ⟨("check_tick", none), "check_tick", "check_tick", defArgs s_check_tick, defBody s_check_tick, defScope s_check_tick, [], []⟩, none⟩, ⟨fun K => (He.ga K "first_invalid_item"), ⟨("first_invalid_item", none), "first_invalid_item", "first_invalid_item", defArgs s_first_invalid_item, defBody s_first_invalid_item, defScope s_first_invalid_item, [], []⟩, none⟩, ⟨fun K => (He.ga K "check_pattern"), ⟨("check_pattern", none), "check_pattern", "check_pattern", defArgs s_check_pattern, defBody s_check_pattern, defScope s_check_pattern, [], []⟩, none⟩, ⟨fun K => (He.ga K "check_hall"), ⟨("check_hall", none), "check_hall", "check_hall", defArgs s_check_hall, defBody s_check_hall, defScope s_check_hall, [], []⟩, none⟩, ⟨fun K => (He.ga K "count_calls"), ⟨("count_calls", none), "count_calls", "count_calls", defArgs s_count_calls, defBody s_count_calls, defScope s_count_calls, [], []⟩, none⟩, ⟨fun K => (He.ma K (He.ga K "Hall") "__init__"), ⟨("__init__", none), "__init__", "Hall.__init__", defArgs s_init, defBody s_init, defScope s_init, [], []⟩, none⟩, ⟨fun K => (getAt K (He.ga K "Hall") "period"), ⟨("period", none), "period", "Hall.period", defArgs s_period, defBody s_period, defScope s_period, [], []⟩, none⟩, ⟨fun K => (getAt K (He.ga K "Hall") "growth"), ⟨("growth", none), "growth", "Hall.growth", defArgs s_growth, defBody s_growth, defScope s_growth, [], []⟩, none⟩, ⟨fun K => (He.ma K (He.ga K "Hall") "taken"), ⟨("taken", none), "taken", "Hall.taken", defArgs s_taken, defBody s_taken, defScope s_taken, [], []⟩, none⟩, ⟨fun K => (He.ma K (He.ga K "Hall") "called"), ⟨("called", none), "called", "Hall.called", defArgs s_called, defBody s_called, defScope s_called, [], []⟩, none⟩, ⟨fun K => (He.ma K (He.ga K "Hall") "waiting"), ⟨("waiting", none), "waiting", "Hall.waiting", defArgs s_waiting, defBody s_waiting, defScope s_waiting, [], []⟩, none⟩, ⟨fun K => (He.ga K "_law_random"), ⟨("_law_random", none), "_law_random", "_law_random", defArgs s__law_random, defBody s__law_random, defScope s__law_random, [], []⟩, none⟩, ⟨fun K => (He.ga K "_law_below"), ⟨("_law_below", none), "_law_below", "_law_below", defArgs s__law_below, defBody s__law_below, defScope s__law_below, [], []⟩, none⟩, ⟨fun K => (He.ga K "_law_pattern"), ⟨("_law_pattern", none), "_law_pattern", "_law_pattern", defArgs s__law_pattern, defBody s__law_pattern, defScope s__law_pattern, [], []⟩, none⟩, ⟨fun K => (He.ga K "_law_parts"), ⟨("_law_parts", none), "_law_parts", "_law_parts", defArgs s__law_parts, defBody s__law_parts, defScope s__law_parts, [], []⟩, none⟩, ⟨fun K => (He.ga K "_law_hall"), ⟨("_law_hall", none), "_law_hall", "_law_hall", defArgs s__law_hall, defBody s__law_hall, defScope s__law_hall, [], []⟩, none⟩, ⟨fun K => (He.ga K "_law_error_of"), ⟨("_law_error_of", none), "_law_error_of", "_law_error_of", defArgs s__law_error_of, defBody s__law_error_of, defScope s__law_error_of, [], []⟩, none⟩, ⟨fun K => (He.ga K "_law_all_raise"), ⟨("_law_all_raise", none), "_law_all_raise", "_law_all_raise", defArgs s__law_all_raise, defBody s__law_all_raise, defScope s__law_all_raise, [], []⟩, none⟩, ⟨fun K => (He.ga K "law"), ⟨("law", none), "law", "law", defArgs s_law, defBody s_law, defScope s_law, [], []⟩, none⟩]
def names : List PySem.Str := (["_wall", "HallError", "InvalidHall", "InvalidTick", "InvalidNumber", "InvalidDigits", "TooMany", "InvalidLimit", "Contradiction", "TextFault", "InvalidCode", "InvalidName"] : List PySem.Str) ++ (["UnknownName", "InvalidOperation", "LAST_TICK", "is_integer_within", "check_tick", "HALL_WORDS", "ONE_NUMBER_WORDS", "BARE_WORDS", "MOST_DIGITS", "write_line", "is_number", "read_line"] : List PySem.Str) ++ (["read_hall_lines", "LEAST_MODULUS", "GREATEST_MODULUS", "MOST_ITEMS", "GREATEST_ITEM", "GREATEST_LATENESS", "first_invalid_item", "check_pattern", "check_hall", "count_calls", "Hall", "_law_random"] : List PySem.Str) ++ (["_law_below", "_law_pattern", "_law_parts", "_law_hall", "_law_error_of", "_law_all_raise"] : List PySem.Str)
abbrev R : PySem.W.OpenRow := PySem.W.OpenLaw.row PySem.Challenge.rw_ticketwrap_k03_invalid_halls
def mkl : List (Mk_ × Str) := [(fun K => (He.ga K "law"), "law")]
abbrev mks : List Mk_ := mkl.map fun p => p.1
abbrev hk : PySem.W.Hook := hook 6 fcts dps mks
def ob (s : PySem.W.SharedT) : AlX := obsG 6 fcts dps mks (HeadRun.getT s)
theorem ob_eq (s : PySem.W.SharedT) : ob s = hk.obs s.abs := obsG_eq (HeadRun.getT_eq s)
def lawI : Nat := 48
end Tk
namespace Tk
open PySem PySem.Spec PyProof.Rows L2
theorem o_map5 {α β γ δ ζ ε : Type} {W : Option α} {f : α → β} {g : α → γ} {h : α → (δ × ζ) × ε} {a : β} {b : γ} {c : (δ × ζ) × ε} (A : W.map f = some a) (B : W.map g = some b) (C : W.map (fun x => (h x).1.1) = some c.1.1) (C2 : W.map (fun x => (h x).1.2) = some c.1.2) (D : W.map (fun x => (h x).2) = some c.2) : W.map (fun x => (f x, g x, h x)) = some (a, b, c) := by
  cases W with
  | none => cases A
  | some x => exact congrArg some (Prod.ext (Option.some.inj A) (Prod.ext (Option.some.inj B) (Prod.ext (Prod.ext (Option.some.inj C) (Option.some.inj C2)) (Option.some.inj D))))
theorem runA (w : World) : (HeadRun.wholeF (fun p => HeadRun.stepQ (HeadRun.denQ HeadRun.tabQ) p w) HeadRun.fenceQ 20000 R.prog).map (fun x => HeadRun.looksF R.prog x.1.heap x.2.abs) = some true := by kernel_rfl
theorem runB (w : World) : (HeadRun.wholeF (fun p => HeadRun.stepQ (HeadRun.denQ HeadRun.tabQ) p w) HeadRun.fenceQ 20000 R.prog).map (fun x => HeadRun.seenQ (PySem.W.view R.prog [0, 48]) names (PySem.importedModules R.prog.main.body) (fun s => PySem.W.xlAt (PySem.W.view R.prog [0, 48]) [] s && PySem.W.recOk R.toRowW.records s) x.2.abs) = some (PySem.W.openGood (PySem.W.view R.prog [0, 48]) names) := by kernel_rfl
theorem runC1 (w : World) : (HeadRun.wholeF (fun p => HeadRun.stepQ (HeadRun.denQ HeadRun.tabQ) p w) HeadRun.fenceQ 20000 R.prog).map (fun x => (fcts.take 49).all fun f => f (He.frT (HeadRun.getT x.2) (asX (HeadRun.getT x.2) 6))) = some true := by kernel_rfl
theorem runC2 (w : World) : (HeadRun.wholeF (fun p => HeadRun.stepQ (HeadRun.denQ HeadRun.tabQ) p w) HeadRun.fenceQ 20000 R.prog).map (fun x => (fcts.drop 49).all fun f => f (He.frT (HeadRun.getT x.2) (asX (HeadRun.getT x.2) 6))) = some true := by kernel_rfl
theorem runC3 (w : World) : (HeadRun.wholeF (fun p => HeadRun.stepQ (HeadRun.denQ HeadRun.tabQ) p w) HeadRun.fenceQ 20000 R.prog).map (fun x => dps.all fun d => d.ok (He.frT (HeadRun.getT x.2) (asX (HeadRun.getT x.2) 6))) = some true := by kernel_rfl
theorem runE1 (w : World) : (HeadRun.wholeF (fun p => HeadRun.stepQ (HeadRun.denQ HeadRun.tabQ) p w) HeadRun.fenceQ 20000 R.prog).map (fun x => (dps.take 10).map fun d => d.look (He.frT (HeadRun.getT x.2) (asX (HeadRun.getT x.2) 6))) = some ((dps.take 10).map fun d => d.val) := by kernel_rfl
theorem runE2 (w : World) : (HeadRun.wholeF (fun p => HeadRun.stepQ (HeadRun.denQ HeadRun.tabQ) p w) HeadRun.fenceQ 20000 R.prog).map (fun x => (dps.drop 10).map fun d => d.look (He.frT (HeadRun.getT x.2) (asX (HeadRun.getT x.2) 6))) = some ((dps.drop 10).map fun d => d.val) := by kernel_rfl
theorem o_halvesC {α : Type} {W : Option α} {n : Nat} {g : α → PySem.W.Frag} (a : W.map (fun x => (fcts.take n).all fun f => f (g x)) = some true) (b : W.map (fun x => (fcts.drop n).all fun f => f (g x)) = some true) (c : W.map (fun x => dps.all fun d => d.ok (g x)) = some true) : W.map (fun x => (fcts.all fun f => f (g x)) && dps.all fun d => d.ok (g x)) = some true := by
  cases W with
  | none => cases a
  | some x =>
    have a : (fcts.take n).all (fun f => f (g x)) = true := Option.some.inj a
    have b : (fcts.drop n).all (fun f => f (g x)) = true := Option.some.inj b
    have c : dps.all (fun d => d.ok (g x)) = true := Option.some.inj c
    show some ((fcts.all fun f => f (g x)) && dps.all fun d => d.ok (g x)) = some true
    have e : fcts.all (fun f => f (g x)) = true := by rw [← List.take_append_drop n fcts, List.all_append, a, b]; rfl
    rw [e, c]; rfl
theorem o_halvesE {α : Type} {W : Option α} {n : Nat} {g : α → PySem.W.Frag} (a : W.map (fun x => (dps.take n).map fun d => d.look (g x)) = some ((dps.take n).map fun d => d.val)) (b : W.map (fun x => (dps.drop n).map fun d => d.look (g x)) = some ((dps.drop n).map fun d => d.val)) : W.map (fun x => (obsT fcts dps (g x)).2) = some (valT dps).2 := by
  cases W with
  | none => cases a
  | some x =>
    have a : (dps.take n).map (fun d => d.look (g x)) = (dps.take n).map fun d => d.val := Option.some.inj a
    have b : (dps.drop n).map (fun d => d.look (g x)) = (dps.drop n).map fun d => d.val := Option.some.inj b
    show some (dps.map fun d => d.look (g x)) = some (dps.map fun d => d.val)
    generalize dps = l at a b
    rw [← List.take_append_drop n l, List.map_append, List.map_append, a, b]
theorem runC (w : World) : (HeadRun.wholeF (fun p => HeadRun.stepQ (HeadRun.denQ HeadRun.tabQ) p w) HeadRun.fenceQ 20000 R.prog).map (fun x => (ob x.2).1.1) = some (hk.val w).1.1 := o_halvesC (runC1 w) (runC2 w) (runC3 w)
theorem ob_e (s : PySem.W.SharedT) : (ob s).1.2 = (obsT fcts dps (He.frT (HeadRun.getT s) (asX (HeadRun.getT s) 6))).2 := rfl
theorem hk_e (w : World) : (hk.val w).1.2 = (valT dps).2 := rfl
theorem runE (w : World) : (HeadRun.wholeF (fun p => HeadRun.stepQ (HeadRun.denQ HeadRun.tabQ) p w) HeadRun.fenceQ 20000 R.prog).map (fun x => (ob x.2).1.2) = some (hk.val w).1.2 := by
  rw [hk_e w]
  simp only [ob_e]
  have h1 := runE1 w
  have h2 := runE2 w
  generalize (HeadRun.wholeF (fun p => HeadRun.stepQ (HeadRun.denQ HeadRun.tabQ) p w) HeadRun.fenceQ 20000 R.prog) = W at h1 h2 ⊢
  exact o_halvesE (n := 10) h1 h2
theorem runD (w : World) : (HeadRun.wholeF (fun p => HeadRun.stepQ (HeadRun.denQ HeadRun.tabQ) p w) HeadRun.fenceQ 20000 R.prog).map (fun x => (ob x.2).2) = some (hk.val w).2 := by kernel_rfl
theorem run (w : World) : HeadRun.RunEqI R (PySem.W.view R.prog [0, 48]) hk ob 20000 names w := by
  unfold HeadRun.RunEqI
  exact o_map5 (runA w) (runB w) (runC w) (runE w) (runD w)
theorem txt {K : PySem.W.Frag} {h : Heap} {mg : Str → Option Value} (X : K.In h) (G : h.Ns mainGlobals mg) (c : Says fcts dps K) : Txt K mg where
  g_ValueError := He.free_ok X G (c.fact 0 rfl)
  g_abs := He.free_ok X G (c.fact 1 rfl)
  g_bool := He.free_ok X G (c.fact 2 rfl)
  g_divmod := He.free_ok X G (c.fact 3 rfl)
  g_enumerate := He.free_ok X G (c.fact 4 rfl)
  g_int := He.free_ok X G (c.fact 5 rfl)
  g_isinstance := He.free_ok X G (c.fact 6 rfl)
  g_len := He.free_ok X G (c.fact 7 rfl)
  g_list := He.free_ok X G (c.fact 8 rfl)
  g_max := He.free_ok X G (c.fact 9 rfl)
  g_min := He.free_ok X G (c.fact 10 rfl)
  g_range := He.free_ok X G (c.fact 11 rfl)
  g_sum := He.free_ok X G (c.fact 12 rfl)
  g_super := He.free_ok X G (c.fact 13 rfl)
  g_tuple := He.free_ok X G (c.fact 14 rfl)
  g_lcm := blt_ok X G (c.fact 15 rfl)
  c_LAST_TICK := He.int_ok X G (c.fact 16 rfl)
  c_LEAST_MODULUS := He.int_ok X G (c.fact 17 rfl)
  c_GREATEST_MODULUS := He.int_ok X G (c.fact 18 rfl)
  c_MOST_ITEMS := He.int_ok X G (c.fact 19 rfl)
  c_GREATEST_ITEM := He.int_ok X G (c.fact 20 rfl)
  c_GREATEST_LATENESS := He.int_ok X G (c.fact 21 rfl)
  g_is_integer_within := He.glo_ok X G (c.fact 22 rfl)
  g_check_tick := He.glo_ok X G (c.fact 23 rfl)
  g_first_invalid_item := He.glo_ok X G (c.fact 24 rfl)
  g_check_pattern := He.glo_ok X G (c.fact 25 rfl)
  g_check_hall := He.glo_ok X G (c.fact 26 rfl)
  g_count_calls := He.glo_ok X G (c.fact 27 rfl)
  g__law_random := He.glo_ok X G (c.fact 28 rfl)
  g__law_below := He.glo_ok X G (c.fact 29 rfl)
  g__law_pattern := He.glo_ok X G (c.fact 30 rfl)
  g__law_parts := He.glo_ok X G (c.fact 31 rfl)
  g__law_hall := He.glo_ok X G (c.fact 32 rfl)
  g__law_error_of := He.glo_ok X G (c.fact 33 rfl)
  g__law_all_raise := He.glo_ok X G (c.fact 34 rfl)
  g_Hall := He.glo_ok X G (c.fact 35 rfl)
  cl_Hall := He.cls_ok (c.fact 36 rfl)
  mk_Hall := He.mkr_ok (c.fact 37 rfl)
  n_modulus := He.noat_ok (c.fact 38 rfl)
  n_takes := He.noat_ok (c.fact 39 rfl)
  n_calls := He.noat_ok (c.fact 40 rfl)
  n_lateness := He.noat_ok (c.fact 41 rfl)
  n__called := He.noat_ok (c.fact 42 rfl)
  p_period := prop_ok (c.fact 43 rfl)
  p_growth := prop_ok (c.fact 44 rfl)
  m_taken := He.meth_ok (c.fact 45 rfl)
  m_called := He.meth_ok (c.fact 46 rfl)
  m_waiting := He.meth_ok (c.fact 47 rfl)
  g_HallError := He.glo_ok X G (c.fact 48 rfl)
  g_InvalidHall := He.glo_ok X G (c.fact 49 rfl)
  e_InvalidHall := He.exm_ok (c.fact 50 rfl)
  i_InvalidHall := Ex.isB_ok (c.fact 51 rfl)
  x_InvalidHall := Ex.supB_ok (c.fact 52 rfl)
  g_InvalidTick := He.glo_ok X G (c.fact 53 rfl)
  e_InvalidTick := He.exm_ok (c.fact 54 rfl)
  i_InvalidTick := Ex.isB_ok (c.fact 55 rfl)
  x_InvalidTick := He.exc_ok (c.fact 56 rfl)
  g_InvalidNumber := He.glo_ok X G (c.fact 57 rfl)
  e_InvalidNumber := He.exm_ok (c.fact 58 rfl)
  i_InvalidNumber := Ex.isB_ok (c.fact 59 rfl)
  x_InvalidNumber := He.exc_ok (c.fact 60 rfl)
  g_InvalidDigits := He.glo_ok X G (c.fact 61 rfl)
  e_InvalidDigits := He.exm_ok (c.fact 62 rfl)
  i_InvalidDigits := Ex.isB_ok (c.fact 63 rfl)
  x_InvalidDigits := He.exc_ok (c.fact 64 rfl)
  g_TooMany := He.glo_ok X G (c.fact 65 rfl)
  e_TooMany := He.exm_ok (c.fact 66 rfl)
  i_TooMany := Ex.isB_ok (c.fact 67 rfl)
  x_TooMany := He.exc_ok (c.fact 68 rfl)
  g_InvalidLimit := He.glo_ok X G (c.fact 69 rfl)
  e_InvalidLimit := He.exm_ok (c.fact 70 rfl)
  i_InvalidLimit := Ex.isB_ok (c.fact 71 rfl)
  x_InvalidLimit := He.exc_ok (c.fact 72 rfl)
  g_Contradiction := He.glo_ok X G (c.fact 73 rfl)
  e_Contradiction := He.exm_ok (c.fact 74 rfl)
  i_Contradiction := Ex.isB_ok (c.fact 75 rfl)
  x_Contradiction := He.exc_ok (c.fact 76 rfl)
  g_TextFault := He.glo_ok X G (c.fact 77 rfl)
  e_TextFault := He.exm_ok (c.fact 78 rfl)
  i_TextFault := Ex.isB_ok (c.fact 79 rfl)
  x_TextFault := Ex.supB_ok (c.fact 80 rfl)
  g_InvalidCode := He.glo_ok X G (c.fact 81 rfl)
  e_InvalidCode := He.exm_ok (c.fact 82 rfl)
  i_InvalidCode := Ex.isB_ok (c.fact 83 rfl)
  x_InvalidCode := Ex.supB_ok (c.fact 84 rfl)
  g_InvalidName := He.glo_ok X G (c.fact 85 rfl)
  e_InvalidName := He.exm_ok (c.fact 86 rfl)
  i_InvalidName := Ex.isB_ok (c.fact 87 rfl)
  x_InvalidName := He.exc_ok (c.fact 88 rfl)
  g_UnknownName := He.glo_ok X G (c.fact 89 rfl)
  e_UnknownName := He.exm_ok (c.fact 90 rfl)
  i_UnknownName := Ex.isB_ok (c.fact 91 rfl)
  x_UnknownName := He.exc_ok (c.fact 92 rfl)
  g_InvalidOperation := He.glo_ok X G (c.fact 93 rfl)
  e_InvalidOperation := He.exm_ok (c.fact 94 rfl)
  i_InvalidOperation := Ex.isB_ok (c.fact 95 rfl)
  x_InvalidOperation := Ex.supB_ok (c.fact 96 rfl)
  kit := Ex.kitB_ok (c.fact 97 rfl)
  f_xi_InvalidHall := c.init_ 0 rfl
  f_is_integer_within := (c.def_ 1 rfl).1
  f_check_tick := (c.def_ 2 rfl).1
  f_first_invalid_item := (c.def_ 3 rfl).1
  f_check_pattern := (c.def_ 4 rfl).1
  f_check_hall := (c.def_ 5 rfl).1
  f_count_calls := (c.def_ 6 rfl).1
  f_init := (c.def_ 7 rfl).1
  f_period := (c.def_ 8 rfl).1
  f_growth := (c.def_ 9 rfl).1
  f_taken := (c.def_ 10 rfl).1
  f_called := (c.def_ 11 rfl).1
  f_waiting := (c.def_ 12 rfl).1
  f__law_random := (c.def_ 13 rfl).1
  f__law_below := (c.def_ 14 rfl).1
  f__law_pattern := (c.def_ 15 rfl).1
  f__law_parts := (c.def_ 16 rfl).1
  f__law_hall := (c.def_ 17 rfl).1
  f__law_error_of := (c.def_ 18 rfl).1
  f__law_all_raise := (c.def_ 19 rfl).1
theorem law_fn {K : PySem.W.Frag} (c : Says fcts dps K) : ∃ fd, FnP K "law" "law" s_law (He.ga K "law") fd := (c.def_ 20 rfl).1
end Tk
/-! ### A lambda of one parameter, handed to a def with two more arguments -/
namespace Tk
open PySem PySem.Spec PyProof.Rows L2 LamX
/-- one parameter a, else captured names and globals -/
structure LamP (sc scope : Scope) (a : Str) : Prop where
  kd : scope.kind = .function
  co : scope.isCoroutine = false
  gen : scope.isGenerator = false
  par : scope.names.lookup a = some .local
  own : ∀ y ∈ scope.names, (y.2 = .local → y.1 = a) ∧ y.2 ≠ .cell
  fre : ∀ y ∈ scope.names, y.2 = .free → sc.names.lookup y.1 = some .cell ∨ sc.names.lookup y.1 = some .free
def lamPB (sc scope : Scope) (a : Str) : Bool :=
  decide (scope.kind = .function) && (!scope.isCoroutine && (!scope.isGenerator && (decide (scope.names.lookup a = some .local) && scope.names.all fun y => (!decide (y.2 = .local) || decide (y.1 = a)) && (!decide (y.2 = .cell) && (!decide (y.2 = .free) || (decide (sc.names.lookup y.1 = some .cell) || decide (sc.names.lookup y.1 = some .free)))))))
theorem lamP_by {sc scope : Scope} {a : Str} (h : lamPB sc scope a = true) : LamP sc scope a := by
  unfold lamPB at h
  simp only [Bool.and_eq_true, Bool.or_eq_true, Bool.not_eq_true', decide_eq_true_eq, decide_eq_false_iff_not, List.all_eq_true] at h
  obtain ⟨h1, h2, h3, h4, h5⟩ := h
  refine ⟨h1, h2, h3, h4, fun y hy => ⟨fun e => ?_, (h5 y hy).2.1⟩, fun y hy e => ?_⟩
  · rcases (h5 y hy).1 with z | z
    · exact absurd e z
    · exact z
  · rcases (h5 y hy).2.2 with z | z
    · exact absurd e z
    · exact z
/-- the context of its body: the maker's names, then the parameter -/
def lamCxP (X : Cx) (a : Str) (A : Around) (outer : List Env) (s : Shared) (H : Hp) (scope : Scope) (f c' : Addr) : Cx := { lamCx X A outer s H E0 scope f c' with N := X.N ++ [a] }
section
variable {X : Cx} {pins : List (Addr × Obj)} {σ : L2.St} {H HZ : Hp} {s s1 : Shared}
theorem lamP_start {a : Str} {y : V} {v : Value} {A : Around} {outer : List Env} {scope : Scope} {f c' : Addr} {h₁ : Heap} {tk : Nat} (I : Inv X pins σ H s) (L : LamP X.env.scope scope a) (hna : a ∉ X.N) (e0 : Env0 X.prog X.w X.K X.mg X.base A outer s1 HZ) (hd : A.handled = none)
    (un : Un (frs X.stack) [] H HZ s.heap s1.heap) (ry : RelV y v) (hns : h₁.Ns s1.heap.objs.size fun x => ([(a, v)] : List (Str × Value)).reverse.lookup x) (kp : ∀ b o, s1.heap.get? b = some o → h₁.get? b = some o) :
    Inv (lamCxP X a A outer s1 HZ scope f c') [] (σ ++ [some y]) HZ { s1 with heap := h₁, toks := tk } := by
  have frs0 : ∀ q ∈ scope.names, q.2 = .free → ∃ c, X.env.cells.lookup q.1 = some c := fun q hq e => (L.fre q hq e).elim (fun z => I.ok.has _ (.inl z)) fun z => I.ok.has _ (.inr z)
  have up : ∀ {q c}, (cloFrom X.env.cells scope.names []).lookup q = some c → X.env.cells.lookup q = some c := fun {q c} e => by
    rcases cloFrom_mem (PySem.mem_of_lookup e) with hm | ⟨z1, z2⟩
    · cases hm
    · obtain ⟨d, hdd⟩ := frs0 _ z1 rfl
      have hdd : X.env.cells.lookup q = some d := hdd
      have : c = d := by rw [z2, hdd] <;> rfl
      rw [this]
      exact hdd
  have has : ∀ {q}, scope.names.lookup q = some .free → ∃ c, (cloFrom X.env.cells scope.names []).lookup q = some c := fun {q} hl => mem_lookup (cloFrom_has (cells := X.env.cells) (acc := []) (PySem.mem_of_lookup hl))
  have cl : ∀ {c : Addr} {u : Option Value}, H c = none → s.heap.IsCell c u → h₁.IsCell c u := fun {c u} n ⟨o, ho, hdt⟩ => by
    obtain ⟨sl, z⟩ := un.any ho n (by simp)
    exact ⟨_, kp _ _ z, hdt⟩
  have none0 : ∀ b : Addr, b ∉ (lamCxP X a A outer s1 HZ scope f c').ex := fun b z => by cases (show b ∈ ([] : List Addr) from z)
  refine ⟨⟨e0.mod, L.kd, rfl, rfl, Nat.le_refl _, fun p q c e1 e2 => I.ok.inj p q c (up e1) (up e2), fun q hq => ?_, fun q c z _ => ?_, fun _ => hd, Around.frames_deeper e0.frames, .inr ⟨rfl, rfl⟩, fun b z => absurd z (none0 b), e0.bs, e0.bsz, fun b _ _ => none0 b,
      fun b z => absurd z (none0 b), e0.funs, e0.frf⟩,
    rfl, e0.bare, Un.kept kp, ⟨_, hns, fun i q u e1 e2 e3 => ?_⟩, fun q c e => ?_, e0.hok.fresh (Nat.le_refl _), fun q c e => ?_, fun q hq => absurd (show q ∈ ([] : List (Addr × Obj)) ++ [] from hq) (by simp), e0.hok.kept kp, ?_⟩
  · rcases (show scope.names.lookup q = some .cell ∨ scope.names.lookup q = some .free from hq) with z | z
    · exact absurd rfl (L.own _ (PySem.mem_of_lookup z)).2
    · exact has z
  · cases (show false = true from z)
  · have e1 : (X.N ++ [a])[i]? = some q := e1
    have e3 : Vis scope q := e3
    have hlen := I.len
    rcases Nat.lt_or_ge i X.N.length with lt | ge
    · rw [List.getElem?_append_left lt] at e1
      rw [List.getElem?_append_left (by rw [hlen]; exact lt)] at e2
      have qn : q ≠ a := fun z => hna (by rw [← z]; exact List.mem_of_getElem? e1)
      have kf : scope.names.lookup q = some .free := by
        rcases e3 with z | z | z
        · exact absurd ((L.own _ (PySem.mem_of_lookup z)).1 rfl) qn
        · exact absurd rfl (L.own _ (PySem.mem_of_lookup z)).2
        · exact z
      obtain ⟨m, _, hl⟩ := I.loc
      have vis : Vis X.env.scope q := (L.fre _ (PySem.mem_of_lookup kf) rfl).elim (fun z => .inr (.inl z)) fun z => .inr (.inr z)
      obtain ⟨w', r, z⟩ := hl i q u e1 e2 vis
      obtain ⟨d, hd2⟩ := has kf
      refine ⟨w', r, .inr ⟨.inr kf, d, hd2, ?_⟩⟩
      rcases z with ⟨z, _⟩ | ⟨_, c3, z1, z2⟩
      · have z : X.env.scope.names.lookup q = some .local := z
        rcases L.fre _ (PySem.mem_of_lookup kf) rfl with k2 | k2 <;> rw [show X.env.scope.names.lookup q = _ from k2] at z <;> cases z
      · rw [up hd2] at z1
        cases z1
        exact cl (I.freeC q _ (up hd2)) z2
    · have hi : i = X.N.length := by
        have := (List.getElem?_eq_some_iff.mp e1).1
        rw [List.length_append] at this
        have : i < X.N.length + 1 := this
        omega
      subst hi
      rw [List.getElem?_append_right (Nat.le_refl _), Nat.sub_self] at e1
      rw [List.getElem?_append_right (by rw [hlen]; exact Nat.le_refl _), hlen, Nat.sub_self] at e2
      obtain rfl : a = q := Option.some.inj e1
      have eu : some y = some u := Option.some.inj e2
      cases eu
      refine ⟨v, ry, .inl ⟨L.par, ?_⟩⟩
      show (match a == a with | true => some v | false => _) = some v
      rw [beq_self_eq_true]
  · obtain ⟨u, z⟩ := I.cell q c (up e)
    exact ⟨u, cl (I.freeC q c (up e)) z⟩
  · obtain ⟨u, o, ho, _⟩ := I.cell q c (up e)
    exact un.free c o ho (I.freeC q c (up e)) (by simp)
  · show (σ ++ [some y]).length = (X.N ++ [a]).length
    rw [List.length_append, List.length_append, I.len]
    rfl
/-- b(e), in the def that got the lambda -/
theorem pe_act1 {Eg : XK} {Ng : List Str} {qg : Str} {sg : Scope} {g f c' : Addr} {cdg pm ctv : Value} {params : Arguments} {body : Expr} {scope : Scope} {k i : Nat} {a b : Str} {tb : TE} {p1 p2 : Pos} {e : Expr} {te : TA}
    (I : Inv X pins σ H s) (L : LamP X.env.scope scope a) (hna : a ∉ X.N) (hf : s.heap.get? f = some (PySem.W.kla_obj "<lambda>" (X.env.qual ++ "<lambda>") params body scope (cloFrom X.env.cells scope.names []) pm c' ctv)) (hfn : H f = none) (hfr : f ∉ frs X.stack)
    (hbind : ∀ v, bindArgs (PySem.W.kla_fn "<lambda>" (X.env.qual ++ "<lambda>") params body scope (cloFrom X.env.cells scope.names []) pm (.ref c') ctv) ⟨[v], []⟩ = pure [(a, v)])
    (hr : Room (k + 1) (X.A.deeper (envOfC qg sg s.heap.objs.size g cdg))) (hbody : ∀ (A : Around) (outer : List Env) (s : Shared) (H : Hp), Room k (A.deeper (lamEnv X scope s.heap.objs.size f c')) → PE (lamCxP X a A outer s H scope f c') body tb)
    (hN : Ng[i]? = some b) (hv : Vis sg b) (ha : PA (cxOf (L2.CX X.prog X.w) X.prog X.w X.K X.mg X.base Ng qg sg g cdg X.A X.stack s H Eg) [e] te)
    (he : starEach [e] (cxOf (L2.CX X.prog X.w) X.prog X.w X.K X.mg X.base Ng qg sg g cdg X.A X.stack s H Eg).env = (false, eval e (cxOf (L2.CX X.prog X.w) X.prog X.w X.K X.mg X.base Ng qg sg g cdg X.A X.stack s H Eg).env) :: starEach [] (cxOf (L2.CX X.prog X.w) X.prog X.w X.K X.mg X.base Ng qg sg g cdg X.A X.stack s H Eg).env)
    (hd : (b == ("__debug__" : Str)) = false := by decide) (hcd : (b == ("__classdict__" : Str)) = false := by decide) :
    PE (cxOf (L2.CX X.prog X.w) X.prog X.w X.K X.mg X.base Ng qg sg g cdg X.A X.stack s H Eg) (.Call (.Name b p1) [e] [] p2)
      (fun σZ HZ Q => σZ[i]? = some (some (.ref f)) ∧ te σZ HZ fun vs HZ1 => ∃ y, vs = [y] ∧ HZ1 c' = some (CodeO c' (X.env.qual ++ "<lambda>")) ∧ tb (σ ++ [some y]) HZ1 Q) := by
  refine ⟨fun pinsZ sZ σZ HZ Q IZ h => ?_⟩
  obtain ⟨hs, ht⟩ := h
  refine wpAny_Call_Name_kw (thn ((pe_var (pos := p1) (i := i) hN hv hd hcd).run pinsZ sZ σZ HZ (fun v H1 => v = .ref f ∧ H1 = HZ) IZ ⟨.ref f, hs, rfl, rfl⟩) fun u0 s1 z => ?_)
  obtain ⟨v0, H1, I1, r1, rfl, rfl⟩ := z
  obtain rfl : u0 = Value.ref f := r1
  have there : ∀ {s2 : Shared} {σ2 : L2.St} {H2 : Hp}, Inv (cxOf (L2.CX X.prog X.w) X.prog X.w X.K X.mg X.base Ng qg sg g cdg X.A X.stack s H Eg) pinsZ σ2 H2 s2 → s2.heap.get? f = some (PySem.W.kla_obj "<lambda>" (X.env.qual ++ "<lambda>") params body scope (cloFrom X.env.cells scope.names []) pm c' ctv) :=
    fun I2 => I2.base.keep f _ hf hfn hfr (fun z => nomatch (show f ∈ ([] : List Addr) from z))
  refine PySem.W.callWith_F ⟨_, _, _, _, there I1⟩ (thn (ha.run p2 pinsZ s1 σZ _ _ I1 ht) fun us s2 z => ?_) he (by rfl)
  obtain ⟨vs, H2, I2, rv, y, rfl, hc, htb⟩ := z
  have of2 := there I2
  refine ⟨⟨_, _, _, _, of2⟩, ?_⟩
  cases rv with
  | @cons _ u _ _ ry rn =>
  cases rn
  have un : Un (frs X.stack) [] H H2 s.heap s2.heap := I2.base
  obtain ⟨⟨oc, vs, t, hoc, hdc, hvc⟩, _, _⟩ := I2.hok c' _ hc
  have rc : codeAny (model X.prog X.w) (X.A.deeper (envOfC qg sg s.heap.objs.size g cdg)) (.call (.ref f) ⟨[u], []⟩) (CR (L2.CX X.prog X.w) (envOfC qg sg s.heap.objs.size g cdg :: X.stack) X.prog X.w H2 s2 Q E0) s2 := by
    refine PySem.W.kla_callFunE hr.depth of2 rfl L.co L.gen rfl ⟨c', oc, vs, t, rfl, hoc, hdc, hvc⟩ ?_
    rw [hbind]
    refine wpAny_pure (wpAny_newFunctionEnv (fun y hy => (L.own y hy).2) (fun q hq => ?_) (fun h₁ hns hsb => ⟨I2.nolimit.fresh _ hsb, ?_⟩) L.kd)
    · rw [List.mem_singleton.mp hq]
      exact L.par
    · have kp : ∀ b o, s2.heap.get? b = some o → h₁.get? b = some o := fun b o z => hsb.extBut b o (Nat.ne_of_lt (Heap.lt_size z)) (Heap.get?_push_of_some _ z)
      have J := lamP_start (f := f) (c' := c') (tk := s2.toks + ([(a, u)] : List (Str × Value)).length) I L hna I2.env0 hr.hd un ry hns kp
      refine PySem.W.kla_codeExpr (wpAny_mono ((hbody _ _ s2 H2 (hr.deeper _)).run [] _ _ H2 Q J htb) (fun v s' z => ?_) fun er s' z => z)
      obtain ⟨w', H', J', rv', q'⟩ := z
      exact ⟨w', H', J'.os, J'.bare, J'.base, J'.hok, rv', q'⟩
  refine wpAny_call (codeAny_mono rc fun r s' z => ?_)
  cases r with
  | error er => exact (passL (X := cxOf (L2.CX X.prog X.w) X.prog X.w X.K X.mg X.base Ng qg sg g cdg X.A X.stack s H Eg) pinsZ σZ H2 s2 er s' I2 z)
  | ok fl =>
    cases fl with
    | ret u' => exact I2.after z
    | next => exact False.elim z
    | brk => exact False.elim z
    | cont => exact False.elim z
end
end Tk

/-! ### x(lambda a: body, e, ..) by the body of x -/
namespace Tk
open PySem PySem.Spec PyProof.Rows L2 LamX
/-- a def that makes a function, its code object known -/
theorem FnP.okFc {P : Program} {w : World} {K : PySem.W.Frag} {mg : Str → Option Value} {base : Heap} {x qual : Str} {st : Stmt} {f : Addr} {N ps : List Str} {k : Nat} {sp : Sp} (F : ∃ fd, FnP K x qual st f fd) (S : FnScope N ps (defScope st))
    (hb : ∀ (kV doc pm : Value) (an : Option Addr) (cdv ct : Value) (us : List Value), us.length = ps.length → bindArgs (PySem.W.fnOf x qual (defArgs st) (defBody st) (defScope st) .none kV doc pm an cdv ct) ⟨us, []⟩ = pure (ps.zip us))
    (len : ∀ vs H Q E, sp vs H Q E → vs.length = ps.length)
    (hbody : ∀ (cdv : Value) (A : Around) (outer : List Env) (s : Shared) (H : Hp) (vs : List V) (Q : VK) (E : XK), cdv = .ref (codeAt K f) → Room k (A.deeper (envOfC qual (defScope st) s.heap.objs.size f cdv)) → sp vs H Q E →
      ∃ t, PSs (cxOf (L2.CX P w) P w K mg base N qual (defScope st) f cdv A outer s H E) (defBody st) t ∧ t { nx := fun _ H' => Q .non H', rt := Q } (start N vs) H) : OkF P w K mg base (k + 1) f ps sp := by
  obtain ⟨fd, F⟩ := F
  have hB := F.bindsN hb
  have kp := F.kp
  obtain ⟨oc, od, dV, kV, doc, pm, an, cdv, ct, osl, rfl, lk, hcd, _, _⟩ := F.ex
  exact ⟨⟨_, fn_of lk hcd S len fun A outer s H vs Q E hr hsp => hbody cdv A outer s H vs Q E (codeAt_eq lk rfl hcd) hr hsp, hB⟩, kp⟩
/-- the running def's code object has a table of T, under the name of its functions -/
def TabX (X : Cx) (T : List (Addr × Str)) : Prop := ∃ c P, TabB X.base X.mg c P ∧ X.env.code = .ref c ∧ (P, X.env.qual ++ "<lambda>") ∈ T ∧ ∀ p ∈ T, p.1 = P → p.2 = X.env.qual ++ "<lambda>"
/-- the context of the def that got the function -/
abbrev cxG (X : Cx) (Ng : List Str) (x : Str) (stg : Stmt) (g : Addr) (cdg : Value) (s : Shared) (H : Hp) : Cx := cxOf (L2.CX X.prog X.w) X.prog X.w X.K X.mg X.base Ng x (defScope stg) g cdg X.A X.stack s H E0
/-- the calls of the function that stands in the first slot -/
def Acts (Z : Cx) (b : Str) (f c' : Addr) (q : Str) (tl : V → Hp → VK → Prop) : Prop :=
  ∀ (e : Expr) (te : TA) (p1 p2 : Pos), PA Z [e] te → starEach [e] Z.env = (false, eval e Z.env) :: starEach [] Z.env →
    PE Z (.Call (.Name b p1) [e] [] p2) (fun σZ HZ Q => σZ[0]? = some (some (.ref f)) ∧ te σZ HZ fun vs HZ1 => ∃ y, vs = [y] ∧ HZ1 c' = some (CodeO c' q) ∧ tl y HZ1 Q)
def tLamN (T : List (Addr × Str)) (q : Str) (n : Nat) (ta : TA) (tb : TE) (TT : Addr → (V → Hp → VK → Prop) → List V → Hp → VK → Prop) : TE := fun σ H Q =>
  Tabs T H ∧ ∀ c' H1, ExtN H H1 → Tabs T H1 → H1 c' = some (CodeO c' q) → ta σ H1 fun ys H2 => ys.length + 1 = n ∧ TT c' (fun y H' Q' => tb (σ ++ [some y]) H' Q') ys H2 Q
theorem pe_lamcallN {X : Cx} {T : List (Addr × Str)} {x a b : Str} {g : Addr} {k : Nat} {stg : Stmt} {Ng ps : List Str} {params : Arguments} {body : Expr} {scope : Scope} {es : List Expr} {ta : TA} {tb : TE} {TT : Addr → (V → Hp → VK → Prop) → List V → Hp → VK → Prop} {p lpos pos : Pos}
    (hg : Gl X x) (hm : X.mg x = some (.ref g)) (Fg : ∃ fd, FnP X.K x x stg g fd) (Sg : FnScope Ng ps (defScope stg))
    (hbg : ∀ (kV doc pm : Value) (an : Option Addr) (cdv ct : Value) (us : List Value), us.length = ps.length → bindArgs (PySem.W.fnOf x x (defArgs stg) (defBody stg) (defScope stg) .none kV doc pm an cdv ct) ⟨us, []⟩ = pure (ps.zip us))
    (hG : ∀ (cdg : Value) (f c' : Addr) (s : Shared) (H : Hp) (ys : List V) (Q : VK) (tl : V → Hp → VK → Prop), Acts (cxG X Ng x stg g cdg s H) b f c' (X.env.qual ++ "<lambda>") tl → TT c' tl ys H Q →
      ∃ t, PSs (cxG X Ng x stg g cdg s H) (defBody stg) t ∧ t { nx := fun _ H' => Q .non H', rt := Q } (L2.start Ng (.ref f :: ys)) H)
    (tx : TabX X T) (hr : Room (k + 2) X.A) (L : LamP X.env.scope scope a) (hna : a ∉ X.N) (hdef : defaultsOf params X.env = ([], []))
    (hbind : ∀ (q : Str) (cl : List (Str × Addr)) (pm cv ctv : Value) (v : Value), bindArgs (PySem.W.kla_fn "<lambda>" q params body scope cl pm cv ctv) ⟨[v], []⟩ = pure [(a, v)])
    (hbody : ∀ (A : Around) (outer : List Env) (s : Shared) (H : Hp) (f c' : Addr), Room k (A.deeper (lamEnv X scope s.heap.objs.size f c')) → PE (lamCxP X a A outer s H scope f c') body tb) (ha : PA X es ta)
    (hN : Ng[0]? = some b := by rfl) (hv : Vis (defScope stg) b := by first | exact .inl rfl | exact .inl (by decide +kernel)) (hdb : (x == ("__debug__" : Str)) = false := by decide) (hd : (b == ("__debug__" : Str)) = false := by decide) (hcd0 : (b == ("__classdict__" : Str)) = false := by decide)
    (he : starEach (.Lambda params body scope lpos :: es) X.env = (false, eval (.Lambda params body scope lpos) X.env) :: starEach es X.env := by rfl) (hpl : (backTo pos (starEach es X.env)).any (·.1) = false := by rfl) (hst : frs X.stack = X.env.locals :: X.fs := by rfl) :
    PE X (.Call (.Name x p) (.Lambda params body scope lpos :: es) [] pos) (tLamN T (X.env.qual ++ "<lambda>") ps.length ta tb TT) := by
  refine ⟨fun pins s σ H Q I h => ?_⟩
  obtain ⟨hT, h⟩ := h
  obtain ⟨c, P, TB, hcode, hmT, hu⟩ := tx
  obtain ⟨fd, Fg⟩ := Fg
  have hB := Fg.bindsN hbg
  have kp := Fg.kp
  obtain ⟨oc, od, dV, kV, doc, pm, an, cdv, ct, osl, rfl, lk, hcd, _, _⟩ := Fg.ex
  refine wpAny_Call_Name_kw (ld_glob I hg hm ?_ hdb)
  refine PySem.W.callWith_K (h₀ := X.base) I.ok.mod.kin kp ?_ he hpl
  rw [he]
  show wpAny _ _ (spliced ((false, eval (.Lambda params body scope lpos) X.env) :: backTo pos (starEach es X.env))) _ _ s
  have hfree : ∀ y ∈ scope.names, y.2 = .free → ∃ c, X.env.cells.lookup y.1 = some c := fun y hy e => (L.fre y hy e).elim (fun z => I.ok.has _ (.inl z)) fun z => I.ok.has _ (.inr z)
  refine Calls.spliced_cons (lam_make2 I TB hcode hmT hu hT hdef hfree fun f c' pm' ctv H1 s' I1 eN T1 hf hfn hfr hco => ?_)
  have hfl : f ≠ X.env.locals ∧ f ∉ X.fs := by
    rw [hst] at hfr
    exact ⟨fun z => hfr (List.mem_cons.mpr (.inl z)), fun z => hfr (List.mem_cons.mpr (.inr z))⟩
  have I1p : Inv X ((f, PySem.W.kla_obj "<lambda>" (X.env.qual ++ "<lambda>") params body scope (cloFrom X.env.cells scope.names []) pm' c' ctv) :: pins) σ H1 s' := I1.pins_of fun q hq => by
    rcases List.mem_cons.mp hq with e | e
    · subst e
      exact ⟨hf, hfn, hfl.1, hfl.2, fun v z => by cases z⟩
    · exact I1.pin q (List.mem_append_right _ e)
  refine thn (ha.run pos _ s' σ H1 _ I1p (h c' H1 eN T1 hco)) fun us s2 ⟨ys, H2, I2, rv, hlen, q2⟩ => ?_
  have hp2 := I2.pin (f, PySem.W.kla_obj "<lambda>" (X.env.qual ++ "<lambda>") params body scope (cloFrom X.env.cells scope.names []) pm' c' ctv) (List.mem_append_right _ (List.mem_cons_self ..))
  have J : Inv X pins σ H2 s2 := I2.pins_of fun q hq => I2.pin q (List.mem_append_right _ (List.mem_cons_of_mem _ hq))
  refine ⟨J.kIn, ?_⟩
  have hl2 : us.length = ys.length := rv.length.symm
  have rc : codeAny (model X.prog X.w) X.A (.call (.ref g) ⟨.ref f :: us, []⟩) (CR (L2.CX X.prog X.w) X.stack X.prog X.w H2 s2 Q E0) s2 := by
    refine run_ofS (N := Ng) (ps := ps) (us := .ref f :: us) (vs := .ref f :: ys) lk hcd Sg (hr.mono (Nat.le_refl _)) J.env0 (by simpa using hB s2 (.ref f :: us) J.kIn (by simp; omega)) (.cons rfl rv) (by simp; omega) fun hr' => ?_
    exact hG cdv f c' s2 H2 ys Q _ (fun e te p1 p2 pe hst' => pe_act1 (i := 0) J L hna hp2.1 hp2.2.1 hfr (hbind _ _ _ _ _) hr' (fun A outer s H hr2 => hbody A outer s H f c' hr2) hN hv pe hst' hd hcd0) q2
  refine wpAny_call (codeAny_mono rc fun r s3 hq => ?_)
  cases r with
  | error e => exact passL pins σ H2 s2 e s3 J hq
  | ok fl =>
    cases fl with
    | ret u => exact J.after hq
    | next => exact False.elim hq
    | brk => exact False.elim hq
    | cont => exact False.elim hq
end Tk

/-! ### The source of numbers -/
namespace Tk
open PySem PySem.Spec PyProof.Rows L2
/-- what the list of the source holds -/
def DSt (cs : List V) : Prop := ∃ (s g : Int) (ns : List Int), cs = V.int s :: V.int g :: ns.map V.int ∧ 0 ≤ s ∧ s < 2147483647 ∧ 0 ≤ g ∧ (∀ n ∈ ns, (0 : Int) ≤ n) ∧ ns.length ≤ 63
def spRandom (K : PySem.W.Frag) : Sp := fun vs H Q _ => ∃ (a : Addr) (ns : List Int) (salt : Int), vs = [.ref a, .int salt] ∧ SqL K H a (ns.map V.int) ∧ ns.length ≤ 63 ∧ 0 ≤ salt ∧ salt < 1000 ∧
  ∀ (d : Addr) (cs : List V) (H' : Hp), H d = none → Same H H' → H' d = some (.lst cs) → DSt cs → Q (.ref d) H'
def spBelow : Sp := fun vs H Q _ => ∃ (d : Addr) (lim : Int) (cs : List V), vs = [.ref d, .int lim] ∧ 0 < lim ∧ lim < 1073741824 ∧ H d = some (.lst cs) ∧ DSt cs ∧
  ∀ (r : Int) (cs' : List V), 0 ≤ r → r < lim → DSt cs' → Q (.int r) (upd H d (.lst cs'))
theorem int_at {ns : List Int} {i : Nat} {y : V} (h : (ns.map V.int)[i]? = some y) : ∃ u, y = V.int u ∧ ns[i]? = some u := by
  rw [List.getElem?_map] at h
  cases e : ns[i]? with
  | none => rw [e] at h; cases h
  | some u => rw [e] at h; exact ⟨u, (Option.some.inj h).symm, rfl⟩
theorem ixn {n i : Nat} (h : i < n) : ixN n (i : Int) = some i := by
  unfold ixN
  rw [if_pos (by omega), if_pos (by omega)]
  simp
theorem atn {xs : List V} {i : Nat} {x : V} (h : xs[i]? = some x) : atI xs (i : Int) = some x := by
  unfold atI
  rw [ixn (List.getElem?_eq_some_iff.mp h).1]
  exact h
section
variable {P : Program} {w : World} {K : PySem.W.Frag} {mg : Str → Option Value} {base : Heap}
theorem ok__law_random (T : Txt K mg) : OkF P w K mg base 1 (He.ga K "_law_random") ["_law_script", "_law_salt"] (spRandom K) := by
  refine FnP.okF T.f__law_random sc__law_random (fun _ _ _ _ _ _ us hl => match us, hl with | [_, _], _ => rfl) (fun vs H Q E h => ?_) (fun cdv A outer s H vs Q E hr h => ?_)
  · obtain ⟨a, ns, salt, rfl, _⟩ := h
    rfl
  obtain ⟨a, ns, salt, rfl, hS, hlen, h0, h1, k⟩ := h
  refine ⟨_, (pss_cons (ps_set (i := 2) sc__law_random.nd rfl (Or.inl rfl) (pv 1))
    (pss_cons (ps_for own_cx rfl (pi_listK (K := K) (pv 0)) (pg_name (i := 3) sc__law_random.nd rfl (Or.inl rfl))
      (pss_one (ps_set (i := 2) sc__law_random.nd rfl (Or.inl rfl) (pe_op op_mod (pe_op op_add (pe_op op_mul (pv 2) pe_int) (pe_callB call_abs (by rfl) T.g_abs (by decide +kernel) (pa_cons (pv 3) pa_nil))) pe_int))))
    (pss_one (ps_ret (pe_op op_cat (pe_lst (pa_cons (pv 2) (pa_cons pe_int pa_nil))) (pe_lc (own := [("_law_cell", 3)]) (g := gName 3) (tt := _) (by rfl) sc__law_random.nd (pi_listK (K := K) (pv 0)) (blkOk_by (own := [("_law_cell", 3)]) (N := N__law_random) (sc := (defScope s__law_random)) (by decide +kernel)) (fun _ _ _ _ _ => pg_name (i := 3) sc__law_random.nd rfl (Or.inl rfl)) (fun _ _ _ _ _ => (pts_one (pt_cmpR op_ge (pv 3) (pe_op op_pow pe_int pe_int) (nomark _)))) (fun _ _ _ _ _ => (pv 3)))))))), ?_⟩
  refine ⟨_, rfl, ?_⟩
  refine ⟨_, rfl, a, rfl, ⟨_, hS⟩, for_list (K := K) (a := a) (xs := ns.map V.int) (fun i σ H' => ∃ (z : Int) (v : Option V), σ = [some (.ref a), some (.int salt), some (.int z), v] ∧ H' = H ∧ 0 ≤ z ∧ z < 2147483647)
    ⟨salt, none, rfl, rfl, h0, by omega⟩ (fun i σ H' _ ⟨_, _, _, e, _⟩ => e ▸ hS) ?_ ?_⟩
  · rintro i y σ H' hi ⟨z, v, rfl, rfl, z0, z1⟩
    obtain ⟨u, rfl, hu⟩ := int_at hi
    refine ⟨_, rfl, _, _, rfl, rfl, .inl ⟨by omega, by omega⟩, _, rfl, _, rfl, _, _, rfl, rfl, _, _, rfl, rfl, (by show (0 : Int) < 2147483647; decide), ?_⟩
    refine ⟨_, _, rfl, rfl, ?_, ?_⟩
    · exact Int.emod_nonneg _ (by decide)
    · exact Int.emod_lt_of_pos _ (by decide)
  · rintro σ H' ⟨z, v, rfl, rfl, z0, z1⟩
    refine ⟨_, rfl, (by show 2 ≤ sizeLine; decide), fun l hl => ?_⟩
    have s1 : Same H' (upd H' l (.lst [.int z, .int 0])) := fun b o e => by rw [upd_ne (ne_of_none e hl)]; exact e
    refine ⟨_, rfl, a, rfl, ⟨_, s1.seq hS⟩, fun D hD => ?_⟩
    have hDl : D ≠ l := fun e => by rw [e, upd_same] at hD; cases hD
    have hD0 : H' D = none := by rw [upd_ne hDl] at hD; exact hD
    refine lc_list (K := K) (a := a) (xs := ns.map V.int) (fun i H2 => ∃ ms : List Int, H2 = upd (upd H' l (.lst [.int z, .int 0])) D (.lst (ms.map V.int)) ∧ (∀ n ∈ ms, (0 : Int) ≤ n) ∧ ms.length ≤ i)
      ⟨[], rfl, (fun n hn => by cases hn), Nat.le_refl _⟩ (fun i H2 _ ⟨ms, e, _⟩ => ?_) ?_ ?_
    · subst e
      refine Same.seq (fun b o e => ?_) hS
      rw [upd_ne (ne_of_none e hD0)]
      exact s1 b o e
    · rintro i x H2 hx ⟨ms, rfl, m0, ml⟩
      obtain ⟨u, rfl, hu⟩ := int_at hx
      have hi63 : i < 63 := by
        have := (List.getElem?_eq_some_iff.mp hu).1
        omega
      refine ⟨rfl, _, rfl, _, _, rfl, rfl, ⟨by decide, by decide, by decide⟩, _, _, rfl, rfl, _, rfl, ?_⟩
      refine ite2 (fun c => ?_) (fun c => ⟨ms, rfl, m0, by omega⟩)
      refine ⟨_, rfl, _, upd_same, Nat.lt_of_le_of_lt (m := 63) (by rw [List.length_map]; omega) (by decide), ⟨ms ++ [u], ?_, ?_, ?_⟩⟩
      · rw [upd_upd, List.map_append]
        rfl
      · intro n hn
        rcases List.mem_append.mp hn with h | h
        · exact m0 n h
        · rw [List.mem_singleton.mp h]
          have c2 : (10 : Int) ^ (18 : Int).toNat ≤ u := of_decide_eq_true c
          have : (0 : Int) ≤ 10 ^ (18 : Int).toNat := by decide
          omega
      · rw [List.length_append]
        show ms.length + 1 ≤ i + 1
        omega
    · rintro H2 ⟨ms, rfl, m0, ml⟩
      rw [List.length_map] at ml
      refine ⟨l, D, _, _, rfl, rfl, (by rw [upd_ne hDl.symm]; exact upd_same), upd_same, ?_, fun p hp => ?_⟩
      · rw [List.length_map]
        exact Nat.le_trans (m := 65) (by show 2 + ms.length ≤ 65; omega) (by decide)
      · have hpD : p ≠ D := fun e => by rw [e, upd_same] at hp; cases hp
        have hp2 : p ≠ l := fun e => by rw [e, upd_ne hDl.symm, upd_same] at hp; cases hp
        refine k p _ _ (by rw [upd_ne hpD, upd_ne hp2] at hp; exact hp) (fun b o e => ?_) upd_same ⟨z, 0, ms, rfl, z0, z1, Int.le_refl _, m0, by omega⟩
        have hb : b ≠ p := fun q => by rw [q] at e; rw [upd_ne hpD, upd_ne hp2] at hp; rw [e] at hp; cases hp
        rw [upd_ne hb, upd_ne (ne_of_none e hD0)]
        exact s1 b o e
end
end Tk

namespace Tk
open PySem PySem.Spec PyProof.Rows L2
section
variable {P : Program} {w : World} {K : PySem.W.Frag} {mg : Str → Option Value} {base : Heap}
theorem upd_eq {H H2 : Hp} {d : Addr} (e : ∀ b, b ≠ d → H2 b = H b) (o : HO) : upd H2 d o = upd H d o := by
  funext b
  unfold upd
  by_cases q : b = d
  · rw [if_pos q, if_pos q]
  · rw [if_neg q, if_neg q, e b q]
theorem gt_dec {a b : Int} : decide (b < a) = true → b < a := of_decide_eq_true
theorem ok__law_below (T : Txt K mg) : OkF P w K mg base 1 (He.ga K "_law_below") ["_law_d", "_law_limit"] spBelow := by
  refine FnP.okF T.f__law_below sc__law_below (fun _ _ _ _ _ _ us hl => match us, hl with | [_, _], _ => rfl) (fun vs H Q E h => ?_) (fun cdv A outer s H vs Q E hr h => ?_)
  · obtain ⟨d, lim, cs, rfl, _⟩ := h
    rfl
  obtain ⟨d, lim, cs, rfl, l0, l1, hd, ⟨s1, g, ns, rfl, hs0, hs1, hg, hns, hlen⟩, k⟩ := h
  refine ⟨_, (Evl.pss_cut (ps_if (PW.pt (pw_and (pt_cmpR op_eq (pe_ix (ixLK (K := K)) (pv 0) pe_int (fun _ _ => rfl)) pe_int (nomark _)) (pw_and1 (pt_cmpR op_gt (pe_callB (lenK (K := K)) (by rfl) T.g_len (by decide +kernel) (pa_cons (pv 0) pa_nil)) pe_int (nomark _))))) (pss_one (ps_asg (pe_bm PySem.F.plainAttrs_list PySem.F.slot_list_pop PySem.F.type_list_pop mt_popAt (pv 0) (pa_cons pe_int pa_nil)) (pg_sub (pv 0) pe_int set_list))) pss_nil)
    (pss_cons (ps_if (pt_cmpR op_gt (pe_ix (ixLK (K := K)) (pv 0) pe_int (fun _ _ => rfl)) pe_int (nomark _)) (pss_cons (ps_set (i := 2) sc__law_below.nd rfl (Or.inl rfl) (pe_op op_mod (pe_ix (ixLK (K := K)) (pv 0) pe_int (fun _ _ => rfl)) (pv 1)))
    (pss_cons (ps_asg (pe_op op_fdiv (pe_ix (ixLK (K := K)) (pv 0) pe_int (fun _ _ => rfl)) (pv 1)) (pg_sub (pv 0) pe_int set_list))
    (pss_one (ps_ret (pv 2))))) pss_nil)
    (pss_cons (ps_asg (pe_op op_mod (pe_op op_add (pe_op op_mul (pe_ix (ixLK (K := K)) (pv 0) pe_int (fun _ _ => rfl)) pe_int) pe_int) pe_int) (pg_sub (pv 0) pe_int set_list))
    (pss_one (ps_ret (pe_op op_mod (pe_op op_fdiv (pe_ix (ixLK (K := K)) (pv 0) pe_int (fun _ _ => rfl)) pe_int) (pv 1))))))), ?_⟩
  -- if d[1] == 0 and len(d) > 2: d[1] = d.pop(2)
  refine ⟨fun σ H2 => ∃ (g2 : Int) (ms : List Int), σ = [some (.ref d), some (.int lim), none] ∧ H2 = upd H d (.lst (V.int s1 :: V.int g2 :: ms.map V.int)) ∧ 0 ≤ g2 ∧ (∀ n ∈ ms, (0 : Int) ≤ n) ∧ ms.length ≤ 63, ?_, ?_⟩
  · have h0 : H = upd H d (.lst (V.int s1 :: V.int g :: ns.map V.int)) := by
      funext b
      unfold upd
      by_cases q : b = d
      · rw [if_pos q, q, hd]
      · rw [if_neg q]
    have no : ∃ (g2 : Int) (ms : List Int), [some (V.ref d), some (V.int lim), none] = [some (.ref d), some (.int lim), none] ∧ H = upd H d (.lst (V.int s1 :: V.int g2 :: ms.map V.int)) ∧ 0 ≤ g2 ∧ (∀ n ∈ ms, (0 : Int) ≤ n) ∧ ms.length ≤ 63 := ⟨g, ns, rfl, h0, hg, hns, hlen⟩
    refine ⟨_, rfl, d, _, 1, _, rfl, rfl, SqL.of hd, atn (i := 1) rfl, rfl, _, rfl, ?_⟩
    refine ite2 (fun c => ?_) (fun c => no)
    refine ⟨_, rfl, d, _, rfl, .inl (SqL.of hd), _, _, rfl, rfl, _, rfl, ?_⟩
    refine ite2 (fun c2 => ?_) (fun c2 => no)
    cases ns with
    | nil =>
      have : (2 : Int) < (2 : Int) := gt_dec c2
      omega
    | cons n0 ms =>
      refine ⟨_, rfl, .inl ⟨rfl, _, SqL.of hd⟩, d, _, 2, 2, _, rfl, rfl, hd, by decide, by decide, ?_, rfl, ?_⟩
      · have hl : (V.int s1 :: V.int g :: (n0 :: ms).map V.int).length = ms.length + 3 := by simp
        rw [hl]
        unfold seqIndex?
        simp
        omega
      · refine ⟨_, rfl, d, _, 1, 1, rfl, rfl, upd_same, ixn (i := 1) (by simp), ?_⟩
        refine ⟨n0, ms, rfl, ?_, hns n0 List.mem_cons_self, fun n hn => hns n (List.mem_cons_of_mem _ hn), by have := hlen; simp at this; omega⟩
        rw [upd_upd]
        rfl
  · rintro σ H2 ⟨g2, ms, rfl, rfl, hg2, hms, hml⟩
    have hd2 : upd H d (.lst (V.int s1 :: V.int g2 :: ms.map V.int)) d = some (.lst (V.int s1 :: V.int g2 :: ms.map V.int)) := upd_same
    -- if d[1] > 0
    refine ⟨_, rfl, d, _, 1, _, rfl, rfl, SqL.of hd2, atn (i := 1) rfl, _, _, rfl, rfl, _, rfl, ?_⟩
    refine ite2 (fun c => ?_) (fun c => ?_)
    · refine ⟨_, rfl, d, _, 1, _, rfl, rfl, SqL.of hd2, atn (i := 1) rfl, _, rfl, _, _, rfl, rfl, l0, ?_⟩
      refine ⟨_, rfl, d, _, 1, _, rfl, rfl, SqL.of hd2, atn (i := 1) rfl, _, rfl, _, _, rfl, rfl, ⟨l0, l1⟩, ?_⟩
      refine ⟨_, rfl, d, _, 1, 1, rfl, rfl, upd_same, ixn (i := 1) (by simp), ?_⟩
      refine ⟨_, rfl, ?_⟩
      show Q (V.int (g2 % lim)) _
      rw [upd_upd]
      exact k _ _ (Int.emod_nonneg _ (by omega)) (Int.emod_lt_of_pos _ l0) ⟨s1, g2 / lim, ms, rfl, hs0, hs1, Int.ediv_nonneg hg2 (by omega), hms, hml⟩
    · refine ⟨_, rfl, d, _, 0, _, rfl, rfl, SqL.of hd2, atn (i := 0) rfl, _, _, rfl, rfl, .inl ⟨by omega, by omega⟩, _, _, rfl, rfl, _, _, rfl, rfl, (by show (0 : Int) < 2147483647; decide), ?_⟩
      refine ⟨_, rfl, d, _, 0, 0, rfl, rfl, upd_same, ixn (i := 0) (by simp), ?_⟩
      refine ⟨_, rfl, d, _, 0, _, rfl, rfl, SqL.of upd_same, atn (i := 0) rfl, _, _, rfl, rfl, ⟨by decide, by decide⟩, _, rfl, _, _, rfl, rfl, l0, ?_⟩
      rw [upd_upd]
      exact k _ _ (Int.emod_nonneg _ (by omega)) (Int.emod_lt_of_pos _ l0) ⟨_, g2, ms, rfl, Int.emod_nonneg _ (by decide), Int.emod_lt_of_pos _ (by decide), hg2, hms, hml⟩
end
end Tk

namespace Tk
open PySem PySem.Spec PyProof.Rows L2
/-- a number that is not negative, as a value -/
abbrev vn (n : Nat) : V := .int (n : Int)
/-- all but d stands as before; d holds a source -/
structure Src (d : Addr) (H H' : Hp) : Prop where
  but : But d H H'
  at_ : ∃ cs, H' d = some (.lst cs) ∧ DSt cs
theorem But.free {d : Addr} {H H' : Hp} (b : But d H H') (hd : ∃ cs, H d = some (.lst cs)) {p : Addr} (h : H' p = none) (hd' : ∃ cs, H' d = some (.lst cs)) : H p = none := by
  cases q : H p with
  | none => rfl
  | some o =>
    by_cases e : p = d
    · obtain ⟨cs, z⟩ := hd'
      rw [e, z] at h
      cases h
    · rw [b p o e q] at h
      cases h
theorem But.refl (d : Addr) (H : Hp) : But d H H := fun _ _ _ h => h
theorem But.trans {d : Addr} {H H1 H2 : Hp} (a : But d H H1) (b : But d H1 H2) : But d H H2 := fun p o n h => b p o n (a p o n h)
theorem But.same {d : Addr} {H H1 : Hp} (a : Same H H1) : But d H H1 := fun p o _ h => a p o h
theorem But.at_d {d : Addr} {H : Hp} {o : HO} : But d H (upd H d o) := fun p u n h => by rw [upd_ne n]; exact h
theorem But.new {d p : Addr} {H : Hp} {o : HO} (h : H p = none) : But d H (upd H p o) := fun b u _ e => by rw [upd_ne (ne_of_none e h)]; exact e
theorem Same.new {p : Addr} {H : Hp} {o : HO} (h : H p = none) : Same H (upd H p o) := fun b u e => by rw [upd_ne (ne_of_none e h)]; exact e
theorem Same.free1 {H H1 : Hp} (a : Same H H1) {p : Addr} (h : H1 p = none) : H p = none := Same.free a h
/-- a pattern -/
structure Pat (ps : List Nat) : Prop where
  pos : 0 < ps.length
  len : ps.length ≤ 12
  nine : ∀ x ∈ ps, x ≤ 9
def spPattern : Sp := fun vs H Q _ => ∃ (d : Addr) (most : Nat) (cs : List V), vs = [.ref d, vn most] ∧ 0 < most ∧ most ≤ 12 ∧ H d = some (.lst cs) ∧ DSt cs ∧
  ∀ (t : Addr) (ps : List Nat) (H' : Hp), H t = none → Src d H H' → H' t = some (.tup (ps.map vn)) → Pat ps → ps.length ≤ most → Q (.ref t) H'
section
variable {P : Program} {w : World} {K : PySem.W.Frag} {mg : Str → Option Value} {base : Heap}
theorem high_of {r : Int} (h0 : 0 ≤ r) (h1 : r < 3) : ∃ v : Nat, atI [V.int 2, V.int 3, V.int 10] r = some (vn v) ∧ 0 < v ∧ v ≤ 10 := by
  have : r = ((0 : Nat) : Int) ∨ r = ((1 : Nat) : Int) ∨ r = ((2 : Nat) : Int) := by omega
  rcases this with e | e | e
  · exact ⟨2, by rw [e]; exact atn rfl, by omega, by omega⟩
  · exact ⟨3, by rw [e]; exact atn rfl, by omega, by omega⟩
  · exact ⟨10, by rw [e]; exact atn rfl, by omega, by omega⟩
theorem ok__law_pattern (T : Txt K mg) : OkF P w K mg base 2 (He.ga K "_law_pattern") ["_law_d", "_law_most"] spPattern := by
  have G__law_below : OkF P w K mg base 1 (He.ga K "_law_below") ["_law_d", "_law_limit"] spBelow := ok__law_below T
  refine FnP.okF T.f__law_pattern sc__law_pattern (fun _ _ _ _ _ _ us hl => match us, hl with | [_, _], _ => rfl) (fun vs H Q E h => ?_) (fun cdv A outer s H vs Q E hr h => ?_)
  · obtain ⟨d, most, cs, rfl, _⟩ := h
    rfl
  obtain ⟨d, most, cs, rfl, m0, m1, hd, hcs, k⟩ := h
  refine ⟨_, (pss_cons (ps_set (i := 2) sc__law_pattern.nd rfl (Or.inr rfl) (pe_ix (ixLK (K := K)) (pe_lst (pa_cons pe_int (pa_cons pe_int (pa_cons pe_int pa_nil)))) (pe_call G__law_below.one (hr.mono (by decide)) (by rfl) T.g__law_below G__law_below.kp G__law_below.two .nil passL (pa_cons (pv 0) (pa_cons pe_int pa_nil))) (fun _ _ => rfl)))
    (pss_one (ps_ret (pe_callTy (tplK (K := K)) (by rfl) T.g_tuple (by decide +kernel) (pa_cons (pe_lc (own := [("_law_k", 3)]) (g := gName 3) (tt := tYes) (by rfl) sc__law_pattern.nd (pi_range1 (by rfl) T.g_range (pa_cons (pe_op op_add pe_int (pe_call G__law_below.one (hr.mono (by decide)) (by rfl) T.g__law_below G__law_below.kp G__law_below.two .nil passL (pa_cons (pv 0) (pa_cons (pv 1) pa_nil)))) pa_nil)) (blkOk_by (own := [("_law_k", 3)]) (N := N__law_pattern) (sc := (defScope s__law_pattern)) (by decide +kernel)) (fun _ _ _ _ _ => pg_name (i := 3) sc__law_pattern.nd rfl (Or.inl rfl)) (fun _ _ _ _ _ => pts_nil) (fun _ _ _ _ _ => (pe_call G__law_below.one (hr.mono (by decide)) (by rfl) T.g__law_below G__law_below.kp G__law_below.two .nil passL (pa_cons (pv 0) (pa_cons (pv 2) pa_nil))))) pa_nil))))), ?_⟩
  -- high = [2, 3, 10][below(d, 3)]
  refine ⟨(by show 3 ≤ sizeLine; decide), fun l hl => ?_⟩
  have ndl : d ≠ l := ne_of_none hd hl
  refine ⟨_, rfl, d, 3, cs, rfl, by decide, by decide, by rw [upd_ne ndl]; exact hd, hcs, fun r cs1 r0 r1 hcs1 => ?_⟩
  obtain ⟨v, hv, v0, v1⟩ := high_of r0 r1
  refine ⟨l, _, r, _, rfl, rfl, SqL.of (by rw [upd_ne ndl.symm]; exact upd_same), hv, ?_⟩
  -- range(1 + below(d, most))
  refine ⟨_, rfl, _, rfl, d, most, cs1, rfl, by omega, by omega, upd_same, hcs1, fun r2 cs2 q0 q1 hcs2 => ?_⟩
  refine ⟨1, r2, rfl, rfl, ?_⟩
  refine ⟨_, rfl, by omega, by omega, fun D hD => ?_⟩
  rw [upd_upd] at hD ⊢
  have nDd : D ≠ d := fun e => by rw [e, upd_same] at hD; cases hD
  have nDl : D ≠ l := fun e => by rw [e, upd_ne ndl.symm, upd_same] at hD; cases hD
  have hD0 : H D = none := by rw [upd_ne nDd, upd_ne nDl] at hD; exact hD
  refine lc_range (lo := 0) (n := (1 + r2).toNat) (fun i H2 => ∃ ms : List Nat, But d H H2 ∧ (∃ cs, H2 d = some (.lst cs) ∧ DSt cs) ∧ H2 D = some (.lst (ms.map vn)) ∧ ms.length = i ∧ ∀ x ∈ ms, x ≤ 9) ?_ ?_ ?_
  · refine ⟨[], fun b o nb e => ?_, ⟨cs2, by rw [upd_ne nDd.symm, upd_same], hcs2⟩, upd_same, rfl, fun x hx => by cases hx⟩
    rw [upd_ne (ne_of_none e hD0), upd_ne nb, upd_ne (ne_of_none e hl)]
    exact e
  · rintro i H2 hi ⟨ms, hB, ⟨cs3, h3, hcs3⟩, hD2, hml, hm9⟩
    refine ⟨rfl, ?_⟩
    refine ⟨_, rfl, _, rfl, d, v, cs3, rfl, by omega, by omega, h3, hcs3, fun r4 cs4 p0 p1 hcs4 => ?_⟩
    refine ⟨ms.map vn, by rw [upd_ne nDd]; exact hD2, Nat.lt_of_le_of_lt (m := 12) (by rw [List.length_map]; omega) (by decide), ms ++ [r4.toNat], ?_, ⟨cs4, by rw [upd_ne nDd.symm, upd_same], hcs4⟩, ?_, ?_, ?_⟩
    · intro b o nb e
      rw [upd_ne (ne_of_none e hD0), upd_ne nb]
      exact hB b o nb e
    · rw [upd_same, List.map_append]
      show some (HO.lst (ms.map vn ++ [V.int r4])) = some (HO.lst (ms.map vn ++ [V.int ((r4.toNat : Nat) : Int)]))
      rw [Int.toNat_of_nonneg p0]
    · rw [List.length_append]
      show ms.length + 1 = i + 1
      omega
    · intro x hx
      rcases List.mem_append.mp hx with h | h
      · exact hm9 x h
      · rw [List.mem_singleton.mp h]
        omega
  · rintro H2 ⟨ms, hB, ⟨cs3, h3, hcs3⟩, hD2, hml, hm9⟩
    refine ⟨D, _, rfl, .inl ⟨SqL.of hD2, fun t ht => ?_⟩⟩
    have ht0 : H t = none := But.free hB ⟨_, hd⟩ ht ⟨_, h3⟩
    refine k t ms _ ht0 ⟨hB.trans (But.new ht), cs3, by rw [upd_ne (ne_of_none h3 ht)]; exact h3, hcs3⟩ upd_same ⟨by omega, by omega, hm9⟩ (by omega)
end
end Tk

namespace Tk
open PySem PySem.Spec PyProof.Rows L2
structure Parts (m : Nat) (tk cl : List Nat) (lt : Nat) : Prop where
  m2 : 2 ≤ m
  m4 : m ≤ 10000
  tkP : Pat tk
  clP : Pat cl
  l99 : lt ≤ 99
/-- at t the tuple of the parts -/
structure PartsAt (H : Hp) (t : Addr) (m : Nat) (tp : Addr) (tk : List Nat) (cp : Addr) (cl : List Nat) (lt : Nat) : Prop where
  at_ : H t = some (.tup [vn m, .ref tp, .ref cp, vn lt])
  tkA : H tp = some (.tup (tk.map vn))
  clA : H cp = some (.tup (cl.map vn))
  ok : Parts m tk cl lt
theorem PartsAt.but {d t tp cp : Addr} {H H' : Hp} {m lt : Nat} {tk cl : List Nat} {cs : List V} (p : PartsAt H t m tp tk cp cl lt) (b : But d H H') (hd : H d = some (.lst cs)) : PartsAt H' t m tp tk cp cl lt :=
  ⟨b _ _ (ne_of p.at_ hd (fun q => by cases q)) p.at_, b _ _ (ne_of p.tkA hd (fun q => by cases q)) p.tkA, b _ _ (ne_of p.clA hd (fun q => by cases q)) p.clA, p.ok⟩
theorem PartsAt.same {t tp cp : Addr} {H H' : Hp} {m lt : Nat} {tk cl : List Nat} (p : PartsAt H t m tp tk cp cl lt) (b : Same H H') : PartsAt H' t m tp tk cp cl lt :=
  ⟨b _ _ p.at_, b _ _ p.tkA, b _ _ p.clA, p.ok⟩
def spParts : Sp := fun vs H Q _ => ∃ (d : Addr) (most : Nat) (cs : List V), vs = [.ref d, vn most] ∧ 0 < most ∧ most ≤ 12 ∧ H d = some (.lst cs) ∧ DSt cs ∧
  ∀ (t tp cp : Addr) (m lt : Nat) (tk cl : List Nat) (H' : Hp), H t = none → Src d H H' → PartsAt H' t m tp tk cp cl lt → tk.length ≤ most → cl.length ≤ most → Q (.ref t) H'
def spSmall : Sp := fun vs H Q _ => ∃ (d : Addr) (cs : List V), vs = [.ref d] ∧ H d = some (.lst cs) ∧ DSt cs ∧
  ∀ (t tp cp : Addr) (m lt : Nat) (tk cl : List Nat) (H' : Hp), H t = none → Src d H H' → PartsAt H' t m tp tk cp cl lt → m ≤ 10 → tk.length ≤ 3 → cl.length ≤ 3 → lt ≤ 5 → Q (.ref t) H'
section
variable {P : Program} {w : World} {K : PySem.W.Frag} {mg : Str → Option Value} {base : Heap}
theorem three_of {a b c r : Int} (h0 : 0 ≤ r) (h1 : r < 3) : ∃ v : Int, atI [V.int a, V.int b, V.int c] r = some (V.int v) ∧ (v = a ∨ v = b ∨ v = c) := by
  have : r = ((0 : Nat) : Int) ∨ r = ((1 : Nat) : Int) ∨ r = ((2 : Nat) : Int) := by omega
  rcases this with e | e | e
  · exact ⟨a, by rw [e]; exact atn rfl, .inl rfl⟩
  · exact ⟨b, by rw [e]; exact atn rfl, .inr (.inl rfl)⟩
  · exact ⟨c, by rw [e]; exact atn rfl, .inr (.inr rfl)⟩
theorem ok__law_parts (T : Txt K mg) : OkF P w K mg base 3 (He.ga K "_law_parts") ["_law_d", "_law_most"] spParts := by
  have G__law_below : OkF P w K mg base 1 (He.ga K "_law_below") ["_law_d", "_law_limit"] spBelow := ok__law_below T
  have G__law_pattern : OkF P w K mg base 2 (He.ga K "_law_pattern") ["_law_d", "_law_most"] spPattern := ok__law_pattern T
  refine FnP.okF T.f__law_parts sc__law_parts (fun _ _ _ _ _ _ us hl => match us, hl with | [_, _], _ => rfl) (fun vs H Q E h => ?_) (fun cdv A outer s H vs Q E hr h => ?_)
  · obtain ⟨d, most, cs, rfl, _⟩ := h
    rfl
  obtain ⟨d, most, cs, rfl, m0, m1, hd, hcs, k⟩ := h
  refine ⟨_, (pss_cons (ps_set (i := 2) sc__law_parts.nd rfl (Or.inl rfl) (pe_ix (ixLK (K := K)) (pe_lst (pa_cons (pe_op op_add pe_int (pe_call G__law_below.one (hr.mono (by decide)) (by rfl) T.g__law_below G__law_below.kp G__law_below.two .nil passL (pa_cons (pv 0) (pa_cons pe_int pa_nil)))) (pa_cons (pe_op op_add pe_int (pe_call G__law_below.one (hr.mono (by decide)) (by rfl) T.g__law_below G__law_below.kp G__law_below.two .nil passL (pa_cons (pv 0) (pa_cons pe_int pa_nil)))) (pa_cons (pe_op op_add pe_int (pe_call G__law_below.one (hr.mono (by decide)) (by rfl) T.g__law_below G__law_below.kp G__law_below.two .nil passL (pa_cons (pv 0) (pa_cons pe_int pa_nil)))) pa_nil)))) (pe_call G__law_below.one (hr.mono (by decide)) (by rfl) T.g__law_below G__law_below.kp G__law_below.two .nil passL (pa_cons (pv 0) (pa_cons pe_int pa_nil))) (fun _ _ => rfl)))
    (pss_cons (ps_set (i := 3) sc__law_parts.nd rfl (Or.inl rfl) (pe_ix (ixLK (K := K)) (pe_lst (pa_cons pe_int (pa_cons (pe_call G__law_below.one (hr.mono (by decide)) (by rfl) T.g__law_below G__law_below.kp G__law_below.two .nil passL (pa_cons (pv 0) (pa_cons pe_int pa_nil))) (pa_cons (pe_call G__law_below.one (hr.mono (by decide)) (by rfl) T.g__law_below G__law_below.kp G__law_below.two .nil passL (pa_cons (pv 0) (pa_cons pe_int pa_nil))) pa_nil)))) (pe_call G__law_below.one (hr.mono (by decide)) (by rfl) T.g__law_below G__law_below.kp G__law_below.two .nil passL (pa_cons (pv 0) (pa_cons pe_int pa_nil))) (fun _ _ => rfl)))
    (pss_one (ps_ret (pe_tup (pa_cons (pv 2) (pa_cons (pe_call G__law_pattern.one (hr.mono (by decide)) (by rfl) T.g__law_pattern G__law_pattern.kp G__law_pattern.two .nil passL (pa_cons (pv 0) (pa_cons (pv 1) pa_nil))) (pa_cons (pe_call G__law_pattern.one (hr.mono (by decide)) (by rfl) T.g__law_pattern G__law_pattern.kp G__law_pattern.two .nil passL (pa_cons (pv 0) (pa_cons (pv 1) pa_nil))) (pa_cons (pv 3) pa_nil))))))))), ?_⟩
  -- modulus
  refine ⟨_, rfl, d, 5, cs, rfl, by decide, by decide, hd, hcs, fun r1 c1 a1 b1 hc1 => ⟨2, r1, rfl, rfl, ?_⟩⟩
  refine ⟨_, rfl, d, 30, c1, rfl, by decide, by decide, upd_same, hc1, fun r2 c2 a2 b2 hc2 => ⟨2, r2, rfl, rfl, ?_⟩⟩
  refine ⟨_, rfl, d, 9999, c2, rfl, by decide, by decide, upd_same, hc2, fun r3 c3 a3 b3 hc3 => ⟨2, r3, rfl, rfl, ?_⟩⟩
  refine ⟨(by show 3 ≤ sizeLine; decide), fun l hl => ?_⟩
  rw [upd_upd, upd_upd] at hl ⊢
  have ndl : d ≠ l := fun e => by rw [← e, upd_same] at hl; cases hl
  refine ⟨_, rfl, d, 3, c3, rfl, by decide, by decide, by rw [upd_ne ndl]; exact upd_same, hc3, fun r4 c4 a4 b4 hc4 => ?_⟩
  obtain ⟨mv, hmv, hmo⟩ := three_of (a := 2 + r1) (b := 2 + r2) (c := 2 + r3) a4 b4
  refine ⟨l, _, r4, _, rfl, rfl, SqL.of (by rw [upd_ne ndl.symm]; exact upd_same), hmv, ?_⟩
  have hl0 : H l = none := by rw [upd_ne ndl.symm] at hl; exact hl
  -- lateness
  refine ⟨_, rfl, d, 6, c4, rfl, by decide, by decide, upd_same, hc4, fun r5 c5 a5 b5 hc5 => ?_⟩
  refine ⟨_, rfl, d, 100, c5, rfl, by decide, by decide, upd_same, hc5, fun r6 c6 a6 b6 hc6 => ?_⟩
  refine ⟨(by show 3 ≤ sizeLine; decide), fun l2 hl2 => ?_⟩
  rw [upd_upd, upd_upd] at hl2 ⊢
  have nd2 : d ≠ l2 := fun e => by rw [← e, upd_same] at hl2; cases hl2
  refine ⟨_, rfl, d, 3, c6, rfl, by decide, by decide, by rw [upd_ne nd2]; exact upd_same, hc6, fun r7 c7 a7 b7 hc7 => ?_⟩
  obtain ⟨lv, hlv, hlo⟩ := three_of (a := 0) (b := r5) (c := r6) a7 b7
  refine ⟨l2, _, r7, _, rfl, rfl, SqL.of (by rw [upd_ne nd2.symm]; exact upd_same), hlv, ?_⟩
  have hB : But d H (upd (upd (upd (upd (upd H d (.lst c3)) l (.lst [.int (2 + r1), .int (2 + r2), .int (2 + r3)])) d (.lst c6)) l2 (.lst [.int 0, .int r5, .int r6])) d (.lst c7)) :=
    ((((But.at_d).trans (But.new hl)).trans But.at_d).trans (But.new hl2)).trans But.at_d
  generalize hH2 : upd (upd (upd (upd (upd H d (.lst c3)) l (.lst [.int (2 + r1), .int (2 + r2), .int (2 + r3)])) d (.lst c6)) l2 (.lst [.int 0, .int r5, .int r6])) d (.lst c7) = H2 at hB ⊢
  have hd2 : H2 d = some (.lst c7) := by rw [← hH2]; exact upd_same
  -- return (modulus, pattern, pattern, lateness)
  refine ⟨_, rfl, _, rfl, _, rfl, d, most, c7, rfl, m0, m1, hd2, hc7, fun tp tk H3 n3 S3 h3 p3 l3 => ?_⟩
  obtain ⟨c8, hd3, hc8⟩ := S3.at_
  refine ⟨_, rfl, _, rfl, d, most, c8, rfl, m0, m1, hd3, hc8, fun cp cl H4 n4 S4 h4 p4 l4 => ?_⟩
  obtain ⟨c9, hd4, hc9⟩ := S4.at_
  refine ⟨_, rfl, ?_⟩
  refine ⟨(by show 4 ≤ sizeLine; decide), fun t ht => ?_⟩
  have hB4 : But d H H4 := (hB.trans S3.but).trans S4.but
  have h34 : H4 tp = some (.tup (tk.map vn)) := S4.but _ _ (ne_of h3 hd3 (fun q => by cases q)) h3
  obtain ⟨m, hm⟩ : ∃ m : Nat, mv = (m : Int) := ⟨mv.toNat, by omega⟩
  obtain ⟨lt, hlt⟩ : ∃ n : Nat, lv = (n : Int) := ⟨lv.toNat, by omega⟩
  subst hm hlt
  refine k t tp cp m lt tk cl _ (But.free hB4 ⟨_, hd⟩ ht ⟨_, hd4⟩) ⟨hB4.trans (But.new ht), c9, by rw [upd_ne (ne_of_none hd4 ht)]; exact hd4, hc9⟩
    ⟨upd_same, by rw [upd_ne (ne_of_none h34 ht)]; exact h34, by rw [upd_ne (ne_of_none h4 ht)]; exact h4, ⟨by omega, by omega, p3, p4, by omega⟩⟩ l3 l4
end
end Tk

/-! ### The mathematics of halls -/
namespace Mm
def atp (ps : List Nat) (t : Nat) : Nat := ps.getD (t % ps.length) 0
/-- tickets taken before a tick -/
def tak (tk : List Nat) : Nat → Nat
  | 0 => 0
  | t + 1 => tak tk t + atp tk t
/-- tickets called before a tick -/
def cal (tk cl : List Nat) : Nat → Nat
  | 0 => 0
  | t + 1 => min (tak tk (t + 1)) (cal tk cl t + atp cl t)
def per (tk cl : List Nat) : Nat := Nat.lcm tk.length cl.length
section
variable {tk cl : List Nat}
theorem cal_le : ∀ t, cal tk cl t ≤ tak tk t
  | 0 => Nat.le_refl _
  | t + 1 => Nat.min_le_left _ _
theorem atp_add (ps : List Nat) (t p : Nat) (h : ps.length ∣ p) : atp ps (t + p) = atp ps t := by
  unfold atp
  obtain ⟨c, rfl⟩ := h
  rw [Nat.add_mul_mod_self_left]
theorem tak_add (p : Nat) (h : tk.length ∣ p) : ∀ t, tak tk (t + p) = tak tk t + tak tk p
  | 0 => by simp [tak]
  | t + 1 => by
    rw [show t + 1 + p = (t + p) + 1 by omega]
    show tak tk (t + p) + atp tk (t + p) = tak tk t + atp tk t + tak tk p
    rw [tak_add p h t, atp_add tk t p h]
    omega
theorem tak_mono : ∀ {a b : Nat}, a ≤ b → tak tk a ≤ tak tk b := by
  intro a b h
  induction h with
  | refl => exact Nat.le_refl _
  | step _ ih => exact Nat.le_trans ih (Nat.le_add_right _ _)
/-- who waits before a tick -/
def wt (tk cl : List Nat) (t : Nat) : Nat := tak tk t - cal tk cl t
theorem wt_cal (t : Nat) : cal tk cl t + wt tk cl t = tak tk t := by
  have := cal_le (tk := tk) (cl := cl) t
  unfold wt
  omega
theorem wt_succ (t : Nat) : wt tk cl (t + 1) = wt tk cl t + atp tk t - atp cl t := by
  have h1 := wt_cal (tk := tk) (cl := cl) t
  have h2 : cal tk cl (t + 1) = min (tak tk t + atp tk t) (cal tk cl t + atp cl t) := rfl
  have h3 : tak tk (t + 1) = tak tk t + atp tk t := rfl
  unfold wt
  rw [h2, h3]
  have h4 : wt tk cl t = tak tk t - cal tk cl t := rfl
  omega
theorem cal_succ (t : Nat) : cal tk cl (t + 1) = cal tk cl t + min (wt tk cl t + atp tk t) (atp cl t) := by
  have h1 := wt_cal (tk := tk) (cl := cl) t
  have h2 : cal tk cl (t + 1) = min (tak tk t + atp tk t) (cal tk cl t + atp cl t) := rfl
  rw [h2]
  omega
theorem cal_mono {a b : Nat} (h : a ≤ b) : cal tk cl a ≤ cal tk cl b := by
  induction h with
  | refl => exact Nat.le_refl _
  | step _ ih =>
    rw [Nat.succ_eq_add_one, cal_succ]
    omega
variable {p : Nat} (hp : 0 < p) (ht : tk.length ∣ p) (hc : cl.length ∣ p)
include ht hc in
theorem wt_up (t : Nat) : wt tk cl t ≤ wt tk cl (t + p) := by
  induction t with
  | zero => simp [wt, tak, cal]
  | succ t ih =>
    rw [show t + 1 + p = (t + p) + 1 by omega, wt_succ, wt_succ, atp_add tk t p ht, atp_add cl t p hc]
    omega
include ht hc in
theorem wt_same {s : Nat} (h : wt tk cl s = wt tk cl (s + p)) : ∀ t, s ≤ t → wt tk cl t = wt tk cl (t + p) := by
  intro t hs
  induction hs with
  | refl => exact h
  | @step t _ ih =>
    rw [show t.succ + p = (t + p) + 1 by omega, Nat.succ_eq_add_one, wt_succ, wt_succ, atp_add tk t p ht, atp_add cl t p hc, ih]
/-- from the second period on each period calls the same -/
theorem now_same (hp : 0 < p) (ht : tk.length ∣ p) (hc : cl.length ∣ p) (t : Nat) (h : p ≤ t) : min (wt tk cl (t + p) + atp tk (t + p)) (atp cl (t + p)) = min (wt tk cl t + atp tk t) (atp cl t) := by
  rw [atp_add tk t p ht, atp_add cl t p hc]
  by_cases st : ∃ s, p ≤ s ∧ s ≤ t ∧ wt tk cl s + atp tk s ≤ atp cl s ∧ s < 2 * p
  · obtain ⟨s, h1, h2, h3, h4⟩ := st
    obtain ⟨r, rfl⟩ : ∃ r, s = r + p := ⟨s - p, by omega⟩
    have u := wt_up (tk := tk) (cl := cl) ht hc r
    rw [atp_add tk r p ht, atp_add cl r p hc] at h3
    have e : wt tk cl (r + 1) = wt tk cl (r + 1 + p) := by
      rw [show r + 1 + p = (r + p) + 1 by omega, wt_succ, wt_succ, atp_add tk r p ht, atp_add cl r p hc]
      omega
    have := wt_same ht hc e t (by omega)
    rw [← this]
  · have full : ∀ k s, p ≤ s → s < 2 * p → s + k * p ≤ t → atp cl (s + k * p) ≤ wt tk cl (s + k * p) + atp tk (s + k * p) := by
      intro k
      induction k with
      | zero =>
        intro s h1 h2 h3
        by_cases q : wt tk cl s + atp tk s ≤ atp cl s
        · exact absurd ⟨s, h1, by omega, q, h2⟩ st
        · simp only [Nat.zero_mul, Nat.add_zero]
          omega
      | succ k ih =>
        intro s h1 h2 h3
        rw [Nat.succ_mul] at h3 ⊢
        have := ih s h1 h2 (by omega)
        have u := wt_up (tk := tk) (cl := cl) ht hc (s + k * p)
        rw [← Nat.add_assoc, atp_add tk _ p ht, atp_add cl _ p hc]
        omega
    have e : t = p + (t - p) % p + (t - p) / p * p := by
      have := Nat.mod_add_div (t - p) p
      rw [Nat.mul_comm] at this
      omega
    have f := full ((t - p) / p) (p + (t - p) % p) (by omega) (by have := Nat.mod_lt (t - p) hp; omega) (by omega)
    rw [← e] at f
    have u := wt_up (tk := tk) (cl := cl) ht hc t
    omega
theorem cal_per (hp : 0 < p) (ht : tk.length ∣ p) (hc : cl.length ∣ p) {t : Nat} (h : p ≤ t) : cal tk cl (t + p) + cal tk cl p = cal tk cl t + cal tk cl (2 * p) := by
  induction h with
  | refl => rw [show p + p = 2 * p by omega, Nat.add_comm]
  | @step t h ih =>
    rw [show t.succ + p = (t + p) + 1 by omega, Nat.succ_eq_add_one, cal_succ, cal_succ, now_same hp ht hc t h]
    omega
theorem cal_far (hp : 0 < p) (ht : tk.length ∣ p) (hc : cl.length ∣ p) {t : Nat} (h : p ≤ t) : ∀ k, cal tk cl (t + k * p) = cal tk cl t + k * (cal tk cl (2 * p) - cal tk cl p)
  | 0 => by simp
  | k + 1 => by
    have ih := cal_far hp ht hc h k
    have m := cal_mono (tk := tk) (cl := cl) (show p ≤ 2 * p by omega)
    have q := cal_per (tk := tk) (cl := cl) hp ht hc (t := t + k * p) (by omega)
    rw [Nat.succ_mul, Nat.succ_mul, ← Nat.add_assoc]
    omega
/-- what the program reckons -/
theorem cal_is (hp : 0 < p) (ht : tk.length ∣ p) (hc : cl.length ∣ p) (t : Nat) : cal tk cl t = (t / p - 1) * (cal tk cl (2 * p) - cal tk cl p) + cal tk cl (t - (t / p - 1) * p) := by
  rcases Nat.eq_zero_or_pos (t / p - 1) with e | e
  · rw [e]
    simp
  · have h1 : t / p * p ≤ t := Nat.div_mul_le_self t p
    have h2 : (t / p - 1) * p + p = t / p * p := by
      rw [Nat.sub_mul, Nat.one_mul]
      have : p ≤ t / p * p := Nat.le_mul_of_pos_left p (by omega)
      omega
    have q := cal_far (tk := tk) (cl := cl) hp ht hc (t := t - (t / p - 1) * p) (by omega) (t / p - 1)
    rw [show t - (t / p - 1) * p + (t / p - 1) * p = t by omega] at q
    rw [q]
    exact Nat.add_comm _ _
theorem rest_lt (hp : 0 < p) (t : Nat) : t - (t / p - 1) * p < 2 * p := by
  have h := Nat.mod_add_div t p
  have m := Nat.mod_lt t hp
  rcases Nat.eq_zero_or_pos (t / p) with e | e
  · rw [e] at h ⊢
    omega
  · obtain ⟨k, hk⟩ : ∃ k, t / p = k + 1 := ⟨t / p - 1, by omega⟩
    rw [hk] at h ⊢
    rw [Nat.mul_comm, Nat.succ_mul] at h
    simp only [Nat.add_sub_cancel]
    omega
theorem take_sum (tk : List Nat) : ∀ i, i ≤ tk.length → tak tk i = (tk.take i).sum
  | 0, _ => by simp [tak]
  | i + 1, h => by
    show tak tk i + atp tk i = _
    rw [take_sum tk i (by omega)]
    unfold atp
    rw [Nat.mod_eq_of_lt (by omega), List.getD_eq_getElem?_getD, List.getElem?_eq_getElem (by omega)]
    have e : tk.take (i + 1) = tk.take i ++ [tk[i]] := by simp
    rw [e, List.sum_append]
    simp
theorem tak_mul (tk : List Nat) : ∀ q r, tak tk (r + q * tk.length) = q * tk.sum + tak tk r
  | 0, r => by simp
  | q + 1, r => by
    rw [Nat.succ_mul, ← Nat.add_assoc, tak_add tk.length (Nat.dvd_refl _), tak_mul tk q r, take_sum tk tk.length (Nat.le_refl _), List.take_length, Nat.succ_mul]
    omega
theorem tak_is (tk : List Nat) (h : 0 < tk.length) (t : Nat) : tak tk t = t / tk.length * tk.sum + (tk.take (t % tk.length)).sum := by
  rw [← take_sum tk (t % tk.length) (Nat.le_of_lt (Nat.mod_lt t h)), ← tak_mul tk (t / tk.length)]
  congr 1
  have := Nat.mod_add_div t tk.length
  rw [Nat.mul_comm] at this
  omega
theorem per_tk : tk.length ∣ per tk cl := Nat.dvd_lcm_left _ _
theorem per_cl : cl.length ∣ per tk cl := Nat.dvd_lcm_right _ _
theorem per_pos (h1 : 0 < tk.length) (h2 : 0 < cl.length) : 0 < per tk cl := Nat.lcm_pos h1 h2
theorem per_le : per tk cl ≤ tk.length * cl.length := by
  unfold per Nat.lcm
  exact Nat.div_le_self _ _
theorem atp_le {ps : List Nat} (h9 : ∀ x ∈ ps, x ≤ 9) (t : Nat) : atp ps t ≤ 9 := by
  unfold atp
  rw [List.getD_eq_getElem?_getD]
  cases e : ps[t % ps.length]? with
  | none => simp
  | some x =>
    simp only [Option.getD_some]
    exact h9 x (List.mem_of_getElem? e)
theorem tak_le {tk : List Nat} (h9 : ∀ x ∈ tk, x ≤ 9) : ∀ t, tak tk t ≤ 9 * t
  | 0 => Nat.le_refl _
  | t + 1 => by
    have h1 := tak_le h9 t
    have h2 := atp_le h9 t
    show tak tk t + atp tk t ≤ 9 * (t + 1)
    omega
end
end Mm

/-! ### The checks of arguments -/
namespace Tk
open PySem PySem.Spec PyProof.Rows L2
/-- values of the kinds that are passed -/
inductive Arg (H : Hp) : V → Prop where
  | non : Arg H .non
  | bl (b : Bool) : Arg H (.bl b)
  | int (i : Int) : Arg H (.int i)
  | str (x : Str) : Arg H (.str x)
  | lst {a : Addr} {xs : List V} (e : H a = some (.lst xs)) : Arg H (.ref a)
  | tup {a : Addr} {xs : List V} (e : H a = some (.tup xs)) : Arg H (.ref a)
def isInt : V → Bool
  | .int _ => true
  | _ => false
def inB (lo hi : Int) : V → Bool
  | .int i => decide (lo ≤ i) && decide (i ≤ hi)
  | _ => false
def spWithin : Sp := fun vs H Q _ => ∃ (v : V) (lo hi : Int), vs = [v, .int lo, .int hi] ∧ Arg H v ∧ Q (.bl (inB lo hi v)) H
section
variable {P : Program} {w : World} {K : PySem.W.Frag} {mg : Str → Option Value} {base : Heap}
theorem boot_ty_bool : bootBuiltins "bool" = some (.type "bool") := by decide +kernel
theorem boot_ty_int : bootBuiltins "int" = some (.type "int") := by decide +kernel
theorem boot_ty_str : bootBuiltins "str" = some (.type "str") := by decide +kernel
theorem boot_ty_tuple : bootBuiltins "tuple" = some (.type "tuple") := by decide +kernel
theorem boot_ty_list : bootBuiltins "list" = some (.type "list") := by decide +kernel
theorem kit_at {a b : String} {r : Bool} (h : kitB a b = some r) : PySem.W.kitOne K (.type a) (.type b) = some r := kit_ty h
/-- the type of such a value and what isinstance says of five classes -/
theorem Arg.ty {H : Hp} {v : V} (h : Arg H v) : ∃ n : String, TyX K H v (.type n) ∧ (∃ b, kitB n "bool" = some b ∧ (b = true ↔ ∃ x, v = .bl x)) ∧ (∃ b, kitB n "int" = some b ∧ (b = true ↔ ((∃ x, v = .bl x) ∨ ∃ i, v = .int i))) := by
  cases h with
  | non => exact ⟨_, .base .non, ⟨false, by decide +kernel, by simp⟩, ⟨false, by decide +kernel, by simp⟩⟩
  | bl b => exact ⟨_, .base (.bl b), ⟨true, by decide +kernel, by simp⟩, ⟨true, by decide +kernel, by simp⟩⟩
  | int i => exact ⟨_, .base (.int i), ⟨false, by decide +kernel, by simp⟩, ⟨true, by decide +kernel, by simp⟩⟩
  | str x => exact ⟨_, .base (.str x), ⟨false, by decide +kernel, by simp⟩, ⟨false, by decide +kernel, by simp⟩⟩
  | lst e => exact ⟨_, .base (.lst e), ⟨false, by decide +kernel, by simp⟩, ⟨false, by decide +kernel, by simp⟩⟩
  | tup e => exact ⟨_, .base (.tup e), ⟨false, by decide +kernel, by simp⟩, ⟨false, by decide +kernel, by simp⟩⟩
theorem ok_is_integer_within (T : Txt K mg) : OkF P w K mg base 1 (He.ga K "is_integer_within") ["value", "low", "high"] spWithin := by
  refine FnP.okF T.f_is_integer_within sc_is_integer_within (fun _ _ _ _ _ _ us hl => match us, hl with | [_, _, _], _ => rfl) (fun vs H Q E h => ?_) (fun cdv A outer s H vs Q E hr h => ?_)
  · obtain ⟨v, lo, hi, rfl, _⟩ := h
    rfl
  obtain ⟨v, lo, hi, rfl, hv, k⟩ := h
  refine ⟨_, (pss_cons (ps_if (PW.pt (pw_or (pt_val (pe_callB (isiK (K := K)) (by rfl) T.g_isinstance (by decide +kernel) (pa_cons (pv 0) (pa_cons (pe_bltn (v := .ty "bool") (by rfl) T.g_bool boot_ty_bool rfl) pa_nil)))) (pw_or1 (pt_not (pt_val (pe_callB (isiK (K := K)) (by rfl) T.g_isinstance (by decide +kernel) (pa_cons (pv 0) (pa_cons (pe_bltn (v := .ty "int") (by rfl) T.g_int boot_ty_int rfl) pa_nil)))))))) (pss_one (ps_ret pe_bl)) pss_nil)
    (pss_one (ps_ret (pe_chain op_le op_le (pv 1) (pv 0) (pv 2))))), ?_⟩
  obtain ⟨n, ty, ⟨b1, k1, e1⟩, ⟨b2, k2, e2⟩⟩ := Arg.ty (K := K) hv
  refine ⟨_, rfl, v, .ty "bool", _, _, b1, rfl, .ty "bool", ty, kit_at k1, b1, rfl, ?_⟩
  cases b1 with
  | true =>
    obtain ⟨x, rfl⟩ := e1.mp rfl
    exact k
  | false =>
    refine ⟨_, rfl, v, .ty "int", _, _, b2, rfl, .ty "int", ty, kit_at k2, b2, rfl, ?_⟩
    cases b2 with
    | false =>
      have no : inB lo hi v = false := by
        cases v with
        | int i => exact absurd (e2.mpr (.inr ⟨i, rfl⟩)) (by simp)
        | _ => rfl
      rw [no] at k
      exact k
    | true =>
      rcases e2.mp rfl with ⟨x, rfl⟩ | ⟨i, rfl⟩
      · exact absurd (e1.mpr ⟨x, rfl⟩) (by simp)
      · refine ⟨_, rfl, _, rfl, _, _, rfl, rfl, _, rfl, ?_⟩
        refine ite2 (fun c => ?_) (fun c => ?_)
        · refine ⟨_, rfl, _, _, rfl, rfl, ?_⟩
          have c1 : decide (lo ≤ i) = true := c
          show Q (V.bl (decide (i ≤ hi))) H
          have k' : Q (V.bl (decide (lo ≤ i) && decide (i ≤ hi))) H := k
          rw [c1, Bool.true_and] at k'
          exact k'
        · have c1 : decide (lo ≤ i) = false := by
            cases q : decide (lo ≤ i) with
            | true => exact absurd q c
            | false => rfl
          have k' : Q (V.bl (decide (lo ≤ i) && decide (i ≤ hi))) H := k
          rw [c1, Bool.false_and] at k'
          exact k'
end
end Tk

/-! ### for i, x in enumerate(a tuple) -/
namespace Tk
open PySem PySem.Spec PyProof.Rows L2
set_option maxHeartbeats 1000000 in
theorem meets_enum1 {v : Value} {o : Obj} {Hs : Heap → Prop} (B : Begins v o Hs) : Meets (Builtin.«enumerate.__new__» ⟨[.type "enumerate", v], []⟩) (fun _ R s => Hs s.heap ∧
    R (.ok (.ret (.ref (s.heap.push o).objs.size))) { s with heap := (s.heap.push o).push { cls := .type "enumerate", data := .fields #[.none, .bool false, .ref s.heap.objs.size, rawInt 0, .none, .none] } }) :=
  .of_wp fun prog w A R s h => by
    obtain ⟨hp, g, d, tk, os⟩ := s
    obtain ⟨b0, b1⟩ := h
    have us := sub_enumerate
    have step : ∀ {A' : Around} {E : Value → Shared → Prop} {Q : Value → Shared → Prop}, Q (.ref hp.objs.size) ⟨hp.push o, g, d, tk, os⟩ → wpAny (model prog w) A' (pyIter v) Q E ⟨hp, g, d, tk, os⟩ :=
      fun z => B.iter prog w _ _ ⟨hp, g, d, tk, os⟩ _ b0 z
    wp_walk using step
    refine wpAny_stack_any fun st => wpAny_pure ?_
    split
    · rename_i c _ _ _ _ _
      cases (c == Value.type "enumerate") <;> (wp_walk using step; exact ⟨_, rfl, b1⟩)
    · wp_walk using step
      exact ⟨_, rfl, b1⟩
theorem enum_of_tuple {prog : Program} {w : World} {A : Around} {E : Value → Shared → Prop} {s : Shared} {t : Addr} {items : Array Value} {Q : Value → Shared → Prop} (ht : s.heap.IsTuple t items)
    (h : ∀ h', IsEnum h' (s.heap.objs.size + 1) s.heap.objs.size 0 .none → h'.IsTupleIter s.heap.objs.size t 0 → (∀ b o, s.heap.get? b = some o → h'.get? b = some o) → Q (.ref (s.heap.objs.size + 1)) { s with heap := h' }) :
    wpAny (model prog w) A (call (.type "enumerate") [.ref t]) Q E s := by
  refine callType_new F.called_enumerate (by decide) (F.typeCall_enumerate_1 _) (F.newCall_enumerate_1 _) (fun obj => F.args_object_init_2 obj _) F.entry_enumerate_new (meets_enum1 (begins_tuple t items)) ⟨ht, ?_⟩
  have z : (s.heap.push { cls := .type "tuple_iterator", data := .fields #[.ref t, .int 0 0] }).objs.size = s.heap.objs.size + 1 := Heap.size_push ..
  have e2 := Heap.get?_push_size (s.heap.push { cls := .type "tuple_iterator", data := .fields #[.ref t, .int 0 0] }) (o := { cls := .type "enumerate", data := .fields #[.none, .bool false, .ref s.heap.objs.size, rawInt 0, .none, .none] }) rfl
  show _ ∧ _
  rw [z] at e2 ⊢
  exact ⟨⟨_, e2, rfl⟩, h _ e2 ⟨_, Heap.get?_push_of_some _ (Heap.get?_push_size _ rfl), rfl, rfl⟩ fun b o x => Heap.get?_push_of_some _ (Heap.get?_push_of_some _ x)⟩
/-- the tuple at a, each item in a new pair -/
def Itu (K : PySem.W.Frag) (a : Addr) : It :=
  ⟨fun i H => ∃ (xs : List V) (x : V), SqT K H a xs ∧ xs[i]? = some x, fun i H v H' => ∃ T x, v = .ref T ∧ H T = none ∧ H' = upd H T (.tup [vnI i, x]) ∧ ∀ xs, SqT K H a xs → xs[i]? = some x, fun i H => ∃ xs : List V, SqT K H a xs ∧ xs.length ≤ i⟩
/-- an iterator at a tuple's end -/
theorem draws_end {prog : Program} {w : World} {A : Around} (hh : A.handled = none) (it t : Addr) (i : Nat) (items : Array Value) (hx : items[i]? = none) :
    Draws prog w A it [it, t] i (fun _ _ => False) (fun j h => j = i ∧ h.IsTupleIter it t i ∧ h.IsTuple t items) where
  live := fun _ _ st => let ⟨_, ⟨o, ho, _⟩, _⟩ := st; ⟨o, ho⟩
  frame := fun _ _ _ st hk => by
    obtain ⟨e, ⟨o, ho, r⟩, o2, ho2, r2⟩ := st
    exact ⟨e, ⟨o, hk it (by simp) o ho, r⟩, o2, hk t (by simp) o2 ho2, r2⟩
  item := fun j s Q E hj st _ => absurd st.1 (by omega)
  done := fun s Q E st hE => wpAny_nextOf_tuple_end hh st.2.1 st.2.2 hx hE
theorem turn_enumT {P : Program} {w : World} {K : PySem.W.Frag} {elts : List Expr} {kk : Nat} {tpos : Pos} (a e it : Addr) (h1 : e ≠ it) (h2 : a ≠ it) (h3 : a ≠ e) :
    Turn P w K (.Tuple elts kk tpos) (Itu K a) [e, it] e (fun i h => (∃ old, IsEnum h e it ((i : Nat) : Int) old) ∧ h.IsTupleIter it a i) where
  mem := List.mem_cons_self
  obj := fun i h st b hb => by
    obtain ⟨⟨old, he⟩, o, ho, hc, hd⟩ := st
    rcases List.mem_cons.mp hb with z | z
    · rw [z]
      exact ⟨_, he, fun v q => nomatch q⟩
    · exact ⟨o, by rw [List.mem_singleton.mp z]; exact ho, fun v q => by rw [hd] at q; cases q⟩
  keep := fun i h h' st k => by
    obtain ⟨⟨old, he⟩, o, ho, r⟩ := st
    exact ⟨⟨old, k e (by simp) _ he⟩, o, k it (by simp) o ho, r⟩
  item := by
    intro X hP hw hK hc i pins s σ H E I hf st hg
    subst hP hw hK
    obtain ⟨⟨old, he⟩, hit⟩ := st
    obtain ⟨xs, x, hq, hx⟩ := hg
    obtain ⟨its, rv, p, hz⟩ := I.tuple hq
    obtain ⟨u, hu, ru⟩ := rv.get hx
    have le : e < s.heap.objs.size := Heap.lt_size he
    have li : it < s.heap.objs.size := by
      obtain ⟨_, q, _⟩ := hit
      exact Heap.lt_size q
    have hi : i < its.toArray.size := by
      have := (List.getElem?_eq_some_iff.mp hu).1
      simpa using this
    refine wpAny_pyNext_enum_itemD (Draws.tuple (A := X.A.in1) (I.ok.hd hc) it a h2 its.toArray) he ⟨hit, istup_old p⟩ hi h1 (by simp [h1, h3.symm]) fun y h' tk hy ho hs hT hsz hk => ?_
    have ey : y = u := by
      have q : its[i]? = some y := by simpa using hy
      rw [hu] at q
      exact (Option.some.inj q).symm
    subst ey
    refine ⟨_, rfl, wpAny_letOwnedTupleGo_enum (s := { s with heap := h', toks := tk + 1 }) ho fun h2' he2 sb => ?_⟩
    have T2 : h2'.get? s.heap.objs.size = some { cls := .type "tuple", data := .seq #[.int i tk, y] } := (sb.2 _ (Nat.ne_of_gt le)).trans hT
    have I1 := I.turnedNew (t' := tk + 1) (ch := [e, it]) (h' := h2') (T := s.heap.objs.size) (ob := .tup [vnI i, x]) (fun b ob hb q => (sb.2 b (fun z => hb (by simp [z]))).trans (hk b ob (fun z => hb (by simp [z])) (fun z => hb (by simp [z])) q)) hf (Nat.le_refl _)
      ⟨by show 2 ≤ sizeLine; decide, [.int i tk, y], .cons ⟨_, rfl⟩ (.cons ru .nil), ⟨_, T2, rfl, _, rfl⟩⟩
    refine ⟨.ref s.heap.objs.size, _, I1, rfl, ⟨_, x, rfl, I.hok.fresh (Nat.le_refl _), rfl, fun ys hy2 => by rw [I.tuple_inj hy2 hq]; exact hx⟩, ⟨⟨y, ?_⟩, ?_⟩, fun b hb => ?_⟩
    · rw [show ((i + 1 : Nat) : Int) = (i : Int) + 1 by omega]
      exact he2
    · obtain ⟨⟨o, ho2, r⟩, _⟩ := hs
      exact ⟨o, (sb.2 it h1.symm).trans ho2, r⟩
    · have lb : b < s.heap.objs.size := by
        rcases List.mem_cons.mp hb with z | z
        · rw [z]; exact le
        · rw [List.mem_singleton.mp z]; exact li
      rw [upd_ne (Nat.ne_of_lt lb)]
      exact (hf b hb).1
  done := by
    intro X hP hw hK hc i pins s σ H E I hf st hg
    subst hP hw hK
    obtain ⟨⟨old, he⟩, hit⟩ := st
    obtain ⟨xs, hq, hx⟩ := hg
    obtain ⟨its, rv, p, hz⟩ := I.tuple hq
    have hl := rv.length
    refine wpAny_pyNext_enum_endD (draws_end (A := X.A.in1) (I.ok.hd hc) it a i its.toArray (by simp; omega)) he ⟨rfl, hit, istup_old p⟩ fun h' q => ⟨rfl, ?_⟩
    exact I.turnedL (t' := s.toks) (ch := [it]) (fun b o hb r => q b o (fun z => hb (by simp [z])) r) fun b hb => hf b (by rw [List.mem_singleton.mp hb]; simp)
  self := fun A i s Q E st h => by
    obtain ⟨⟨_, he⟩, _⟩ := st
    exact wpAny_pyIter_enum he h
def iEnumT (K : PySem.W.Frag) (ta : TA) : TI := fun σ H R => ta σ H fun vs H1 => ∃ a xs, vs = [.ref a] ∧ SqT K H1 a xs ∧ R (Itu K a) H1
theorem pi_enumT {X : Cx} {e : Expr} {ta : TA} {p pos tpos : Pos} {elts : List Expr} {kk : Nat} (hg : Gl X "enumerate") (hm : X.mg "enumerate" = none) (ha : PA X [e] ta) (hs : starEach [e] X.env = [(false, eval e X.env)] := by rfl) :
    PI X (.Tuple elts kk tpos) (.Call (.Name "enumerate" p) [e] [] pos) (iEnumT X.K ta) := by
  refine ⟨fun pins s σ H R I h => Call_ (ld_blt I hg hm boot_enumerate (PyProof.Rows.callWith_type1 (thn (ha.run pos pins s σ H _ I h) fun us s1 ⟨vs, H1, I1, r1, q1⟩ => ?_) hs rfl))⟩
  obtain ⟨a, xs, rfl, hq, q⟩ := q1
  cases r1 with
  | cons r rr =>
    cases rr
    cases r
    obtain ⟨its, rv, p', hz⟩ := I1.tuple hq
    have la : a < s1.heap.objs.size := p'.lt
    refine enum_of_tuple (istup_old p') fun h' he hit hk => wpAny_pyIter_enum he ?_
    refine ⟨s1.heap.objs.size + 1, [s1.heap.objs.size + 1, s1.heap.objs.size], _, _, H1, rfl, I1.kept (t' := s1.toks) hk, turn_enumT a (s1.heap.objs.size + 1) s1.heap.objs.size (Nat.succ_ne_self _) (Nat.ne_of_lt la) (Nat.ne_of_lt (Nat.lt_succ_of_lt la)), ⟨⟨.none, he⟩, hit⟩, fun b hb => ?_, q⟩
    have hle : s1.heap.objs.size ≤ b := by
      rcases List.mem_cons.mp hb with z | z
      · rw [z]; exact Nat.le_succ _
      · rw [List.mem_singleton.mp z]; exact Nat.le_refl _
    exact I1.fpOk hle (I1.hok.fresh hle)
/-- its loop -/
theorem for_enumT {K : PySem.W.Frag} {a : Addr} {xs : List V} {g : TG} {tb : TS} {D : Ends} {σ : L2.St} {H : Hp} (Pv : Nat → L2.St → Hp → Prop) (h0 : Pv 0 σ H) (hl : ∀ i σ H, i ≤ xs.length → Pv i σ H → SqT K H a xs)
    (hs : ∀ i x σ H, xs[i]? = some x → Pv i σ H → ∀ T, H T = none → g (.ref T) σ (upd H T (.tup [vnI i, x])) fun σ2 H2 => tb { D with nx := Pv (i + 1), ct := Pv (i + 1), bk := D.nx } σ2 H2) (hd : ∀ σ H, Pv xs.length σ H → D.nx σ H) :
    ∃ W : Nat → Nat → L2.St → Hp → Prop, (∃ m, W 0 m σ H) ∧ ∀ i m σ H, W i m σ H →
      ((Itu K a).stop i H ∧ D.nx σ H) ∨ ((Itu K a).go i H ∧ ∃ N : L2.St → Hp → Prop, (∀ σ' H', N σ' H' → ∃ m', m' < m ∧ W (i + 1) m' σ' H') ∧ ∀ x H', (Itu K a).yld i H x H' → g x σ H' fun σ2 H2 => tb { D with nx := N, ct := N, bk := D.nx } σ2 H2) := by
  refine ⟨fun i m σ H => m = xs.length - i ∧ i ≤ xs.length ∧ Pv i σ H, ⟨_, rfl, Nat.zero_le _, h0⟩, fun i m σ H w => ?_⟩
  obtain ⟨rfl, hi, p⟩ := w
  have sq := hl i σ H hi p
  rcases Nat.lt_or_ge i xs.length with lt | ge
  · have at_ : xs[i]? = some xs[i] := by simp [lt]
    refine .inr ⟨⟨xs, xs[i], sq, at_⟩, Pv (i + 1), fun σ' H' p' => ⟨_, (by omega : xs.length - (i + 1) < xs.length - i), rfl, lt, p'⟩, fun x H' y => ?_⟩
    obtain ⟨T, x', rfl, hT, rfl, hx⟩ := y
    exact hs i x' σ H (hx xs sq) p T hT
  · obtain rfl : i = xs.length := by omega
    exact .inl ⟨⟨xs, sq, Nat.le_refl _⟩, hd σ H p⟩
end Tk

/-! ### The checks, of what is valid -/
namespace Tk
open PySem PySem.Spec PyProof.Rows L2
def spTick : Sp := fun vs H Q _ => ∃ t : Int, vs = [.int t] ∧ 0 ≤ t ∧ t ≤ 1000000000000000000 ∧ Q .non H
def spFii : Sp := fun vs H Q _ => ∃ (p : Addr) (ps : List Nat), vs = [.ref p] ∧ H p = some (.tup (ps.map vn)) ∧ Pat ps ∧ ∀ H', Same H H' → Q .non H'
def spChk : Sp := fun vs H Q _ => ∃ (v : V) (p : Addr) (ps : List Nat), vs = [v, .ref p] ∧ H p = some (.tup (ps.map vn)) ∧ Pat ps ∧ ∀ H', Same H H' → Q .non H'
def spChall : Sp := fun vs H Q _ => ∃ (tp cp : Addr) (m lt : Nat) (tk cl : List Nat), vs = [vn m, .ref tp, .ref cp, vn lt] ∧ H tp = some (.tup (tk.map vn)) ∧ H cp = some (.tup (cl.map vn)) ∧ Parts m tk cl lt ∧ ∀ H', Same H H' → Q .non H'
theorem inB_in {lo hi i : Int} (h1 : lo ≤ i) (h2 : i ≤ hi) : inB lo hi (.int i) = true := by
  show (decide (lo ≤ i) && decide (i ≤ hi)) = true
  rw [decide_eq_true h1, decide_eq_true h2]
  rfl
theorem Same.upd2 {H : Hp} {a : Addr} {o : HO} (h : H a = none) {H0 : Hp} (s : Same H0 H) : Same H0 (upd H a o) := s.trans (Same.new h)
section
variable {P : Program} {w : World} {K : PySem.W.Frag} {mg : Str → Option Value} {base : Heap}
theorem ok_check_tick (T : Txt K mg) : OkF P w K mg base 2 (He.ga K "check_tick") ["tick"] spTick := by
  have G_is_integer_within : OkF P w K mg base 1 (He.ga K "is_integer_within") ["value", "low", "high"] spWithin := ok_is_integer_within T
  refine FnP.okF T.f_check_tick sc_check_tick (fun _ _ _ _ _ _ us hl => match us, hl with | [_], _ => rfl) (fun vs H Q E h => ?_) (fun cdv A outer s H vs Q E hr h => ?_)
  · obtain ⟨t, rfl, _⟩ := h
    rfl
  obtain ⟨t, rfl, t0, t1, k⟩ := h
  refine ⟨_, (pss_one (ps_if (pt_not (pt_val (pe_call G_is_integer_within.one (hr.mono (by decide)) (by rfl) T.g_is_integer_within G_is_integer_within.kp G_is_integer_within.two .nil passL (pa_cons (pv 0) (pa_cons pe_int (pa_cons (pe_gint (by rfl) T.c_LAST_TICK) pa_nil)))))) (pss_one ps_never) pss_nil)), ?_⟩
  refine ⟨_, rfl, .int t, 0, 1000000000000000000, rfl, .int t, true, by rw [inB_in t0 t1], ?_⟩
  exact k
theorem ok_first_invalid_item (T : Txt K mg) : OkF P w K mg base 2 (He.ga K "first_invalid_item") ["pattern"] spFii := by
  have G_is_integer_within : OkF P w K mg base 1 (He.ga K "is_integer_within") ["value", "low", "high"] spWithin := ok_is_integer_within T
  refine FnP.okF T.f_first_invalid_item sc_first_invalid_item (fun _ _ _ _ _ _ us hl => match us, hl with | [_], _ => rfl) (fun vs H Q E h => ?_) (fun cdv A outer s H vs Q E hr h => ?_)
  · obtain ⟨p, ps, rfl, _⟩ := h
    rfl
  obtain ⟨p, ps, rfl, hp, hP, k⟩ := h
  refine ⟨_, (pss_cons (ps_if (PW.pt (pw_or (pt_not (pt_val (pe_callB (isiK (K := K)) (by rfl) T.g_isinstance (by decide +kernel) (pa_cons (pv 0) (pa_cons (pe_bltn (v := .ty "tuple") (by rfl) T.g_tuple boot_ty_tuple rfl) pa_nil))))) (pw_or1 (pt_cmpR op_eq (pe_callB (lenK (K := K)) (by rfl) T.g_len (by decide +kernel) (pa_cons (pv 0) pa_nil)) pe_int (nomark _))))) (pss_one (ps_ret pe_int)) pss_nil)
    (pss_cons (ps_for own_cx rfl (pi_enumT (by rfl) T.g_enumerate (pa_cons (pv 0) pa_nil)) (pg_tup rfl (pgs_cons (pg_name (i := 1) sc_first_invalid_item.nd rfl (Or.inl rfl)) (pgs_cons (pg_name (i := 2) sc_first_invalid_item.nd rfl (Or.inl rfl)) pgs_nil)))
      (pss_one (ps_if (PW.pt (pw_or (pt_cmpR op_eq (pv 1) (pe_gint (by rfl) T.c_MOST_ITEMS) (nomark _)) (pw_or1 (pt_not (pt_val (pe_call G_is_integer_within.one (hr.mono (by decide)) (by rfl) T.g_is_integer_within G_is_integer_within.kp G_is_integer_within.two .nil passL (pa_cons (pv 2) (pa_cons pe_int (pa_cons (pe_gint (by rfl) T.c_GREATEST_ITEM) pa_nil))))))))) (pss_one (ps_ret (pv 1))) pss_nil)))
    (pss_one (ps_ret pe_non)))), ?_⟩
  -- not a tuple, or empty
  refine ⟨_, rfl, .ref p, .ty "tuple", .type "tuple", _, true, rfl, .ty "tuple", .base (.tup hp), kit_at (by decide +kernel), true, rfl, ?_⟩
  refine ⟨_, rfl, p, _, rfl, .inr (SqT.of hp), rfl, _, rfl, ?_⟩
  refine ite2 (fun c => ?_) (fun _ => ?_)
  · exfalso
    have e : V.int ((ps.map vn).length : Int) = V.int 0 := of_decide_eq_true c
    have e2 : ((ps.map vn).length : Int) = 0 := by injection e
    rw [List.length_map] at e2
    have := hP.pos
    omega
  refine ⟨_, rfl, p, _, rfl, SqT.of hp, for_enumT (K := K) (a := p) (xs := ps.map vn) (fun i σ H2 => ∃ a b, σ = [some (.ref p), a, b] ∧ Same H H2) ⟨_, _, rfl, Same.refl H⟩
    (fun i σ H2 _ ⟨_, _, _, e⟩ => SqT.of (e _ _ hp)) ?_ ?_⟩
  · rintro i x σ H2 hx ⟨a, b, rfl, hS⟩ Tp hT
    have hi : i < ps.length := by
      have := (List.getElem?_eq_some_iff.mp hx).1
      rwa [List.length_map] at this
    obtain ⟨y, rfl, hy⟩ : ∃ y, x = vn y ∧ ps[i]? = some y := by
      rw [List.getElem?_map] at hx
      cases e : ps[i]? with
      | none => rw [e] at hx; cases hx
      | some u => rw [e] at hx; exact ⟨u, (Option.some.inj hx).symm, rfl⟩
    have y9 := hP.nine y (List.mem_of_getElem? hy)
    have hS2 : Same H (upd H2 Tp (.tup [vnI i, vn y])) := Same.upd2 hT hS
    refine ⟨Tp, _, rfl, SqT.of upd_same, rfl, _, _, rfl, _, _, rfl, rfl, ?_⟩
    refine ⟨_, rfl, rfl, _, rfl, ?_⟩
    refine ite2 (fun c => ?_) (fun _ => ?_)
    · exfalso
      have e : V.int (i : Int) = V.int 12 := of_decide_eq_true c
      have e2 : (i : Int) = 12 := by injection e
      have := hP.len
      omega
    refine ⟨_, rfl, vn y, 0, 9, rfl, .int _, true, by rw [inB_in (by omega) (by omega)], ?_⟩
    exact ⟨_, _, rfl, hS2⟩
  · rintro σ H2 ⟨a, b, rfl, hS⟩
    exact k H2 hS
theorem ok_check_pattern (T : Txt K mg) : OkF P w K mg base 4 (He.ga K "check_pattern") ["part", "pattern"] spChk := by
  have G_first_invalid_item : OkF P w K mg base 2 (He.ga K "first_invalid_item") ["pattern"] spFii := ok_first_invalid_item T
  refine FnP.okF T.f_check_pattern sc_check_pattern (fun _ _ _ _ _ _ us hl => match us, hl with | [_, _], _ => rfl) (fun vs H Q E h => ?_) (fun cdv A outer s H vs Q E hr h => ?_)
  · obtain ⟨v, p, ps, rfl, _⟩ := h
    rfl
  obtain ⟨v, p, ps, rfl, hp, hP, k⟩ := h
  refine ⟨_, (pss_cons (ps_set (i := 2) sc_check_pattern.nd rfl (Or.inl rfl) (pe_call G_first_invalid_item.one (hr.mono (by decide)) (by rfl) T.g_first_invalid_item G_first_invalid_item.kp G_first_invalid_item.two .nil passL (pa_cons (pv 1) pa_nil)))
    (pss_one (ps_if (pt_cmpR (show OpR _ (compareOp .IsNot) Rd.rNotN from op_notN) (pv 2) pe_non (nomark _)) (pss_one ps_never) pss_nil))), ?_⟩
  refine ⟨_, rfl, p, ps, rfl, hp, hP, fun H' hS => ?_⟩
  refine ⟨_, rfl, rfl, _, rfl, ?_⟩
  exact k H' hS
theorem ok_check_hall (T : Txt K mg) : OkF P w K mg base 5 (He.ga K "check_hall") ["modulus", "takes", "calls", "lateness"] spChall := by
  have G_is_integer_within : OkF P w K mg base 1 (He.ga K "is_integer_within") ["value", "low", "high"] spWithin := ok_is_integer_within T
  have G_check_pattern : OkF P w K mg base 4 (He.ga K "check_pattern") ["part", "pattern"] spChk := ok_check_pattern T
  refine FnP.okF T.f_check_hall sc_check_hall (fun _ _ _ _ _ _ us hl => match us, hl with | [_, _, _, _], _ => rfl) (fun vs H Q E h => ?_) (fun cdv A outer s H vs Q E hr h => ?_)
  · obtain ⟨tp, cp, m, lt, tk, cl, rfl, _⟩ := h
    rfl
  obtain ⟨tp, cp, m, lt, tk, cl, rfl, htp, hcp, hP, k⟩ := h
  refine ⟨_, (pss_cons (ps_if (pt_not (pt_val (pe_call G_is_integer_within.one (hr.mono (by decide)) (by rfl) T.g_is_integer_within G_is_integer_within.kp G_is_integer_within.two .nil passL (pa_cons (pv 0) (pa_cons (pe_gint (by rfl) T.c_LEAST_MODULUS) (pa_cons (pe_gint (by rfl) T.c_GREATEST_MODULUS) pa_nil)))))) (pss_one ps_never) pss_nil)
    (pss_cons (ps_expr (pe_call G_check_pattern.one (hr.mono (by decide)) (by rfl) T.g_check_pattern G_check_pattern.kp G_check_pattern.two .nil passL (pa_cons pe_str (pa_cons (pv 1) pa_nil))))
    (pss_cons (ps_expr (pe_call G_check_pattern.one (hr.mono (by decide)) (by rfl) T.g_check_pattern G_check_pattern.kp G_check_pattern.two .nil passL (pa_cons pe_str (pa_cons (pv 2) pa_nil))))
    (pss_one (ps_if (pt_not (pt_val (pe_call G_is_integer_within.one (hr.mono (by decide)) (by rfl) T.g_is_integer_within G_is_integer_within.kp G_is_integer_within.two .nil passL (pa_cons (pv 3) (pa_cons pe_int (pa_cons (pe_gint (by rfl) T.c_GREATEST_LATENESS) pa_nil)))))) (pss_one ps_never) pss_nil))))), ?_⟩
  have m2 := hP.m2
  have m4 := hP.m4
  have l9 := hP.l99
  refine ⟨_, rfl, vn m, 2, 10000, rfl, .int _, true, by rw [inB_in (by omega) (by omega)], ?_⟩
  refine ⟨_, rfl, _, tp, tk, rfl, htp, hP.tkP, fun H1 S1 => ?_⟩
  refine ⟨_, rfl, _, cp, cl, rfl, S1 _ _ hcp, hP.clP, fun H2 S2 => ?_⟩
  refine ⟨_, rfl, vn lt, 0, 99, rfl, .int _, true, by rw [inB_in (by omega) (by omega)], ?_⟩
  exact k H2 (S1.trans S2)
end
end Tk

/-! ### The hall -/
namespace Tk
open PySem PySem.Spec PyProof.Rows L2 Mm
def calV (tk cl : List Nat) (n : Nat) : List V := (List.range (n + 1)).map fun t => vn (cal tk cl t)
theorem calV_len {tk cl : List Nat} {n : Nat} : (calV tk cl n).length = n + 1 := by unfold calV; simp
theorem calV_at {tk cl : List Nat} {n t : Nat} (h : t ≤ n) : (calV tk cl n)[t]? = some (vn (cal tk cl t)) := by
  unfold calV
  rw [List.getElem?_map, List.getElem?_range (by omega)]
  rfl
theorem calV_succ {tk cl : List Nat} {n : Nat} : calV tk cl (n + 1) = calV tk cl n ++ [vn (cal tk cl (n + 1))] := by
  unfold calV
  rw [List.range_succ, List.map_append]
  rfl
theorem pat_at {ps : List Nat} (h : 0 < ps.length) {z : Int} {i : Nat} (e : z = (i : Int)) : atI (ps.map vn) (z % ((ps.map vn).length : Int)) = some (vn (atp ps i)) := by
  subst e
  rw [List.length_map, show (i : Int) % (ps.length : Int) = ((i % ps.length : Nat) : Int) from (Int.natCast_emod _ _).symm]
  refine atn ?_
  have lt := Nat.mod_lt i h
  rw [List.getElem?_map]
  unfold atp
  rw [List.getD_eq_getElem?_getD, List.getElem?_eq_getElem lt]
  rfl
def hfs (m : Nat) (tp cp : Addr) (lt : Nat) (lp : Addr) : List (Str × V) := putF "_called" (.ref lp) (putF "lateness" (vn lt) (putF "calls" (.ref cp) (putF "takes" (.ref tp) (putF "modulus" (vn m) []))))
theorem hfs_no {m : Nat} {tp cp : Addr} {lt : Nat} {lp : Addr} {x : Str} (h1 : ¬ x = "_called") (h2 : ¬ x = "lateness") (h3 : ¬ x = "calls") (h4 : ¬ x = "takes") (h5 : ¬ x = "modulus") : (hfs m tp cp lt lp).lookup x = none := by
  unfold hfs
  rw [lookup_putF, if_neg h1, lookup_putF, if_neg h2, lookup_putF, if_neg h3, lookup_putF, if_neg h4, lookup_putF, if_neg h5]
  rfl
theorem hfs_takes {m : Nat} {tp cp : Addr} {lt : Nat} {lp : Addr} : (hfs m tp cp lt lp).lookup ("takes" : Str) = some (.ref tp) := by
  unfold hfs
  rw [lookup_putF, if_neg (by decide +kernel), lookup_putF, if_neg (by decide +kernel), lookup_putF, if_neg (by decide +kernel), lookup_putF, if_pos rfl]
theorem hfs_calls {m : Nat} {tp cp : Addr} {lt : Nat} {lp : Addr} : (hfs m tp cp lt lp).lookup ("calls" : Str) = some (.ref cp) := by
  unfold hfs
  rw [lookup_putF, if_neg (by decide +kernel), lookup_putF, if_neg (by decide +kernel), lookup_putF, if_pos rfl]
theorem hfs_lateness {m : Nat} {tp cp : Addr} {lt : Nat} {lp : Addr} : (hfs m tp cp lt lp).lookup ("lateness" : Str) = some (vn lt) := by
  unfold hfs
  rw [lookup_putF, if_neg (by decide +kernel), lookup_putF, if_pos rfl]
theorem hfs_called {m : Nat} {tp cp : Addr} {lt : Nat} {lp : Addr} : (hfs m tp cp lt lp).lookup ("_called" : Str) = some (.ref lp) := by
  unfold hfs
  rw [lookup_putF, if_pos rfl]
theorem hfs_modulus {m : Nat} {tp cp : Addr} {lt : Nat} {lp : Addr} : (hfs m tp cp lt lp).lookup ("modulus" : Str) = some (vn m) := by
  unfold hfs
  rw [lookup_putF, if_neg (by decide +kernel), lookup_putF, if_neg (by decide +kernel), lookup_putF, if_neg (by decide +kernel), lookup_putF, if_neg (by decide +kernel), lookup_putF, if_pos rfl]
/-- a hall at h, its numbers of calls at lp -/
structure HallAt (C : Addr) (H : Hp) (h : Addr) (m : Nat) (tk cl : List Nat) (lt : Nat) (lp : Addr) : Prop where
  ex : ∃ dx tp cp, H h = some (.ins C dx (hfs m tp cp lt lp)) ∧ H tp = some (.tup (tk.map vn)) ∧ H cp = some (.tup (cl.map vn))
  lst : H lp = some (.lst (calV tk cl (2 * per tk cl)))
  ok : Parts m tk cl lt
theorem HallAt.but {C d h lp : Addr} {H H' : Hp} {m lt : Nat} {tk cl : List Nat} {cs : List V} (p : HallAt C H h m tk cl lt lp) (b : But d H H') (hd : H d = some (.lst cs)) (n : lp ≠ d) : HallAt C H' h m tk cl lt lp := by
  obtain ⟨dx, tp, cp, h1, h2, h3⟩ := p.ex
  exact ⟨⟨dx, tp, cp, b _ _ (ne_of h1 hd (fun q => by cases q)) h1, b _ _ (ne_of h2 hd (fun q => by cases q)) h2, b _ _ (ne_of h3 hd (fun q => by cases q)) h3⟩, b _ _ n p.lst, p.ok⟩
theorem HallAt.same {C h lp : Addr} {H H' : Hp} {m lt : Nat} {tk cl : List Nat} (p : HallAt C H h m tk cl lt lp) (b : Same H H') : HallAt C H' h m tk cl lt lp := by
  obtain ⟨dx, tp, cp, h1, h2, h3⟩ := p.ex
  exact ⟨⟨dx, tp, cp, b _ _ h1, b _ _ h2, b _ _ h3⟩, b _ _ p.lst, p.ok⟩
def spCount : Sp := fun vs H Q _ => ∃ (tp cp : Addr) (tk cl : List Nat) (n : Nat), vs = [.ref tp, .ref cp, vn n] ∧ H tp = some (.tup (tk.map vn)) ∧ H cp = some (.tup (cl.map vn)) ∧ Pat tk ∧ Pat cl ∧ n ≤ 1000 ∧
  ∀ l H', H l = none → Same H H' → H' l = some (.lst (calV tk cl n)) → Q (.ref l) H'
def spPeriod (C : Addr) : Sp := fun vs H Q _ => ∃ (h dx tp cp : Addr) (fs : List (Str × V)) (tk cl : List Nat), vs = [.ref h] ∧ H h = some (.ins C dx fs) ∧ fs.lookup ("takes" : Str) = some (.ref tp) ∧ fs.lookup ("calls" : Str) = some (.ref cp) ∧
  H tp = some (.tup (tk.map vn)) ∧ H cp = some (.tup (cl.map vn)) ∧ Pat tk ∧ Pat cl ∧ Q (vn (per tk cl)) H
def spInit (C : Addr) : Sp := fun vs H Q _ => ∃ (x dx tp cp : Addr) (m lt : Nat) (tk cl : List Nat), vs = [.ref x, vn m, .ref tp, .ref cp, vn lt] ∧ H x = some (.ins C dx []) ∧ H tp = some (.tup (tk.map vn)) ∧ H cp = some (.tup (cl.map vn)) ∧ Parts m tk cl lt ∧
  ∀ H' lp, But x H H' → H lp = none → HallAt C H' x m tk cl lt lp → Q .non H'
theorem per_144 {tk cl : List Nat} (h1 : Pat tk) (h2 : Pat cl) : per tk cl ≤ 144 := by
  have := per_le (tk := tk) (cl := cl)
  have a := Nat.mul_le_mul h1.len h2.len
  omega
theorem vn_int {z : Int} {n : Nat} (h : z = (n : Int)) : V.int z = vn n := by rw [h]
section
variable {P : Program} {w : World} {K : PySem.W.Frag} {mg : Str → Option Value} {base : Heap}
theorem ok_count_calls (T : Txt K mg) : OkF P w K mg base 1 (He.ga K "count_calls") ["takes", "calls", "ticks"] spCount := by
  refine FnP.okF T.f_count_calls sc_count_calls (fun _ _ _ _ _ _ us hl => match us, hl with | [_, _, _], _ => rfl) (fun vs H Q E h => ?_) (fun cdv A outer s H vs Q E hr h => ?_)
  · obtain ⟨tp, cp, tk, cl, n, rfl, _⟩ := h
    rfl
  obtain ⟨tp, cp, tk, cl, n, rfl, htp, hcp, hT, hC, hn, k⟩ := h
  refine ⟨_, (pss_cons (ps_set (i := 3) sc_count_calls.nd rfl (Or.inl rfl) (pe_lst (pa_cons pe_int pa_nil)))
    (pss_cons (ps_set (i := 4) sc_count_calls.nd rfl (Or.inl rfl) pe_int)
    (pss_cons (ps_for own_cx rfl (pi_range1 (by rfl) T.g_range (pa_cons (pv 2) pa_nil)) (pg_name (i := 5) sc_count_calls.nd rfl (Or.inl rfl))
      (pss_cons (ps_aug (i := 4) sc_count_calls.nd rfl (Or.inl rfl) (pe_ix (ixTK (K := K)) (pv 0) (pe_op op_mod (pv 5) (pe_callB (lenK (K := K)) (by rfl) T.g_len (by decide +kernel) (pa_cons (pv 0) pa_nil))) (fun _ _ => rfl)) ip_add)
    (pss_cons (ps_set (i := 6) sc_count_calls.nd rfl (Or.inl rfl) (pe_callB (show CallR _ (.builtin "min") Rd.rMin2 from call_min2 (by rfl)) (by rfl) T.g_min (by decide +kernel) (pa_cons (pv 4) (pa_cons (pe_ix (ixTK (K := K)) (pv 1) (pe_op op_mod (pv 5) (pe_callB (lenK (K := K)) (by rfl) T.g_len (by decide +kernel) (pa_cons (pv 1) pa_nil))) (fun _ _ => rfl)) pa_nil))))
    (pss_cons (ps_aug (i := 4) sc_count_calls.nd rfl (Or.inl rfl) (pv 6) ip_sub)
    (pss_one (ps_expr (pe_bm PySem.F.plainAttrs_list PySem.F.slot_list_append PySem.F.type_list_append mt_append (pv 3) (pa_cons (pe_op op_add (pe_ix (ixLK (K := K)) (pv 3) (pv 5) (fun _ _ => rfl)) (pv 6)) pa_nil))))))))
    (pss_one (ps_ret (pv 3)))))), ?_⟩
  refine ⟨(by show 1 ≤ sizeLine; decide), fun l hl => ?_⟩
  have nl : ∀ {q : Addr} {o : HO}, H q = some o → q ≠ l := fun e => ne_of_none e hl
  refine ⟨_, rfl, (n : Int), rfl, by omega, by omega, for_range (lo := 0) (n := ((n : Int)).toNat) (fun i σ H2 => ∃ a b, σ = [some (.ref tp), some (.ref cp), some (vn n), some (.ref l), some (vn (wt tk cl i)), a, b] ∧ H2 = upd H l (.lst (calV tk cl i)))
    ⟨_, _, rfl, rfl⟩ ?_ ?_⟩
  · rintro i σ H2 hi ⟨a, b, rfl, rfl⟩
    have hi2 : i < n := by simpa using hi
    have t1 : upd H l (.lst (calV tk cl i)) tp = some (.tup (tk.map vn)) := by rw [upd_ne (nl htp)]; exact htp
    have t2 : upd H l (.lst (calV tk cl i)) cp = some (.tup (cl.map vn)) := by rw [upd_ne (nl hcp)]; exact hcp
    have L1 := hT.pos
    have L2 := hC.pos
    -- waiting += takes[tick % len(takes)]
    refine ⟨_, rfl, _, rfl, _, rfl, _, rfl, tp, _, rfl, .inr (SqT.of t1), _, _, rfl, rfl, (by show (0 : Int) < ((tk.map vn).length : Int); rw [List.length_map]; omega), tp, _, _, _, rfl, rfl, SqT.of t1, pat_at L1 (Int.zero_add _), _, _, rfl, rfl, ?_⟩
    -- now = min(waiting, calls[tick % len(calls)])
    refine ⟨_, rfl, _, rfl, _, rfl, _, rfl, cp, _, rfl, .inr (SqT.of t2), _, _, rfl, rfl, (by show (0 : Int) < ((cl.map vn).length : Int); rw [List.length_map]; omega), cp, _, _, _, rfl, rfl, SqT.of t2, pat_at L2 (Int.zero_add _), _, _, rfl, ?_⟩
    have em : V.int (if (atp cl i : Int) < ((wt tk cl i : Int) + (atp tk i : Int)) then (atp cl i : Int) else ((wt tk cl i : Int) + (atp tk i : Int))) = vn (min (wt tk cl i + atp tk i) (atp cl i)) := by
      refine vn_int ?_
      split <;> omega
    rw [em]
    -- waiting -= now
    refine ⟨_, rfl, _, rfl, _, _, rfl, rfl, ?_⟩
    -- called.append(called[tick] + now)
    refine ⟨_, rfl, .inl ⟨rfl, _, SqL.of upd_same⟩, _, rfl, _, rfl, l, _, _, _, rfl, rfl, SqL.of upd_same, (show atI (calV tk cl i) ((0 : Int) + (i : Int)) = some (vn (cal tk cl i)) by rw [Int.zero_add]; exact atn (calV_at (Nat.le_refl i))), _, rfl, _, _, rfl, rfl, ?_⟩
    refine ⟨l, _, _, rfl, rfl, upd_same, small1000 (by rw [calV_len]; omega), some (.int (0 + (i : Int))), some (vn (min (wt tk cl i + atp tk i) (atp cl i))), ?_, ?_⟩
    · have e1 : V.int ((wt tk cl i : Int) + (atp tk i : Int) - ((min (wt tk cl i + atp tk i) (atp cl i) : Nat) : Int)) = vn (wt tk cl (i + 1)) := vn_int (by rw [wt_succ]; omega)
      rw [← e1]
      rfl
    · rw [upd_upd, calV_succ]
      have e2 : V.int ((cal tk cl i : Int) + ((min (wt tk cl i + atp tk i) (atp cl i) : Nat) : Int)) = vn (cal tk cl (i + 1)) := vn_int (by rw [cal_succ]; omega)
      rw [← e2]
  · rintro σ H2 ⟨a, b, rfl, rfl⟩
    refine ⟨_, rfl, k l _ hl (Same.new hl) ?_⟩
    rw [upd_same]
    simp
theorem ok_period (T : Txt K mg) : OkF P w K mg base 1 (getAt K (He.ga K "Hall") "period") ["self"] (spPeriod (He.ga K "Hall")) := by
  refine FnP.okF T.f_period sc_period (fun _ _ _ _ _ _ us hl => match us, hl with | [_], _ => rfl) (fun vs H Q E h => ?_) (fun cdv A outer s H vs Q E hr h => ?_)
  · obtain ⟨h, _, _, _, _, _, _, rfl, _⟩ := h
    rfl
  obtain ⟨h, dx, tp, cp, fs, tk, cl, rfl, hh, f1, f2, htp, hcp, hT, hC, k⟩ := h
  refine ⟨_, (pss_one (ps_ret (pfun cr_lcm (by rfl) T.g_lcm (pa_cons (pe_callB (lenK (K := K)) (by rfl) T.g_len (by decide +kernel) (pa_cons (pe_fld (pv 0) rfl) pa_nil)) (pa_cons (pe_callB (lenK (K := K)) (by rfl) T.g_len (by decide +kernel) (pa_cons (pe_fld (pv 0) rfl) pa_nil)) pa_nil))))), ?_⟩
  have a1 := hT.len
  have a2 := hC.len
  refine ⟨_, rfl, h, _, dx, fs, _, rfl, hh, T.cl_Hall, T.n_takes, f1, tp, _, rfl, .inr (SqT.of htp), ?_⟩
  refine ⟨_, rfl, h, _, dx, fs, _, rfl, hh, T.cl_Hall, T.n_calls, f2, cp, _, rfl, .inr (SqT.of hcp), ?_⟩
  refine ⟨_, _, rfl, by rw [List.length_map]; omega, by rw [List.length_map]; omega, ?_⟩
  rw [List.length_map, List.length_map]
  exact k
theorem ok_init (T : Txt K mg) : OkF P w K mg base 6 (He.ma K (He.ga K "Hall") "__init__") ["self", "modulus", "takes", "calls", "lateness"] (spInit (He.ga K "Hall")) := by
  have G_check_hall : OkF P w K mg base 5 (He.ga K "check_hall") ["modulus", "takes", "calls", "lateness"] spChall := ok_check_hall T
  have G_count_calls : OkF P w K mg base 1 (He.ga K "count_calls") ["takes", "calls", "ticks"] spCount := ok_count_calls T
  have G_period : OkF P w K mg base 1 (getAt K (He.ga K "Hall") "period") ["self"] (spPeriod (He.ga K "Hall")) := ok_period T
  refine FnP.okF T.f_init sc_init (fun _ _ _ _ _ _ us hl => match us, hl with | [_, _, _, _, _], _ => rfl) (fun vs H Q E h => ?_) (fun cdv A outer s H vs Q E hr h => ?_)
  · obtain ⟨x, _, _, _, _, _, _, _, rfl, _⟩ := h
    rfl
  obtain ⟨x, dx, tp, cp, m, lt, tk, cl, rfl, hx, htp, hcp, hP, k⟩ := h
  refine ⟨_, (pss_cons (ps_expr (pe_call G_check_hall.one (hr.mono (by decide)) (by rfl) T.g_check_hall G_check_hall.kp G_check_hall.two .nil passL (pa_cons (pv 1) (pa_cons (pv 2) (pa_cons (pv 3) (pa_cons (pv 4) pa_nil))))))
    (pss_cons (ps_fld (pv 0) (pv 1) rfl)
    (pss_cons (ps_fld (pv 0) (pv 2) rfl)
    (pss_cons (ps_fld (pv 0) (pv 3) rfl)
    (pss_cons (ps_fld (pv 0) (pv 4) rfl)
    (pss_one (ps_fld (pv 0) (pe_call G_count_calls.one (hr.mono (by decide)) (by rfl) T.g_count_calls G_count_calls.kp G_count_calls.two .nil passL (pa_cons (pv 2) (pa_cons (pv 3) (pa_cons (pe_op op_mul pe_int (pe_prop (pv 0) T.cl_Hall T.p_period G_period.one (hr.mono (by decide)) G_period.two .nil passL (by rfl))) pa_nil)))) rfl))))))), ?_⟩
  refine ⟨_, rfl, _, rfl, _, rfl, _, rfl, tp, cp, m, lt, tk, cl, rfl, htp, hcp, hP, fun H1 S1 => ?_⟩
  have x1 := S1 _ _ hx
  have n1 : tp ≠ x := ne_of htp hx (fun q => by cases q)
  have n2 : cp ≠ x := ne_of hcp hx (fun q => by cases q)
  have len1 : ∀ (f : Str) (v : V) (fs : List (Str × V)) (n : Nat), fs.length ≤ n → (putF f v fs).length ≤ n + 1 := fun f v fs n h => Nat.le_trans (length_putF f v fs) (Nat.succ_le_succ h)
  refine ⟨_, rfl, _, rfl, x, _, dx, _, rfl, x1, T.cl_Hall, T.n_modulus, (by decide), ?_⟩
  refine ⟨_, rfl, _, rfl, x, _, dx, _, rfl, upd_same, T.cl_Hall, T.n_takes, Nat.lt_of_le_of_lt (len1 _ _ _ 0 (Nat.le_refl 0)) (by decide), ?_⟩
  refine ⟨_, rfl, _, rfl, x, _, dx, _, rfl, upd_same, T.cl_Hall, T.n_calls, Nat.lt_of_le_of_lt (len1 _ _ _ 1 (len1 _ _ _ 0 (Nat.le_refl 0))) (by decide), ?_⟩
  refine ⟨_, rfl, _, rfl, x, _, dx, _, rfl, upd_same, T.cl_Hall, T.n_lateness, Nat.lt_of_le_of_lt (len1 _ _ _ 2 (len1 _ _ _ 1 (len1 _ _ _ 0 (Nat.le_refl 0)))) (by decide), ?_⟩
  rw [upd_upd, upd_upd, upd_upd]
  have t1 : ∀ o, upd H1 x o tp = some (.tup (tk.map vn)) := fun o => by rw [upd_ne n1]; exact S1 _ _ htp
  have t2 : ∀ o, upd H1 x o cp = some (.tup (cl.map vn)) := fun o => by rw [upd_ne n2]; exact S1 _ _ hcp
  have p144 := per_144 hP.tkP hP.clP
  -- self._called = count_calls(takes, calls, 2 * self.period)
  refine ⟨_, rfl, _, rfl, _, rfl, x, dx, _, rfl, upd_same, x, dx, tp, cp, _, tk, cl, rfl, upd_same, ?_, ?_, t1 _, t2 _, hP.tkP, hP.clP, ?_⟩
  · rw [lookup_putF, if_neg (by decide +kernel), lookup_putF, if_neg (by decide +kernel), lookup_putF, if_pos rfl]
  · rw [lookup_putF, if_neg (by decide +kernel), lookup_putF, if_pos rfl]
  refine ⟨2, _, rfl, rfl, .inl ⟨by decide, by decide⟩, tp, cp, tk, cl, 2 * per tk cl, by simp, t1 _, t2 _, hP.tkP, hP.clP, by omega, fun lp H2 n3 S2 h2 => ?_⟩
  have nx : x ≠ lp := fun e => by rw [e, upd_same] at n3; cases n3
  have n4 : H lp = none := by
    rw [upd_ne (Ne.symm nx)] at n3
    exact S1.free n3
  refine ⟨_, rfl, x, _, dx, _, rfl, S2 _ _ upd_same, T.cl_Hall, T.n__called, Nat.lt_of_le_of_lt (len1 _ _ _ 3 (len1 _ _ _ 2 (len1 _ _ _ 1 (len1 _ _ _ 0 (Nat.le_refl 0))))) (by decide), ?_⟩
  refine k _ lp (fun b o nb e => ?_) n4 ⟨⟨dx, tp, cp, upd_same, ?_, ?_⟩, ?_, hP⟩
  · rw [upd_ne nb]
    exact S2 _ _ (by rw [upd_ne nb]; exact S1 _ _ e)
  · rw [upd_ne n1]
    exact S2 _ _ (t1 _)
  · rw [upd_ne n2]
    exact S2 _ _ (t2 _)
  · rw [upd_ne (Ne.symm nx)]
    exact h2
end
end Tk

/-! ### The hall's methods -/
namespace Tk
open PySem PySem.Spec PyProof.Rows L2 Mm
def spTaken (C : Addr) : Sp := fun vs H Q _ => ∃ (h lp : Addr) (z : Int) (m lt : Nat) (tk cl : List Nat), vs = [.ref h, .int z] ∧ HallAt C H h m tk cl lt lp ∧ ∀ H', Same H H' → Q (vn (tak tk z.toNat)) H'
def spCalled (C : Addr) : Sp := fun vs H Q _ => ∃ (h lp : Addr) (z : Int) (m lt : Nat) (tk cl : List Nat), vs = [.ref h, .int z] ∧ HallAt C H h m tk cl lt lp ∧ Q (vn (cal tk cl z.toNat)) H
def spWaiting (C : Addr) : Sp := fun vs H Q _ => ∃ (h lp : Addr) (n : Nat) (m lt : Nat) (tk cl : List Nat), vs = [.ref h, vn n] ∧ n ≤ 1000000000000000000 ∧ HallAt C H h m tk cl lt lp ∧ ∀ H', Same H H' → Q (vn (wt tk cl (n + 1))) H'
def grow (tk cl : List Nat) : Nat := wt tk cl (2 * per tk cl + 1) - wt tk cl (per tk cl + 1)
def spGrowth (C : Addr) : Sp := fun vs H Q _ => ∃ (h lp : Addr) (m lt : Nat) (tk cl : List Nat), vs = [.ref h] ∧ HallAt C H h m tk cl lt lp ∧ ∀ H', Same H H' → Q (vn (grow tk cl)) H'
theorem map_vn (tk : List Nat) : (tk.map (fun n : Nat => (n : Int))).map V.int = tk.map vn := by rw [List.map_map]; rfl
theorem sum_cast (tk : List Nat) : (tk.map (fun n : Nat => (n : Int))).sum = ((tk.sum : Nat) : Int) := by
  induction tk with
  | nil => rfl
  | cons a r ih => rw [List.map_cons, List.sum_cons, List.sum_cons, ih]; omega
theorem max0 (z : Int) : (if (0 : Int) > z then (0 : Int) else z) = ((z.toNat : Nat) : Int) := by split <;> omega
section
variable {P : Program} {w : World} {K : PySem.W.Frag} {mg : Str → Option Value} {base : Heap}
theorem ok_called (T : Txt K mg) : OkF P w K mg base 3 (He.ma K (He.ga K "Hall") "called") ["self", "tick"] (spCalled (He.ga K "Hall")) := by
  have G_period : OkF P w K mg base 1 (getAt K (He.ga K "Hall") "period") ["self"] (spPeriod (He.ga K "Hall")) := ok_period T
  refine FnP.okF T.f_called sc_called (fun _ _ _ _ _ _ us hl => match us, hl with | [_, _], _ => rfl) (fun vs H Q E h => ?_) (fun cdv A outer s H vs Q E hr h => ?_)
  · obtain ⟨h, _, _, _, _, _, _, rfl, _⟩ := h
    rfl
  obtain ⟨h, lp, z, m, lt, tk, cl, rfl, hA, k⟩ := h
  obtain ⟨dx, tp, cp, hh, htp, hcp⟩ := hA.ex
  have p0 := per_pos hA.ok.tkP.pos hA.ok.clP.pos
  have p144 := per_144 hA.ok.tkP hA.ok.clP
  have ht := per_tk (tk := tk) (cl := cl)
  have hc := per_cl (tk := tk) (cl := cl)
  generalize hp : per tk cl = p at *
  have hL : SqL K H lp (calV tk cl (2 * p)) := SqL.of (by rw [← hp]; exact hA.lst)
  refine ⟨_, (pss_cons (ps_set (i := 2) sc_called.nd rfl (Or.inl rfl) (pe_prop (pv 0) T.cl_Hall T.p_period G_period.one (hr.mono (by decide)) G_period.two .nil passL (by rfl)))
    (pss_cons (ps_set (i := 3) sc_called.nd rfl (Or.inl rfl) (pe_callB (show CallR _ (.builtin "max") Rd.rMax2 from call_max2 (by rfl)) (by rfl) T.g_max (by decide +kernel) (pa_cons (pe_op op_sub (pe_op op_fdiv (pv 1) (pv 2)) pe_int) (pa_cons pe_int pa_nil))))
    (pss_cons (ps_set (i := 4) sc_called.nd rfl (Or.inl rfl) (pe_op op_sub (pe_ix (ixLK (K := K)) (pe_fld (pv 0) rfl) (pe_op op_mul pe_int (pv 2)) (fun _ _ => rfl)) (pe_ix (ixLK (K := K)) (pe_fld (pv 0) rfl) (pv 2) (fun _ _ => rfl))))
    (pss_one (ps_ret (pe_op op_add (pe_op op_mul (pv 3) (pv 4)) (pe_ix (ixLK (K := K)) (pe_fld (pv 0) rfl) (pe_op op_sub (pe_callB (show CallR _ (.builtin "max") Rd.rMax2 from call_max2 (by rfl)) (by rfl) T.g_max (by decide +kernel) (pa_cons (pv 1) (pa_cons pe_int pa_nil))) (pe_op op_mul (pv 3) (pv 2))) (fun _ _ => rfl)))))))), ?_⟩
  refine ⟨_, rfl, h, dx, _, rfl, hh, h, dx, tp, cp, _, tk, cl, rfl, hh, hfs_takes, hfs_calls, htp, hcp, hA.ok.tkP, hA.ok.clP, ?_⟩
  rw [hp]
  -- skipped
  refine ⟨_, rfl, _, rfl, _, _, rfl, rfl, ⟨by omega, by omega⟩, _, _, rfl, rfl, _, _, rfl, ?_⟩
  have es : (if (0 : Int) > z / (p : Int) - 1 then (0 : Int) else z / (p : Int) - 1) = ((z.toNat / p - 1 : Nat) : Int) := by
    rcases Int.lt_or_le z 0 with n | n
    · have h1 : z / (p : Int) < 0 := Int.ediv_lt_of_lt_mul (by omega) (by omega)
      have h2 : z.toNat = 0 := by omega
      rw [h2, Nat.zero_div]
      split <;> omega
    · obtain ⟨q, rfl⟩ : ∃ q : Nat, z = (q : Int) := ⟨z.toNat, by omega⟩
      have h1 : (q : Int) / (p : Int) = ((q / p : Nat) : Int) := (Int.natCast_ediv _ _).symm
      rw [h1, Int.toNat_natCast]
      split <;> omega
  rw [es]
  generalize hs : z.toNat / p - 1 = sk
  -- in_period
  have mono := cal_mono (tk := tk) (cl := cl) (show p ≤ 2 * p by omega)
  have a1 : atI (calV tk cl (2 * p)) ((2 : Int) * (p : Int)) = some (vn (cal tk cl (2 * p))) := by
    rw [show (2 : Int) * (p : Int) = ((2 * p : Nat) : Int) by omega]
    exact atn (calV_at (Nat.le_refl _))
  have a2 : atI (calV tk cl (2 * p)) (p : Int) = some (vn (cal tk cl p)) := atn (calV_at (by omega))
  refine ⟨_, rfl, h, _, dx, _, _, rfl, hh, T.cl_Hall, T.n__called, hfs_called, _, rfl, _, _, rfl, rfl, .inl ⟨by decide, by decide⟩, lp, _, _, _, rfl, rfl, hL, a1, ?_⟩
  refine ⟨_, rfl, h, _, dx, _, _, rfl, hh, T.cl_Hall, T.n__called, hfs_called, _, rfl, lp, _, _, _, rfl, rfl, hL, a2, _, _, rfl, rfl, ?_⟩
  -- the end
  have small : cal tk cl (2 * p) - cal tk cl p ≤ 100000 := by
    have := cal_le (tk := tk) (cl := cl) (2 * p)
    have := tak_le hA.ok.tkP.nine (2 * p)
    omega
  refine ⟨_, rfl, _, rfl, _, _, rfl, rfl, .inr ⟨by omega, by omega⟩, ?_⟩
  refine ⟨_, rfl, h, _, dx, _, _, rfl, hh, T.cl_Hall, T.n__called, hfs_called, _, rfl, _, _, rfl, ?_⟩
  rw [max0]
  refine ⟨_, rfl, _, rfl, _, _, rfl, rfl, .inr ⟨by omega, by omega⟩, _, _, rfl, rfl, ?_⟩
  have sk_le : sk * p ≤ z.toNat := by
    rw [← hs]
    have := Nat.div_mul_le_self z.toNat p
    have := Nat.mul_le_mul_right p (Nat.sub_le (z.toNat / p) 1)
    omega
  have a3 : atI (calV tk cl (2 * p)) ((z.toNat : Int) - (sk : Int) * (p : Int)) = some (vn (cal tk cl (z.toNat - sk * p))) := by
    rw [show (z.toNat : Int) - (sk : Int) * (p : Int) = ((z.toNat - sk * p : Nat) : Int) by rw [Int.ofNat_sub sk_le, Int.natCast_mul]]
    refine atn (calV_at ?_)
    have := rest_lt p0 z.toNat
    rw [hs] at this
    omega
  refine ⟨lp, _, _, _, rfl, rfl, hL, a3, _, _, rfl, rfl, ?_⟩
  have e := cal_is p0 ht hc z.toNat
  rw [hs] at e
  have ev : V.int ((sk : Int) * ((cal tk cl (2 * p) : Int) - (cal tk cl p : Int)) + (cal tk cl (z.toNat - sk * p) : Int)) = vn (cal tk cl z.toNat) := by
    refine vn_int ?_
    rw [e, Int.natCast_add, Int.natCast_mul, Int.ofNat_sub mono]
  show Q (V.int ((sk : Int) * ((cal tk cl (2 * p) : Int) - (cal tk cl p : Int)) + (cal tk cl (z.toNat - sk * p) : Int))) H
  rw [ev]
  exact k
theorem ok_taken (T : Txt K mg) : OkF P w K mg base 1 (He.ma K (He.ga K "Hall") "taken") ["self", "tick"] (spTaken (He.ga K "Hall")) := by
  refine FnP.okF T.f_taken sc_taken (fun _ _ _ _ _ _ us hl => match us, hl with | [_, _], _ => rfl) (fun vs H Q E h => ?_) (fun cdv A outer s H vs Q E hr h => ?_)
  · obtain ⟨h, _, _, _, _, _, _, rfl, _⟩ := h
    rfl
  obtain ⟨h, lp, z, m, lt, tk, cl, rfl, hA, k⟩ := h
  obtain ⟨dx, tp, cp, hh, htp, hcp⟩ := hA.ex
  have n0 := hA.ok.tkP.pos
  have n12 := hA.ok.tkP.len
  refine ⟨_, (pss_cons (ps_asg (pe_callB call_divmod (by rfl) T.g_divmod (by decide +kernel) (pa_cons (pe_callB (show CallR _ (.builtin "max") Rd.rMax2 from call_max2 (by rfl)) (by rfl) T.g_max (by decide +kernel) (pa_cons (pv 1) (pa_cons pe_int pa_nil))) (pa_cons (pe_callB (lenK (K := K)) (by rfl) T.g_len (by decide +kernel) (pa_cons (pe_fld (pv 0) rfl) pa_nil)) pa_nil))) (pg_tup rfl (pgs_cons (pg_name (i := 2) sc_taken.nd rfl (Or.inl rfl)) (pgs_cons (pg_name (i := 3) sc_taken.nd rfl (Or.inl rfl)) pgs_nil))))
    (pss_one (ps_ret (pe_op op_add (pe_op op_mul (pv 2) (pe_callB (sumTK (K := K)) (by rfl) T.g_sum (by decide +kernel) (pa_cons (pe_fld (pv 0) rfl) pa_nil))) (pe_callB (sumTK (K := K)) (by rfl) T.g_sum (by decide +kernel) (pa_cons (pe_slice (slAK (K := K)) (pe_fld (pv 0) rfl) po_none (po_some (pv 3))) pa_nil)))))), ?_⟩
  -- rounds, rest = divmod(max(tick, 0), len(self.takes))
  refine ⟨_, rfl, _, _, rfl, ?_⟩
  rw [max0]
  refine ⟨_, rfl, h, _, dx, _, _, rfl, hh, T.cl_Hall, T.n_takes, hfs_takes, tp, _, rfl, .inr (SqT.of htp), _, _, rfl, ⟨by rw [List.length_map]; omega, by rw [List.length_map]; omega⟩, fun d hd => ?_⟩
  rw [List.length_map, show (z.toNat : Int) / (tk.length : Int) = ((z.toNat / tk.length : Nat) : Int) from (Int.natCast_ediv _ _).symm, show (z.toNat : Int) % (tk.length : Int) = ((z.toNat % tk.length : Nat) : Int) from (Int.natCast_emod _ _).symm]
  have rl := Nat.mod_lt z.toNat n0
  have S1 : Same H (upd H d (.tup [vn (z.toNat / tk.length), vn (z.toNat % tk.length)])) := Same.new hd
  generalize hH1 : upd H d (.tup [vn (z.toNat / tk.length), vn (z.toNat % tk.length)]) = H1 at S1
  refine ⟨d, _, rfl, SqT.of (by rw [← hH1]; exact upd_same), rfl, _, _, rfl, _, _, rfl, rfl, ?_⟩
  -- rounds * sum(self.takes) + sum(self.takes[:rest])
  have sm : ∀ x ∈ tk, x ≤ 9 := hA.ok.tkP.nine
  have s108 : tk.sum ≤ 108 := by
    have h1 := take_sum tk tk.length (Nat.le_refl _)
    have h2 := tak_le sm tk.length
    rw [List.take_length] at h1
    omega
  refine ⟨_, rfl, _, rfl, h, _, dx, _, _, rfl, S1 _ _ hh, T.cl_Hall, T.n_takes, hfs_takes, tp, tk.map (fun n : Nat => (n : Int)), rfl, by rw [map_vn]; exact SqT.of (S1 _ _ htp), _, _, rfl, rfl, .inr (by rw [sum_cast]; omega), ?_⟩
  have T1 : SqT K H1 tp (tk.map vn) := SqT.of (S1 _ _ htp)
  refine ⟨_, rfl, h, _, dx, _, _, rfl, S1 _ _ hh, T.cl_Hall, T.n_takes, hfs_takes, _, rfl, _, rfl, tp, _, rfl, T1, fun c => ?_, fun _ t ht => ?_⟩
  · exfalso
    have c2 := c.2
    rw [HT.sIx_nat, List.length_map] at c2
    omega
  have S2 : Same H (upd H1 t (.tup (cutV (tk.map vn) none (some ((z.toNat % tk.length : Nat) : Int))))) := S1.trans (Same.new ht)
  have ec : cutV (tk.map vn) none (some ((z.toNat % tk.length : Nat) : Int)) = (tk.take (z.toNat % tk.length)).map vn := by
    unfold cutV
    rw [HT.sIx_none, HT.sIx_nat, List.drop_zero, List.length_map, Nat.sub_zero, Nat.min_eq_left (Nat.le_of_lt rl), List.map_take]
  refine ⟨t, (tk.take (z.toNat % tk.length)).map (fun n : Nat => (n : Int)), rfl, by rw [map_vn, ec]; exact SqT.of upd_same, _, _, rfl, rfl, ?_⟩
  have ev : V.int (((z.toNat / tk.length : Nat) : Int) * (tk.map (fun n : Nat => (n : Int))).sum + ((tk.take (z.toNat % tk.length)).map (fun n : Nat => (n : Int))).sum) = vn (tak tk z.toNat) := by
    refine vn_int ?_
    rw [sum_cast, sum_cast, tak_is tk n0 z.toNat, Int.natCast_add, Int.natCast_mul]
  have q := k _ S2
  rw [← ev] at q
  exact q
theorem ok_waiting (T : Txt K mg) : OkF P w K mg base 4 (He.ma K (He.ga K "Hall") "waiting") ["self", "tick"] (spWaiting (He.ga K "Hall")) := by
  have G_check_tick : OkF P w K mg base 2 (He.ga K "check_tick") ["tick"] spTick := ok_check_tick T
  have G_taken : OkF P w K mg base 1 (He.ma K (He.ga K "Hall") "taken") ["self", "tick"] (spTaken (He.ga K "Hall")) := ok_taken T
  have G_called : OkF P w K mg base 3 (He.ma K (He.ga K "Hall") "called") ["self", "tick"] (spCalled (He.ga K "Hall")) := ok_called T
  refine FnP.okF T.f_waiting sc_waiting (fun _ _ _ _ _ _ us hl => match us, hl with | [_, _], _ => rfl) (fun vs H Q E h => ?_) (fun cdv A outer s H vs Q E hr h => ?_)
  · obtain ⟨h, _, _, _, _, _, _, rfl, _⟩ := h
    rfl
  obtain ⟨h, lp, n, m, lt, tk, cl, rfl, hn, hA, k⟩ := h
  obtain ⟨dx, tp, cp, hh, htp, hcp⟩ := hA.ex
  refine ⟨_, (pss_cons (ps_expr (pe_call G_check_tick.one (hr.mono (by decide)) (by rfl) T.g_check_tick G_check_tick.kp G_check_tick.two .nil passL (pa_cons (pv 1) pa_nil)))
    (pss_one (ps_ret (pe_op op_sub (pe_meth (pv 0) T.cl_Hall T.m_taken G_taken.one (hr.mono (by decide)) G_taken.two .nil passL (pa_cons (pe_op op_add (pv 1) pe_int) pa_nil)) (pe_meth (pv 0) T.cl_Hall T.m_called G_called.one (hr.mono (by decide)) G_called.two .nil passL (pa_cons (pe_op op_add (pv 1) pe_int) pa_nil)))))), ?_⟩
  refine ⟨_, rfl, (n : Int), rfl, by omega, by omega, ?_⟩
  refine ⟨_, rfl, h, dx, _, rfl, hh, hfs_no (by decide +kernel) (by decide +kernel) (by decide +kernel) (by decide +kernel) (by decide +kernel), _, rfl, _, _, rfl, rfl, h, lp, (n : Int) + 1, m, lt, tk, cl, rfl, hA, fun H1 S1 => ?_⟩
  refine ⟨_, rfl, h, dx, _, rfl, S1 _ _ hh, hfs_no (by decide +kernel) (by decide +kernel) (by decide +kernel) (by decide +kernel) (by decide +kernel), _, rfl, _, _, rfl, rfl, h, lp, (n : Int) + 1, m, lt, tk, cl, rfl, hA.same S1, ?_⟩
  refine ⟨_, _, rfl, rfl, ?_⟩
  have e : ((n : Int) + 1).toNat = n + 1 := by omega
  rw [e]
  have c := cal_le (tk := tk) (cl := cl) (n + 1)
  have ev : V.int ((tak tk (n + 1) : Int) - (cal tk cl (n + 1) : Int)) = vn (wt tk cl (n + 1)) := vn_int (by unfold wt; omega)
  have q := k H1 S1
  rw [← ev] at q
  exact q
theorem ok_growth (T : Txt K mg) : OkF P w K mg base 5 (getAt K (He.ga K "Hall") "growth") ["self"] (spGrowth (He.ga K "Hall")) := by
  have G_period : OkF P w K mg base 1 (getAt K (He.ga K "Hall") "period") ["self"] (spPeriod (He.ga K "Hall")) := ok_period T
  have G_waiting : OkF P w K mg base 4 (He.ma K (He.ga K "Hall") "waiting") ["self", "tick"] (spWaiting (He.ga K "Hall")) := ok_waiting T
  refine FnP.okF T.f_growth sc_growth (fun _ _ _ _ _ _ us hl => match us, hl with | [_], _ => rfl) (fun vs H Q E h => ?_) (fun cdv A outer s H vs Q E hr h => ?_)
  · obtain ⟨h, _, _, _, _, _, rfl, _⟩ := h
    rfl
  obtain ⟨h, lp, m, lt, tk, cl, rfl, hA, k⟩ := h
  obtain ⟨dx, tp, cp, hh, htp, hcp⟩ := hA.ex
  have p144 := per_144 hA.ok.tkP hA.ok.clP
  refine ⟨_, (pss_one (ps_ret (pe_op op_sub (pe_meth (pv 0) T.cl_Hall T.m_waiting G_waiting.one (hr.mono (by decide)) G_waiting.two .nil passL (pa_cons (pe_op op_mul pe_int (pe_prop (pv 0) T.cl_Hall T.p_period G_period.one (hr.mono (by decide)) G_period.two .nil passL (by rfl))) pa_nil)) (pe_meth (pv 0) T.cl_Hall T.m_waiting G_waiting.one (hr.mono (by decide)) G_waiting.two .nil passL (pa_cons (pe_prop (pv 0) T.cl_Hall T.p_period G_period.one (hr.mono (by decide)) G_period.two .nil passL (by rfl)) pa_nil))))), ?_⟩
  have no : (hfs m tp cp lt lp).lookup ("waiting" : Str) = none := hfs_no (by decide +kernel) (by decide +kernel) (by decide +kernel) (by decide +kernel) (by decide +kernel)
  refine ⟨_, rfl, h, dx, _, rfl, hh, no, _, rfl, h, dx, _, rfl, hh, h, dx, tp, cp, _, tk, cl, rfl, hh, hfs_takes, hfs_calls, htp, hcp, hA.ok.tkP, hA.ok.clP, _, _, rfl, rfl, .inl ⟨by decide, by decide⟩, h, lp, 2 * per tk cl, m, lt, tk, cl, by simp, by omega, hA, fun H1 S1 => ?_⟩
  refine ⟨_, rfl, h, dx, _, rfl, S1 _ _ hh, no, _, rfl, h, dx, _, rfl, S1 _ _ hh, h, dx, tp, cp, _, tk, cl, rfl, S1 _ _ hh, hfs_takes, hfs_calls, S1 _ _ htp, S1 _ _ hcp, hA.ok.tkP, hA.ok.clP, h, lp, per tk cl, m, lt, tk, cl, rfl, by omega, hA.same S1, fun H2 S2 => ?_⟩
  refine ⟨_, _, rfl, rfl, ?_⟩
  have u := wt_up (tk := tk) (cl := cl) per_tk per_cl (per tk cl + 1)
  have e2 : per tk cl + 1 + per tk cl = 2 * per tk cl + 1 := by omega
  rw [e2] at u
  have ev : V.int ((wt tk cl (2 * per tk cl + 1) : Int) - (wt tk cl (per tk cl + 1) : Int)) = vn (grow tk cl) := vn_int (by unfold grow; omega)
  have q := k H2 (S1.trans S2)
  rw [← ev] at q
  exact q
end
end Tk

/-! ### The law's own defs: hall, length, counts -/
namespace Tk
open PySem PySem.Spec PyProof.Rows L2 Mm
def fV (f : Nat → Nat) (n : Nat) : List V := (List.range (n + 1)).map fun t => vn (f t)
theorem fV_len {f : Nat → Nat} {n : Nat} : (fV f n).length = n + 1 := by unfold fV; simp
theorem fV_at {f : Nat → Nat} {n t : Nat} (h : t ≤ n) : (fV f n)[t]? = some (vn (f t)) := by
  unfold fV
  rw [List.getElem?_map, List.getElem?_range (by omega)]
  rfl
theorem fV_succ {f : Nat → Nat} {n : Nat} : fV f (n + 1) = fV f n ++ [vn (f (n + 1))] := by
  unfold fV
  rw [List.range_succ, List.map_append]
  rfl
theorem at_last {xs : List V} {n : Nat} {x : V} (hl : xs.length = n + 1) (h : xs[n]? = some x) : atI xs (-(1 : Int)) = some x := by
  unfold atI ixN
  rw [hl, if_neg (by omega), if_pos (by omega)]
  show xs[(-(1 : Int) + ((n + 1 : Nat) : Int)).toNat]? = some x
  rw [show (-(1 : Int) + ((n + 1 : Nat) : Int)).toNat = n by omega]
  exact h
def spLHall (C : Addr) : Sp := fun vs H Q _ => ∃ (t tp cp : Addr) (m lt : Nat) (tk cl : List Nat), vs = [.ref t] ∧ PartsAt H t m tp tk cp cl lt ∧
  ∀ h lp H', H h = none → H lp = none → Same H H' → HallAt C H' h m tk cl lt lp → Q (.ref h) H'
theorem small10k {n : Nat} (h : n ≤ 10000) : n + 1 ≤ sizeLine := Nat.le_trans (Nat.succ_le_succ h) (by decide)
def spLength : Sp := fun vs H Q _ => ∃ (t tp cp : Addr) (m lt : Nat) (tk cl : List Nat), vs = [.ref t] ∧ PartsAt H t m tp tk cp cl lt ∧ Q (vn (per tk cl)) H
def spCounts : Sp := fun vs H Q _ => ∃ (t tp cp : Addr) (m lt : Nat) (tk cl : List Nat) (n : Nat), vs = [.ref t, vn n] ∧ PartsAt H t m tp tk cp cl lt ∧ n ≤ 10000 ∧
  ∀ r a b H', H r = none → H a = none → H b = none → a ≠ b → Same H H' → H' r = some (.tup [.ref a, .ref b]) → H' a = some (.lst (fV (tak tk) n)) → H' b = some (.lst (fV (cal tk cl) n)) → Q (.ref r) H'
theorem at3 {a b c d : V} {j : Nat} {x : V} (h : [a, b, c, d][j]? = some x) : atI [a, b, c, d] (j : Int) = some x := atn h
/-- the least multiple of n that c divides -/
theorem least_lcm {n c k : Nat} (hk : 0 < k) (h : c ∣ k * n) (no : ∀ j, 0 < j → j < k → ¬ c ∣ j * n) (hn : 0 < n) (hc : 0 < c) : k * n = Nat.lcm n c := by
  have d1 : Nat.lcm n c ∣ k * n := Nat.lcm_dvd (Nat.dvd_mul_left n k) h
  obtain ⟨j, hj⟩ := Nat.dvd_lcm_left n c
  have hp : 0 < Nat.lcm n c := Nat.lcm_pos hn hc
  have j0 : 0 < j := by
    rcases Nat.eq_zero_or_pos j with e | e
    · rw [e] at hj
      omega
    · exact e
  have e2 : Nat.lcm n c = j * n := by rw [hj, Nat.mul_comm]
  rcases Nat.lt_or_ge j k with lt | ge
  · exact absurd (by rw [← e2]; exact Nat.dvd_lcm_right n c) (no j j0 lt)
  · have h1 := Nat.le_of_dvd (Nat.mul_pos hk hn) d1
    have h2 := Nat.mul_le_mul_right n ge
    omega
theorem below_lcm {n c k : Nat} (no : ∀ j, 0 < j → j < k → ¬ c ∣ j * n) (hn : 0 < n) (hc : 0 < c) : k * n ≤ Nat.lcm n c := by
  obtain ⟨j, hj⟩ := Nat.dvd_lcm_left n c
  have hp : 0 < Nat.lcm n c := Nat.lcm_pos hn hc
  have e2 : Nat.lcm n c = j * n := by rw [hj, Nat.mul_comm]
  have j0 : 0 < j := by
    rcases Nat.eq_zero_or_pos j with e | e
    · rw [e] at hj
      omega
    · exact e
  rcases Nat.lt_or_ge j k with lt | ge
  · exact absurd (by rw [← e2]; exact Nat.dvd_lcm_right n c) (no j j0 lt)
  · rw [e2]
    exact Nat.mul_le_mul_right n ge
section
variable {P : Program} {w : World} {K : PySem.W.Frag} {mg : Str → Option Value} {base : Heap}
theorem ok__law_hall (T : Txt K mg) : OkF P w K mg base 8 (He.ga K "_law_hall") ["_law_parts_here"] (spLHall (He.ga K "Hall")) := by
  have G_init : OkF P w K mg base 6 (He.ma K (He.ga K "Hall") "__init__") ["self", "modulus", "takes", "calls", "lateness"] (spInit (He.ga K "Hall")) := ok_init T
  refine FnP.okF T.f__law_hall sc__law_hall (fun _ _ _ _ _ _ us hl => match us, hl with | [_], _ => rfl) (fun vs H Q E h => ?_) (fun cdv A outer s H vs Q E hr h => ?_)
  · obtain ⟨t, _, _, _, _, _, _, rfl, _⟩ := h
    rfl
  obtain ⟨t, tp, cp, m, lt, tk, cl, rfl, hP, k⟩ := h
  refine ⟨_, (pss_one (ps_ret (pe_make T.mk_Hall G_init.one (hr.mono (by decide)) (by rfl) T.g_Hall G_init.two .nil passL (pa_cons (pe_ix (ixTK (K := K)) (pv 0) pe_int (fun _ _ => rfl)) (pa_cons (pe_ix (ixTK (K := K)) (pv 0) pe_int (fun _ _ => rfl)) (pa_cons (pe_ix (ixTK (K := K)) (pv 0) pe_int (fun _ _ => rfl)) (pa_cons (pe_ix (ixTK (K := K)) (pv 0) pe_int (fun _ _ => rfl)) pa_nil))))))), ?_⟩
  have S := SqT.of (K := K) hP.at_
  refine ⟨_, rfl, t, _, 0, _, rfl, rfl, S, at3 (j := 0) rfl, _, rfl, t, _, 1, _, rfl, rfl, S, at3 (j := 1) rfl, _, rfl, t, _, 2, _, rfl, rfl, S, at3 (j := 2) rfl, _, rfl, t, _, 3, _, rfl, rfl, S, at3 (j := 3) rfl, fun x dx nx ndx nex => ?_⟩
  have S1 : Same H (upd (upd H dx (.own x)) x (.ins (He.ga K "Hall") dx [])) := fun b o e => by
    rw [upd_ne (ne_of_none e nx), upd_ne (ne_of_none e ndx)]
    exact e
  refine ⟨x, dx, tp, cp, m, lt, tk, cl, rfl, upd_same, S1 _ _ hP.tkA, S1 _ _ hP.clA, hP.ok, fun H' lp B n hA => ⟨rfl, ?_⟩⟩
  refine k x lp H' nx (S1.free n) (fun b o e => ?_) hA
  exact B b o (ne_of_none e nx) (S1 b o e)
end
end Tk

/-! ### Functions that are made, as tracked objects -/
namespace Tk
open PySem PySem.Spec PyProof.Rows L2 LamX
namespace Cz
/-- the function object at f -/
def FnO (f : Addr) (o : Obj) : HO := .ext fun g => g.get? f = some o
/-- a cell's object that holds v -/
def IsCel (o : Obj) (v : V) : Prop := ∃ u, RelV v u ∧ o.data = .cell (some u)
def remL (H : Hp) (l : List Addr) : Hp := fun b => if b ∈ l then none else H b
def putB (H H' : Hp) (l : List Addr) : Hp := fun b => if b ∈ l then H b else H' b
section
variable {P : Program} {w : World} {H H' : Hp} {g g' : Heap} {l : List Addr}
theorem fnO_ok {f : Addr} {o : Obj} (e : g.get? f = some o) : ObjOk P w H g f (FnO f o) := ⟨e, ⟨o, e⟩, fun _ _ e1 k => k _ e1⟩
theorem fnO_get (hk : HOk P w H g) {f : Addr} {o : Obj} (e : H f = some (FnO f o)) : g.get? f = some o := (hk f _ e).1
theorem remL_some {b : Addr} {o : HO} (e : remL H l b = some o) : b ∉ l ∧ H b = some o := by
  unfold remL at e
  by_cases q : b ∈ l
  · rw [if_pos q] at e
    cases e
  · rw [if_neg q] at e
    exact ⟨q, e⟩
theorem remL_none {b : Addr} (e : H b = none) : remL H l b = none := by
  unfold remL
  split
  · rfl
  · exact e
theorem remL_in {b : Addr} (e : b ∈ l) : remL H l b = none := by unfold remL; rw [if_pos e]
theorem remL_out {b : Addr} (e : b ∉ l) : remL H l b = H b := by unfold remL; rw [if_neg e]
theorem putB_in {b : Addr} (e : b ∈ l) : putB H H' l b = H b := by unfold putB; rw [if_pos e]
theorem putB_out {b : Addr} (e : b ∉ l) : putB H H' l b = H' b := by unfold putB; rw [if_neg e]
/-- all of l hold cells -/
def Cels (H : Hp) (l : List Addr) : Prop := ∀ c ∈ l, ∃ o v, H c = some (FnO c o) ∧ IsCel o v
theorem remL_keep {b : Addr} {o : HO} (hc : Cels H l) (e : H b = some o) (h : ∀ φ, o ≠ .ext φ) : remL H l b = some o := by
  rw [remL_out]
  · exact e
  · intro q
    obtain ⟨_, v, z, _⟩ := hc b q
    rw [e] at z
    exact h _ (Option.some.inj z)
theorem remL_hok (hc : Cels H l) (hk : HOk P w H g) : HOk P w (remL H l) g := fun b o e => by
  obtain ⟨_, e2⟩ := remL_some e
  exact (hk b o e2).stay (fun _ _ _ q => q) (fun d q => remL_keep hc q fun φ z => by cases z) fun d xs q => remL_keep hc q fun φ z => by cases z
/-- behind the body: the cells as they were -/
theorem putB_hok (hc : Cels H l) (hk : HOk P w H g) (hk' : HOk P w H' g') (cell : ∀ c ∈ l, ∀ o, g.get? c = some o → g'.get? c = some o) (out : ∀ c ∈ l, H' c = none) : HOk P w (putB H H' l) g' := fun b o e => by
  by_cases q : b ∈ l
  · rw [putB_in q] at e
    obtain ⟨ob, v, z, _⟩ := hc b q
    rw [z] at e
    obtain rfl := Option.some.inj e
    exact fnO_ok (cell b q _ (fnO_get hk z))
  · rw [putB_out q] at e
    refine (hk' b o e).stay (fun _ _ _ q => q) (fun d z => ?_) fun d xs z => ?_
    · rw [putB_out]
      · exact z
      · intro m
        rw [out d m] at z
        cases z
    · rw [putB_out]
      · exact z
      · intro m
        rw [out d m] at z
        cases z
theorem putB_un {fs : List Addr} (hc : Cels H l) (un : Un fs [] (remL H l) H' g g') (out : ∀ c ∈ l, H' c = none) : Un fs [] H (putB H H' l) g g' := by
  have rn : ∀ {b : Addr}, H b = none → remL H l b = none := fun e => remL_none e
  have nl : ∀ {b : Addr}, H b = none → b ∉ l := fun {b} e q => by
    obtain ⟨_, v, z, _⟩ := hc b q
    rw [e] at z
    cases z
  refine ⟨fun b o e n => un.keep b o e (rn n), fun b o e n => un.slot b o e (rn n), fun b o e n x => ?_, fun b o e x => un.there b o e x, fun b xs e => ?_, fun b o u e => ?_, fun b ps e => ?_⟩
  · rw [putB_out (nl n)]
    exact un.free b o e (rn n) x
  · have q := remL_keep hc e fun φ z => by cases z
    have r := un.tups b xs q
    rw [putB_out (remL_some q).1]
    exact r
  · have q := remL_keep hc e fun φ z => by cases z
    have r := un.frzs b o u q
    rw [putB_out (remL_some q).1]
    exact r
  · have q := remL_keep hc e fun φ z => by cases z
    obtain ⟨more, r⟩ := un.tbls b ps q
    exact ⟨more, by rw [putB_out (remL_some q).1]; exact r⟩
end
/-- a function object keeps a promise: called with one argument it does what R says -/
def LamOk (P : Program) (w : World) (K : PySem.W.Frag) (mg : Str → Option Value) (base : Heap) (k : Nat) (obj : Obj) (R : V → Hp → VK → Prop) : Prop :=
  ∀ (A : Around) (outer : List Env) (s : Shared) (H : Hp) (f : Addr) (y : V) (u : Value) (Q : VK), Room (k + 1) A → Env0 P w K mg base A outer s H → s.heap.get? f = some obj → RelV y u → R y H Q →
    codeAny (model P w) A (.call (.ref f) ⟨[u], []⟩) (CR (L2.CX P w) outer P w H s Q E0) s
/-- the cells of a lambda's captured names -/
def kap (X : Cx) (scope : Scope) : List Addr := (cloFrom X.env.cells scope.names []).map (·.2)
def kapA (X : Cx) (x : Str) : Addr := (X.env.cells.lookup x).getD 0
/-- the captured names and what their cells hold -/
def Capt (X : Cx) (scope : Scope) (σ : L2.St) (H : Hp) : Prop := ∀ q ∈ scope.names, q.2 = .free → ∃ (i : Nat) (v : V) (o : Obj), X.N[i]? = some q.1 ∧ σ[i]? = some (some v) ∧ H (kapA X q.1) = some (FnO (kapA X q.1) o) ∧ IsCel o v
/-- what its body makes of an argument, its cells tracked -/
def LamR (X : Cx) (scope : Scope) (c' : Addr) (tb : TE) (y : V) (H : Hp) (Q : VK) : Prop := ∃ σ : L2.St, σ.length = X.N.length ∧ Capt X scope σ H ∧
  H c' = some (CodeO c' (X.env.qual ++ "<lambda>")) ∧ tb (σ ++ [some y]) (remL H (kap X scope)) fun v H' => Q v (putB H H' (kap X scope))
section
variable {X : Cx} {scope : Scope} {a : Str}
theorem clo_up (ok : X.Ok) (L : LamP X.env.scope scope a) {q : Str} {c : Addr} (e : (cloFrom X.env.cells scope.names []).lookup q = some c) : X.env.cells.lookup q = some c ∧ (q, NameKind.free) ∈ scope.names := by
  rcases cloFrom_mem (PySem.mem_of_lookup e) with hm | ⟨z1, z2⟩
  · cases hm
  · obtain ⟨d, hd⟩ := (L.fre _ z1 rfl).elim (fun z => ok.has _ (.inl z)) fun z => ok.has _ (.inr z)
    have hd : X.env.cells.lookup q = some d := hd
    have e2 : c = d := by rw [z2, hd] <;> rfl
    rw [e2]
    exact ⟨hd, z1⟩
theorem clo_has {q : Str} (hl : scope.names.lookup q = some .free) : ∃ c, (cloFrom X.env.cells scope.names []).lookup q = some c := mem_lookup (cloFrom_has (cells := X.env.cells) (acc := []) (PySem.mem_of_lookup hl))
theorem kap_mem {q : Str} {c : Addr} (e : (cloFrom X.env.cells scope.names []).lookup q = some c) : c ∈ kap X scope := List.mem_map.mpr ⟨(q, c), PySem.mem_of_lookup e, rfl⟩
theorem capt_cels (ok : X.Ok) (L : LamP X.env.scope scope a) {σ : L2.St} {H : Hp} (h : Capt X scope σ H) : Cels H (kap X scope) := fun c hc => by
  obtain ⟨⟨q, d⟩, hm, rfl⟩ := List.mem_map.mp hc
  rcases cloFrom_mem hm with m | ⟨z1, z2⟩
  · cases m
  · obtain ⟨i, v, o, _, _, e, r⟩ := h _ z1 rfl
    exact ⟨o, v, by rw [show d = kapA X q from z2]; exact e, r⟩
theorem capt_val (hN : X.N.Nodup) {σ : L2.St} {H : Hp} (h : Capt X scope σ H) {i : Nat} {x : Str} {v : V} (hi : X.N[i]? = some x) (hf : scope.names.lookup x = some .free) (hv : σ[i]? = some (some v)) : ∃ o, H (kapA X x) = some (FnO (kapA X x) o) ∧ IsCel o v := by
  obtain ⟨j, u, o, hj, hu, e, r⟩ := h (x, .free) (PySem.mem_of_lookup hf) rfl
  have : i = j := (List.getElem?_inj (List.getElem?_eq_some_iff.mp hi).1 hN).mp (hi.trans hj.symm)
  subst this
  rw [hv] at hu
  obtain rfl : v = u := by
    have := Option.some.inj hu
    exact Option.some.inj this
  exact ⟨o, e, r⟩
theorem lamC_start {σ : L2.St} {H : Hp} {s1 : Shared} {y : V} {v : Value} {A : Around} {outer : List Env} {f c' : Addr} {h₁ : Heap} {tk : Nat} (ok : X.Ok) (L : LamP X.env.scope scope a) (hna : a ∉ X.N) (hlen : σ.length = X.N.length) (hN : X.N.Nodup) (hC : Capt X scope σ H) (e0 : Env0 X.prog X.w X.K X.mg X.base A outer s1 H) (hd : A.handled = none)
    (ry : RelV y v) (hns : h₁.Ns s1.heap.objs.size fun x => ([(a, v)] : List (Str × Value)).reverse.lookup x) (kp : ∀ b o, s1.heap.get? b = some o → h₁.get? b = some o) :
    Inv (lamCxP X a A outer s1 (remL H (kap X scope)) scope f c') [] (σ ++ [some y]) (remL H (kap X scope)) { s1 with heap := h₁, toks := tk } := by
  have hc := capt_cels ok L hC
  have hok2 : HOk X.prog X.w (remL H (kap X scope)) s1.heap := remL_hok hc e0.hok
  have cel : ∀ {q c}, (cloFrom X.env.cells scope.names []).lookup q = some c → ∃ u, h₁.IsCell c (some u) := fun {q c} e => by
    obtain ⟨o, x, z, u, _, d⟩ := hc c (kap_mem e)
    exact ⟨u, o, kp _ _ (fnO_get e0.hok z), d⟩
  have none0 : ∀ b : Addr, b ∉ (lamCxP X a A outer s1 (remL H (kap X scope)) scope f c').ex := fun b z => by cases (show b ∈ ([] : List Addr) from z)
  refine ⟨⟨e0.mod, L.kd, rfl, rfl, Nat.le_refl _, fun p q c e1 e2 => ok.inj p q c (clo_up ok L e1).1 (clo_up ok L e2).1, fun q hq => ?_, fun q c z _ => ?_, fun _ => hd, Around.frames_deeper e0.frames, .inr ⟨rfl, rfl⟩, fun b z => absurd z (none0 b), fun b o e => ⟨(e0.bs b o e).1, remL_none (e0.bs b o e).2⟩, e0.bsz, fun b _ _ => none0 b,
      fun b z => absurd z (none0 b), e0.funs, fun b hb => remL_none (e0.frf b hb)⟩,
    rfl, e0.bare, Un.kept kp, ⟨_, hns, fun i q u e1 e2 e3 => ?_⟩, fun q c e => ?_, hok2.fresh (Nat.le_refl _), fun q c e => remL_in (kap_mem e), fun q hq => absurd (show q ∈ ([] : List (Addr × Obj)) ++ [] from hq) (by simp), hok2.kept kp, ?_⟩
  · rcases (show scope.names.lookup q = some .cell ∨ scope.names.lookup q = some .free from hq) with z | z
    · exact absurd rfl (L.own _ (PySem.mem_of_lookup z)).2
    · exact clo_has z
  · cases (show false = true from z)
  · have e1 : (X.N ++ [a])[i]? = some q := e1
    have e3 : Vis scope q := e3
    rcases Nat.lt_or_ge i X.N.length with lt | ge
    · rw [List.getElem?_append_left lt] at e1
      rw [List.getElem?_append_left (by rw [hlen]; exact lt)] at e2
      have qn : q ≠ a := fun z => hna (by rw [← z]; exact List.mem_of_getElem? e1)
      have kf : scope.names.lookup q = some .free := by
        rcases e3 with z | z | z
        · exact absurd ((L.own _ (PySem.mem_of_lookup z)).1 rfl) qn
        · exact absurd rfl (L.own _ (PySem.mem_of_lookup z)).2
        · exact z
      obtain ⟨d, hd2⟩ := clo_has (X := X) kf
      have ka : kapA X q = d := by unfold kapA; rw [(clo_up ok L hd2).1]; rfl
      obtain ⟨o, z, x, r, dd⟩ := capt_val hN hC e1 kf e2
      rw [ka] at z
      exact ⟨x, r, .inr ⟨.inr kf, d, hd2, o, kp _ _ (fnO_get e0.hok z), dd⟩⟩
    · have hi : i = X.N.length := by
        have := (List.getElem?_eq_some_iff.mp e1).1
        rw [List.length_append] at this
        have : i < X.N.length + 1 := this
        omega
      subst hi
      rw [List.getElem?_append_right (Nat.le_refl _), Nat.sub_self] at e1
      rw [List.getElem?_append_right (by rw [hlen]; exact Nat.le_refl _), hlen, Nat.sub_self] at e2
      obtain rfl : a = q := Option.some.inj e1
      have eu : some y = some u := Option.some.inj e2
      cases eu
      refine ⟨v, ry, .inl ⟨L.par, ?_⟩⟩
      show (match a == a with | true => some v | false => _) = some v
      rw [beq_self_eq_true]
  · obtain ⟨u, z⟩ := cel e
    exact ⟨_, z⟩
  · show (σ ++ [some y]).length = (X.N ++ [a]).length
    rw [List.length_append, List.length_append, hlen]
    rfl
/-- a lambda of one parameter keeps what its body's reading says -/
theorem lamOk_of {k : Nat} {c' : Addr} {pm ctv : Value} {params : Arguments} {body : Expr} {tb : TE} (ok : X.Ok) (hN : X.N.Nodup) (L : LamP X.env.scope scope a) (hna : a ∉ X.N)
    (hbind : ∀ v, bindArgs (PySem.W.kla_fn "<lambda>" (X.env.qual ++ "<lambda>") params body scope (cloFrom X.env.cells scope.names []) pm (.ref c') ctv) ⟨[v], []⟩ = pure [(a, v)])
    (hbody : ∀ (A : Around) (outer : List Env) (s : Shared) (H : Hp) (f : Addr), Room k (A.deeper (lamEnv X scope s.heap.objs.size f c')) → PE (lamCxP X a A outer s H scope f c') body tb) :
    LamOk X.prog X.w X.K X.mg X.base k (PySem.W.kla_obj "<lambda>" (X.env.qual ++ "<lambda>") params body scope (cloFrom X.env.cells scope.names []) pm c' ctv) (LamR X scope c' tb) := by
  intro A outer s H f y u Q hr e0 hf ry hR
  obtain ⟨σ, hlen, hC, hcode, ht⟩ := hR
  have hc := capt_cels ok L hC
  obtain ⟨⟨oc, vs, t, hoc, hdc, hvc⟩, _, _⟩ := e0.hok c' _ hcode
  have lim : s.heap.NoLimit := e0.mod.nolimit.keeps fun b o e => (e0.bs b o e).1
  refine PySem.W.kla_callFunE hr.depth hf rfl L.co L.gen rfl ⟨c', oc, vs, t, rfl, hoc, hdc, hvc⟩ ?_
  rw [hbind]
  refine wpAny_pure (wpAny_newFunctionEnv (fun q hq => (L.own q hq).2) (fun q hq => ?_) (fun h₁ hns hsb => ⟨lim.fresh _ hsb, ?_⟩) L.kd)
  · rw [List.mem_singleton.mp hq]
    exact L.par
  · have kp : ∀ b o, s.heap.get? b = some o → h₁.get? b = some o := fun b o z => hsb.extBut b o (Nat.ne_of_lt (Heap.lt_size z)) (Heap.get?_push_of_some _ z)
    have J := lamC_start (f := f) (c' := c') (tk := s.toks + ([(a, u)] : List (Str × Value)).length) ok L hna hlen hN hC e0 hr.hd ry hns kp
    refine PySem.W.kla_codeExpr (wpAny_mono ((hbody A outer s _ f (hr.deeper _)).run [] _ _ _ _ J ht) (fun v s' z => ?_) fun er s' z => ?_)
    · obtain ⟨w', H', J', rv', q'⟩ := z
      have un : Un (frs outer) [] (remL H (kap X scope)) H' s.heap s'.heap := J'.base
      have out : ∀ c ∈ kap X scope, H' c = none := fun c m => by
        obtain ⟨o, x, z, _⟩ := hc c m
        exact un.free c o (fnO_get e0.hok z) (remL_in m) (by simp)
      have keep : ∀ c ∈ kap X scope, ∀ o, s.heap.get? c = some o → s'.heap.get? c = some o := fun c m o e => by
        obtain ⟨_, x, z, _⟩ := hc c m
        refine un.keep c o e (remL_in m) (fun hb => ?_) (by simp)
        have := e0.frf c hb
        rw [z] at this
        cases this
      exact ⟨w', putB H H' (kap X scope), J'.os, J'.bare, putB_un hc un out, putB_hok hc e0.hok J'.hok keep out, rv', q'⟩
    · have no : ∀ (e : Value) (s2 : Shared), L2.CX X.prog X.w outer (remL H (kap X scope)) s E0 e s2 → False := fun e s2 q => by
        obtain ⟨_, _, _, _, _, _, _, _, _, _, _, _, q⟩ := q
        exact q
      exact wpAny_mono z (fun _ s2 q => (no _ s2 q).elim) fun _ s2 q => (no _ s2 q).elim
/-- an old invariant, a new object: it may be tracked -/
theorem track {pins : List (Addr × Obj)} {σ : L2.St} {H H1 : Hp} {s s' : Shared} {f : Addr} {ob : Obj} (I : Inv X pins σ H s) (I1 : Inv X pins σ H1 s') (hf : s'.heap.get? f = some ob) (new : s.heap.objs.size ≤ f) (hn : H1 f = none) : Inv X pins σ (upd H1 f (FnO f ob)) s' := by
  have old : ∀ {b : Addr} {o : Obj}, s.heap.get? b = some o → b ≠ f := fun {b o} e q => by
    subst q
    exact absurd (Heap.lt_size e) (Nat.not_lt.mpr new)
  have hs0 : ∀ b o, X.s_0.heap.get? b = some o → b ≠ f := fun b o e q => by
    subst q
    exact Nat.lt_irrefl _ (Nat.lt_of_lt_of_le (Nat.lt_of_lt_of_le (Heap.lt_size e) I.sz) new)
  refine ⟨I1.ok, I1.os, I1.bare, ?_, I1.loc, I1.cell, ?_, fun x c e => ?_, fun p hp => ?_, ?_, I1.len⟩
  · have u := I1.base
    refine ⟨u.keep, u.slot, fun b o e n x => ?_, u.there, fun b xs e => ?_, fun b o w e => ?_, fun b ps e => ?_⟩
    · rw [upd_ne (hs0 b o e)]
      exact u.free b o e n x
    · have z := u.tups b xs e
      rw [upd_ne (ne_of_none z hn)]
      exact z
    · have z := u.frzs b o w e
      rw [upd_ne (ne_of_none z hn)]
      exact z
    · obtain ⟨more, z⟩ := u.tbls b ps e
      exact ⟨more, by rw [upd_ne (ne_of_none z hn)]; exact z⟩
  · have lt := I.lt
    rw [upd_ne (Nat.ne_of_lt (Nat.lt_of_lt_of_le lt new))]
    exact I1.free
  · obtain ⟨u, o, ho, _⟩ := I.cell x c e
    rw [upd_ne (old ho)]
    exact I1.freeC x c e
  · obtain ⟨p1, p2, p3⟩ := I1.pin p hp
    refine ⟨p1, ?_, p3⟩
    rw [upd_ne (old (I.pin p hp).1)]
    exact p2
  · intro b o e
    by_cases q : b = f
    · subst q
      rw [upd_same] at e
      obtain rfl := Option.some.inj e
      exact fnO_ok hf
    · rw [upd_ne q] at e
      refine (I1.hok b o e).stay (fun _ _ _ q => q) (fun d z => ?_) fun d xs z => ?_
      · rw [upd_ne (ne_of_none z hn)]
        exact z
      · rw [upd_ne (ne_of_none z hn)]
        exact z
end
/-- the name of a lambda of this context -/
abbrev lnm (X : Cx) : Str := X.env.qual ++ "<lambda>"
abbrev lob (X : Cx) (params : Arguments) (body : Expr) (scope : Scope) (pm : Value) (c' : Addr) (ctv : Value) : Obj := PySem.W.kla_obj "<lambda>" (lnm X) params body scope (cloFrom X.env.cells scope.names []) pm c' ctv
/-- a lambda is made: a new object -/
theorem lam_new {X : Cx} {pins : List (Addr × Obj)} {σ : L2.St} {H : Hp} {s : Shared} {T : List (Addr × Str)} {params : Arguments} {body : Expr} {scope : Scope} {pos : Pos} {Er : Value → Shared → Prop} {Rs : Value → Shared → Prop} (I : Inv X pins σ H s) (tx : TabX X T) (tabs : Tabs T H)
    (nodef : defaultsOf params X.env = ([], [])) (caps : ∀ y ∈ scope.names, y.2 = .free → ∃ c, X.env.cells.lookup y.1 = some c)
    (goal : ∀ (f cd : Addr) (pm ctv : Value) (G : Hp) (t : Shared), Inv X pins σ G t → ExtN H G → Tabs T G → t.heap.get? f = some (lob X params body scope pm cd ctv) → s.heap.objs.size ≤ f → G f = none → G cd = some (CodeO cd (lnm X)) → Rs (.ref f) t) :
    wpAny (model X.prog X.w) X.A (eval (.Lambda params body scope pos) X.env) Rs Er s := by
  obtain ⟨c, TP, TB, hcode, hmem, honly⟩ := tx
  obtain ⟨tb, htb, htr, hknown⟩ := tabs _ hmem
  have atT : s.heap.get? TP = some { cls := .none, data := .fields tb } := I.hok TP _ htb
  have bTP := TB.bm.keeps I.bk
  have gl := I.mod.glob.keeps I.bk
  have cd0 := TB.code.keeps I.bk
  refine PySem.W.kla_eval nodef ?_
  cases hh : codeAmong pos tb.toList with
  | some cv =>
    obtain ⟨cd, rfl, hco⟩ := hknown pos cv hh
    refine PySem.W.kla_makeFunctionHit (mg := X.mg) (c := c) (P := TP) (ps := tb) (closure_ok caps) I.ok.glob gl hcode cd0 atT htr hh bTP fun ctv h1 tk old big => ?_
    refine goal h1.objs.size cd ((X.mg "__name__").getD .none) ctv H _ (I.kept fun b o e => Heap.get?_push_of_some _ (old b o e)) (ExtN.refl H) tabs ?_ big (I.hok.fresh big) hco
    exact Heap.get?_push_size _ rfl
  | none =>
    refine PySem.W.kla_makeFunction (mg := X.mg) (c := c) (P := TP) (ps := tb) (closure_ok caps) I.ok.glob gl hcode cd0 atT htr hh TB.gP bTP fun cd ctv h1 tk old ge lt rec_ nt => ?_
    obtain ⟨_, oc, vs, tt, er, hoc, hdt, hvs⟩ := rec_
    cases er
    have big : s.heap.objs.size ≤ h1.objs.size := Nat.le_trans ge (Nat.le_of_lt lt)
    have free1 : H cd = none := I.hok.fresh ge
    have J := inv_table (t' := tk) (more := #[rawInt pos.line, rawInt pos.col, .ref cd]) (h' := h1.push (lob X params body scope ((X.mg "__name__").getD .none) cd ctv)) I htb
      (fun b o nb e => Heap.get?_push_of_some _ (old b o nb e)) (Heap.get?_push_of_some _ nt) ge ⟨oc, vs, tt, Heap.get?_push_of_some _ hoc, hdt, hvs⟩
    have ext : ExtN H (upd (upd H TP (.tbl (tb ++ #[rawInt pos.line, rawInt pos.col, .ref cd]))) cd (CodeO cd (lnm X))) := fun b o e n => by
      have n1 : b ≠ cd := ne_of_none e free1
      have n2 : b ≠ TP := fun z => by
        rw [z, htb] at e
        exact n tb (Option.some.inj e).symm
      rw [upd_ne n1, upd_ne n2]
      exact e
    refine goal h1.objs.size cd ((X.mg "__name__").getD .none) ctv _ _ J ext (fun p hp => ?_) (Heap.get?_push_size _ rfl) big ?_ upd_same
    · have el : (tb ++ #[rawInt pos.line, rawInt pos.col, .ref cd]).toList = tb.toList ++ [rawInt pos.line, rawInt pos.col, .ref cd] := by simp
      by_cases isP : p.1 = TP
      · rw [honly p hp isP, isP]
        refine ⟨_, by rw [upd_ne (ne_of_none htb free1), upd_same], by rw [el]; exact PySem.TriplesOk_snoc _ _ _ _ htr, fun q cv hq => ?_⟩
        rw [el] at hq
        rcases among_app _ htr hq with z | z
        · obtain ⟨d, r1, r2⟩ := hknown q cv z
          exact ⟨d, r1, ext _ _ r2 codeO_ne⟩
        · exact ⟨cd, z, upd_same⟩
      · obtain ⟨tb2, r1, r2, r3⟩ := tabs p hp
        refine ⟨tb2, by rw [upd_ne (ne_of_none r1 free1), upd_ne isP]; exact r1, r2, fun q cv hq => ?_⟩
        obtain ⟨d, r4, r5⟩ := r3 q cv hq
        exact ⟨d, r4, ext _ _ r5 codeO_ne⟩
    · rw [upd_ne (Nat.ne_of_gt lt), upd_ne (Nat.ne_of_gt (Nat.lt_of_lt_of_le (Heap.lt_size atT) big))]
      exact I.hok.fresh big
/-- a lambda as a value: a tracked function that keeps its promise -/
def tLamV (X : Cx) (T : List (Addr × Str)) (k : Nat) (scope : Scope) (tb : TE) : TE := fun _ H Q => Tabs T H ∧ ∀ (f cd : Addr) (fd : FuncData) (H1 : Hp), H f = none → ExtN H H1 → Tabs T H1 → H1 f = some (FnO f { cls := .type "function", data := .func fd }) → H1 cd = some (CodeO cd (lnm X)) →
  LamOk X.prog X.w X.K X.mg X.base k { cls := .type "function", data := .func fd } (LamR X scope cd tb) → Q (.ref f) H1
theorem pe_lam {X : Cx} {T : List (Addr × Str)} {k : Nat} {a : Str} {params : Arguments} {body : Expr} {scope : Scope} {pos : Pos} {tb : TE} (tx : TabX X T) (hN : X.N.Nodup) (L : LamP X.env.scope scope a) (hna : a ∉ X.N) (nodef : defaultsOf params X.env = ([], []))
    (hbind : ∀ (q : Str) (cl : List (Str × Addr)) (pm cv ctv : Value) (v : Value), bindArgs (PySem.W.kla_fn "<lambda>" q params body scope cl pm cv ctv) ⟨[v], []⟩ = pure [(a, v)])
    (hbody : ∀ (A : Around) (outer : List Env) (s : Shared) (H : Hp) (f c' : Addr), Room k (A.deeper (lamEnv X scope s.heap.objs.size f c')) → PE (lamCxP X a A outer s H scope f c') body tb) :
    PE X (.Lambda params body scope pos) (tLamV X T k scope tb) := by
  refine ⟨fun pins s σ H Q I h => ?_⟩
  obtain ⟨hT, h⟩ := h
  refine lam_new I tx hT nodef (fun y hy e => (L.fre y hy e).elim (fun z => I.ok.has _ (.inl z)) fun z => I.ok.has _ (.inr z)) fun f cd pm ctv G t J ext hTG hf big hn hco => ?_
  have J2 := track I J hf big hn
  have ex2 : ExtN G (upd G f (FnO f (lob X params body scope pm cd ctv))) := fun b o e _ => by
    rw [upd_ne (ne_of_none e hn)]
    exact e
  refine ⟨.ref f, _, J2, rfl, h f cd _ _ (I.hok.fresh big) (ext.trans ex2) (hTG.ext fun b o e => ?_) upd_same (ex2 _ _ hco codeO_ne) (lamOk_of I.ok hN L hna (fun v => hbind _ _ _ _ _ v) fun A outer s H f' hr => hbody A outer s H f' cd hr)⟩
  rw [upd_ne (ne_of_none e hn)]
  exact e
/-- b(e), b a tracked function -/
def tAct (i : Nat) (obj : Obj) (R : V → Hp → VK → Prop) (te : TA) : TE := fun σ H Q => ∃ f, σ[i]? = some (some (.ref f)) ∧ H f = some (FnO f obj) ∧ te σ H fun vs H1 => ∃ y, vs = [y] ∧ H1 f = some (FnO f obj) ∧ R y H1 Q
theorem pe_actC {Z : Cx} {P : Program} {w : World} {K : PySem.W.Frag} {mg : Str → Option Value} {base : Heap} {k i : Nat} {obj : Obj} {fd : FuncData} {R : V → Hp → VK → Prop} {b : Str} {p1 p2 : Pos} {e : Expr} {te : TA} (LO : LamOk P w K mg base k obj R) (hob : obj = { cls := .type "function", data := .func fd }) (hr : Room (k + 1) Z.A)
    (hN : Z.N[i]? = some b) (hv : Vis Z.env.scope b) (ha : PA Z [e] te) (hZ : Z.prog = P ∧ Z.w = w ∧ Z.K = K ∧ Z.mg = mg ∧ Z.base = base := by exact ⟨rfl, rfl, rfl, rfl, rfl⟩) (hd : (b == ("__debug__" : Str)) = false := by decide) (hcd : (b == ("__classdict__" : Str)) = false := by decide)
    (he : starEach [e] Z.env = (false, eval e Z.env) :: starEach [] Z.env := by rfl) : PE Z (.Call (.Name b p1) [e] [] p2) (tAct i obj R te) := by
  obtain ⟨rfl, rfl, rfl, rfl, rfl⟩ := hZ
  subst hob
  refine ⟨fun pins s σ H Q I h => ?_⟩
  obtain ⟨f, hs, hf, ht⟩ := h
  refine wpAny_Call_Name_kw (thn ((pe_var (pos := p1) (i := i) hN hv hd hcd).run pins s σ H (fun v H1 => v = .ref f ∧ H1 = H) I ⟨.ref f, hs, rfl, rfl⟩) fun u0 s1 z => ?_)
  obtain ⟨v0, H1, I1, r1, rfl, rfl⟩ := z
  obtain rfl : u0 = Value.ref f := r1
  refine PySem.W.callWith_F ⟨_, _, _, _, fnO_get I1.hok hf⟩ (thn (ha.run p2 pins s1 σ _ _ I1 ht) fun us s2 z => ?_) he (by rfl)
  obtain ⟨vs, H2, I2, rv, y, rfl, hf2, hR⟩ := z
  have of2 := fnO_get I2.hok hf2
  refine ⟨⟨_, _, _, _, of2⟩, ?_⟩
  cases rv with
  | @cons _ u _ _ ry rn =>
  cases rn
  have rc := LO Z.A Z.stack s2 H2 f y u Q hr I2.env0 of2 ry hR
  refine wpAny_call (codeAny_mono rc fun r s' z => ?_)
  cases r with
  | error er => exact (passL (X := Z) pins σ H2 s2 er s' I2 z)
  | ok fl =>
    cases fl with
    | ret u' => exact I2.after z
    | next => exact False.elim z
    | brk => exact False.elim z
    | cont => exact False.elim z
/-! a call, the caller's cells tracked -/
def KC (X : Cx) (b : Addr) : Prop := ∃ x, X.env.cells.lookup x = some b
/-- what stands at a cell that holds a value -/
def celHO (g : Heap) (b : Addr) : Option HO := match g.get? b with
  | some o => (match o.data with
    | .cell (some _) => some (FnO b o)
    | _ => none)
  | none => none
open Classical in
noncomputable def addC (X : Cx) (g : Heap) (H : Hp) : Hp := fun b => if KC X b then celHO g b else H b
open Classical in
noncomputable def remC (X : Cx) (H : Hp) : Hp := fun b => if KC X b then none else H b
section
variable {X : Cx} {g : Heap} {H : Hp} {b : Addr}
theorem addC_in (h : KC X b) : addC X g H b = celHO g b := by unfold addC; rw [if_pos h]
theorem addC_out (h : ¬ KC X b) : addC X g H b = H b := by unfold addC; rw [if_neg h]
theorem remC_in (h : KC X b) : remC X H b = none := by unfold remC; rw [if_pos h]
theorem remC_out (h : ¬ KC X b) : remC X H b = H b := by unfold remC; rw [if_neg h]
theorem celHO_some {o : HO} (e : celHO g b = some o) : ∃ ob, g.get? b = some ob ∧ o = FnO b ob ∧ ∃ u, ob.data = .cell (some u) := by
  unfold celHO at e
  cases q : g.get? b with
  | none => rw [q] at e; cases e
  | some ob =>
    rw [q] at e
    obtain ⟨c1, c2, c3, c4⟩ := ob
    cases c3 with
    | cell z =>
      cases z with
      | none => cases e
      | some u => exact ⟨_, rfl, (Option.some.inj e).symm, u, rfl⟩
    | _ => cases e
theorem celHO_of {ob : Obj} {u : Value} (e : g.get? b = some ob) (d : ob.data = .cell (some u)) : celHO g b = some (FnO b ob) := by
  unfold celHO
  rw [e]
  show (match ob.data with | .cell (some _) => some (FnO b ob) | _ => none) = _
  rw [d]
end
/-- what a caller asks of a call with its cells tracked -/
def callCK (X : Cx) (sp : Sp) (σ : L2.St) (Q : VK) : List V → Hp → Prop := fun vs H1 => ∀ H3 : Hp, (∀ b o, H1 b = some o → H3 b = some o) →
  (∀ (i : Nat) x v, X.N[i]? = some x → X.env.scope.names.lookup x = some .cell → σ[i]? = some (some v) → ∃ o, H3 (kapA X x) = some (FnO (kapA X x) o) ∧ IsCel o v) →
  sp vs H3 (fun v H4 => (∀ b o, H3 b = some (FnO b o) → H4 b = some (FnO b o)) ∧ ∀ H5 : Hp, (∀ b, H1 b ≠ none → H5 b = H4 b) → (∀ b, H3 b = none → H5 b = H4 b) → Q v H5) E0
def tCallC (X : Cx) (sp : Sp) (t : TA) : TE := fun σ H Q => t σ H (callCK X sp σ Q)
/-- the same; the caller's cells are new to its own heap -/
def callCD (X : Cx) (sp : Sp) (σ : L2.St) (Q : VK) : List V → Hp → Prop := fun vs H1 => ∀ H3 : Hp, (∀ b o, H1 b = some o → H3 b = some o) → (∀ scope : Scope, (∀ y ∈ scope.names, y.2 = .free → X.env.scope.names.lookup y.1 = some .cell ∨ X.env.scope.names.lookup y.1 = some .free) → ∀ c ∈ kap X scope, H1 c = none) →
  (∀ (i : Nat) x v, X.N[i]? = some x → X.env.scope.names.lookup x = some .cell → σ[i]? = some (some v) → ∃ o, H3 (kapA X x) = some (FnO (kapA X x) o) ∧ IsCel o v) →
  sp vs H3 (fun v H4 => (∀ b o, H3 b = some (FnO b o) → H4 b = some (FnO b o)) ∧ ∀ H5 : Hp, (∀ b, H1 b ≠ none → H5 b = H4 b) → (∀ b, H3 b = none → H5 b = H4 b) → Q v H5) E0
def tCallD (X : Cx) (sp : Sp) (t : TA) : TE := fun σ H Q => t σ H (callCD X sp σ Q)
theorem run_fnD {X : Cx} {k : Nat} {f : Addr} {fd : FuncData} {ps : List Str} {sp : Sp} {pins : List (Addr × Obj)} {σ : L2.St} {H : Hp} {s : Shared} {Q : VK} {us : List Value} {vs : List V} (F : FnOk X.prog X.w X.K X.mg X.base (L2.CX X.prog X.w) k f fd ps sp) (hr : Room k X.A) (hb : Binds X.K fd ps [])
    (hfn : ∀ x, X.fn x = true) (I : Inv X pins σ H s) (r : Vals vs us) (h : callCD X sp σ Q vs H) : wpAny (model X.prog X.w) X.A (PySem.call (.ref f) us) (EP X pins σ Q) X.xe s := by
  have cellAt : ∀ {b : Addr}, KC X b → ∃ ob v, s.heap.get? b = some ob ∧ ob.data = .cell v := fun {b} ⟨x, e⟩ => by
    obtain ⟨v, ob, h1, h2⟩ := I.cell x b e
    exact ⟨ob, v, h1, h2⟩
  have isNone : ∀ {b : Addr}, KC X b → H b = none := fun ⟨x, e⟩ => I.freeC x _ e
  have young : ∀ {b : Addr}, KC X b → X.s_0.heap.objs.size ≤ b := fun ⟨x, e⟩ => I.ok.cab x _ (hfn x) e
  have noFr : ∀ b ∈ frs X.stack, ¬ KC X b := fun b hb hk => by
    rcases List.mem_cons.mp (I.stkSub b hb) with e | hb
    · obtain ⟨m, hn, _⟩ := I.loc
      obtain ⟨ob, v, h1, h2⟩ := cellAt hk
      rw [e] at h1
      obtain ⟨od, es, ep, e2, dd, _⟩ := hn
      rw [h1] at e2
      obtain rfl := Option.some.inj e2
      rw [h2] at dd
      cases dd
    · obtain ⟨_, o, ho, _⟩ := I.ok.funs.mem hb
      exact Nat.lt_irrefl _ (Nat.lt_of_lt_of_le (Heap.lt_size ho) (young hk))
  have e0 := I.env0
  have kfree : ∀ scope : Scope, (∀ y ∈ scope.names, y.2 = .free → X.env.scope.names.lookup y.1 = some .cell ∨ X.env.scope.names.lookup y.1 = some .free) → ∀ c ∈ kap X scope, H c = none := fun scope fre c hc => by
    obtain ⟨⟨q, d⟩, hm, rfl⟩ := List.mem_map.mp hc
    rcases cloFrom_mem hm with m | ⟨z1, z2⟩
    · cases m
    · obtain ⟨d', hd⟩ := (fre _ z1 rfl).elim (fun z => I.ok.has _ (.inl z)) fun z => I.ok.has _ (.inr z)
      have hd : X.env.cells.lookup q = some d' := hd
      have e2 : d = d' := by rw [z2, hd] <;> rfl
      show H d = none
      rw [e2]
      exact I.freeC q _ hd
  have up : ∀ b o, H b = some o → addC X s.heap H b = some o := fun b o e => by
    rw [addC_out fun hk => by rw [isNone hk] at e; cases e]
    exact e
  have hok3 : HOk X.prog X.w (addC X s.heap H) s.heap := fun b o e => by
    by_cases hk : KC X b
    · rw [addC_in hk] at e
      obtain ⟨ob, e1, rfl, _⟩ := celHO_some e
      exact fnO_ok e1
    · rw [addC_out hk] at e
      exact (I.hok b o e).stay (fun _ _ _ q => q) (fun d q => up _ _ q) fun d xs q => up _ _ q
  have e3 : Env0 X.prog X.w X.K X.mg X.base X.A X.stack s (addC X s.heap H) := ⟨e0.frames, e0.mod, fun b o e => ⟨(e0.bs b o e).1, by
      rw [addC_out fun hk => ?_]
      · exact (e0.bs b o e).2
      · exact Nat.lt_irrefl _ (Nat.lt_of_lt_of_le (Nat.lt_of_lt_of_le (Heap.lt_size e) I.ok.bsz) (young hk))⟩, e0.bsz, e0.funs, fun b hb => by rw [addC_out (noFr b hb)]; exact e0.frf b hb, hok3, e0.bare⟩
  have h3 := h (addC X s.heap H) up kfree fun i x v hi hx hv => ?_
  · have hl : us.length = ps.length := by rw [← r.length]; exact F.len _ _ _ _ h3
    refine wpAny_call (codeAny_mono (F.run X.A X.stack s _ ⟨us, []⟩ us vs _ E0 hr e3 (by simpa using hb s us I.kIn (by simpa using hl)) r h3) fun r s' hq => ?_)
    cases r with
    | error e => exact passL (X := X) pins σ _ s e s' I (by
        obtain ⟨_, _, _, _, _, _, _, _, _, _, _, _, z⟩ := hq
        exact z.elim)
    | ok fl =>
      cases fl with
      | next => exact False.elim hq
      | brk => exact False.elim hq
      | cont => exact False.elim hq
      | ret u =>
        obtain ⟨v, H4, os, bare, un, hok4, rv, kp4, q⟩ := hq
        have outN : ∀ b, KC X b → addC X s.heap H b = none → H4 b = none := fun b hk e => by
          obtain ⟨ob, _, h1, _⟩ := cellAt hk
          exact un.free b ob h1 e (by simp)
        refine I.after (Q := Q) ⟨v, remC X H4, os, bare, ⟨fun b o e n x y => ?_, fun b o e n x y => ?_, fun b o e n y => ?_, un.there, fun b xs e => ?_, fun b o w e => ?_, fun b ps e => ?_⟩, fun b o e => ?_, rv, q _ (fun b n => ?_) fun b n => ?_⟩
        · by_cases hk : KC X b
          · cases z : addC X s.heap H b with
            | none => exact un.keep b o e z x y
            | some ho =>
              rw [addC_in hk] at z
              obtain ⟨ob, z1, rfl, _⟩ := celHO_some z
              rw [e] at z1
              obtain rfl := Option.some.inj z1
              exact fnO_get hok4 (kp4 b o (by rw [addC_in hk]; exact z))
          · exact un.keep b o e (by rw [addC_out hk]; exact n) x y
        · exact un.slot b o e (by rw [addC_out (noFr b x)]; exact n) x y
        · by_cases hk : KC X b
          · exact remC_in hk
          · rw [remC_out hk]
            exact un.free b o e (by rw [addC_out hk]; exact n) y
        · have hk : ¬ KC X b := fun hk => by rw [isNone hk] at e; cases e
          rw [remC_out hk]
          exact un.tups b xs (up _ _ e)
        · have hk : ¬ KC X b := fun hk => by rw [isNone hk] at e; cases e
          rw [remC_out hk]
          exact un.frzs b o w (up _ _ e)
        · have hk : ¬ KC X b := fun hk => by rw [isNone hk] at e; cases e
          rw [remC_out hk]
          exact un.tbls b ps (up _ _ e)
        · by_cases hk : KC X b
          · rw [remC_in hk] at e
            cases e
          · rw [remC_out hk] at e
            have still : ∀ (d : Addr) (w : HO), H4 d = some w → (∀ φ, w ≠ .ext φ) → remC X H4 d = some w := fun d w z ne => by
              rw [remC_out fun hd => ?_]
              · exact z
              · cases zz : addC X s.heap H d with
                | none => rw [outN d hd zz] at z; cases z
                | some ho =>
                  rw [addC_in hd] at zz
                  obtain ⟨ob, _, rfl, _⟩ := celHO_some zz
                  rw [kp4 d ob (by rw [addC_in hd]; exact zz)] at z
                  exact ne _ (Option.some.inj z).symm
            exact (hok4 b o e).stay (fun _ _ _ q => q) (fun d z => still d _ z fun φ y => by cases y) fun d xs z => still d _ z fun φ y => by cases y
        · rw [remC_out fun hk => n (isNone hk)]
        · by_cases hk : KC X b
          · rw [remC_in hk, outN b hk n]
          · rw [remC_out hk]
  · obtain ⟨m, _, hl⟩ := I.loc
    obtain ⟨u, r, z⟩ := hl i x v hi hv (.inr (.inl hx))
    rcases z with ⟨z, _⟩ | ⟨_, c, z1, ob, z2, z3⟩
    · have z : X.env.scope.names.lookup x = some .local := z
      rw [hx] at z
      cases z
    · have ka : kapA X x = c := by unfold kapA; rw [z1]; rfl
      rw [ka]
      exact ⟨ob, by rw [addC_in ⟨x, z1⟩]; exact celHO_of z2 z3, u, r, z3⟩
theorem run_fnC {X : Cx} {k : Nat} {f : Addr} {fd : FuncData} {ps : List Str} {sp : Sp} {pins : List (Addr × Obj)} {σ : L2.St} {H : Hp} {s : Shared} {Q : VK} {us : List Value} {vs : List V} (F : FnOk X.prog X.w X.K X.mg X.base (L2.CX X.prog X.w) k f fd ps sp) (hr : Room k X.A) (hb : Binds X.K fd ps [])
    (hfn : ∀ x, X.fn x = true) (I : Inv X pins σ H s) (r : Vals vs us) (h : callCK X sp σ Q vs H) : wpAny (model X.prog X.w) X.A (PySem.call (.ref f) us) (EP X pins σ Q) X.xe s := run_fnD F hr hb hfn I r fun H3 up _ ce => h H3 up ce
/-- x(e, ..), the cells tracked and known to be new -/
theorem pe_callD {X : Cx} {k : Nat} {f : Addr} {fd : FuncData} {ps : List Str} {sp : Sp} {x : Str} {p pos : Pos} {e : Expr} {es : List Expr} {t : TA} (F : FnOk X.prog X.w X.K X.mg X.base (L2.CX X.prog X.w) k f fd ps sp) (hr : Room k X.A) (hg : Gl X x) (hm : X.mg x = some (.ref f)) (hk : PySem.W.keepIn X.K (.ref f) = true) (hb : Binds X.K fd ps []) (ha : PA X (e :: es) t)
    (hfn : ∀ x, X.fn x = true := by exact fun _ => rfl) (hdb : (x == ("__debug__" : Str)) = false := by decide) (he : starEach (e :: es) X.env = (false, eval e X.env) :: starEach es X.env := by rfl) (hpl : (backTo pos (starEach es X.env)).any (·.1) = false := by rfl) :
    PE X (.Call (.Name x p) (e :: es) [] pos) (tCallD X sp t) := by
  refine ⟨fun pins s σ H Q I h => wpAny_Call_Name_kw (ld_glob I hg hm ?_ hdb)⟩
  exact PySem.W.callWith_K (h₀ := X.base) I.ok.mod.kin hk (thn (ha.run pos pins s σ H _ I h) fun us s1 ⟨vs, H1, I1, r, q⟩ => ⟨I1.kIn, run_fnD F hr hb hfn I1 r q⟩) he hpl
/-- x(e, ..), the cells tracked -/
theorem pe_callC {X : Cx} {k : Nat} {f : Addr} {fd : FuncData} {ps : List Str} {sp : Sp} {x : Str} {p pos : Pos} {e : Expr} {es : List Expr} {t : TA} (F : FnOk X.prog X.w X.K X.mg X.base (L2.CX X.prog X.w) k f fd ps sp) (hr : Room k X.A) (hg : Gl X x) (hm : X.mg x = some (.ref f)) (hk : PySem.W.keepIn X.K (.ref f) = true) (hb : Binds X.K fd ps []) (ha : PA X (e :: es) t)
    (hfn : ∀ x, X.fn x = true := by exact fun _ => rfl) (hdb : (x == ("__debug__" : Str)) = false := by decide) (he : starEach (e :: es) X.env = (false, eval e X.env) :: starEach es X.env := by rfl) (hpl : (backTo pos (starEach es X.env)).any (·.1) = false := by rfl) :
    PE X (.Call (.Name x p) (e :: es) [] pos) (tCallC X sp t) := by
  refine ⟨fun pins s σ H Q I h => wpAny_Call_Name_kw (ld_glob I hg hm ?_ hdb)⟩
  exact PySem.W.callWith_K (h₀ := X.base) I.ok.mod.kin hk (thn (ha.run pos pins s σ H _ I h) fun us s1 ⟨vs, H1, I1, r, q⟩ => ⟨I1.kIn, run_fnC F hr hb hfn I1 r q⟩) he hpl
end Cz
end Tk

/-! ### Reading step by step: what each reading asks, as a rule -/
namespace Tk
open PySem PySem.Spec PyProof.Rows L2
theorem Same.get {H H' : Hp} {b : Addr} {o : HO} (S : Same H H') (h : H b = some o) : H' b = some o := S b o h
theorem Same.tr {H H1 H2 : Hp} (b : Same H1 H2) (a : Same H H1) : Same H H2 := fun c o h => b c o (a c o h)
theorem Same.nw {p : Addr} {H0 H : Hp} {o : HO} (h : H p = none) (S : Same H0 H) : Same H0 (upd H p o) := fun b u e => by rw [upd_ne (ne_of_none (S b u e) h)]; exact S b u e
theorem Same.fr {H H' : Hp} {p : Addr} (S : Same H H') (h : H' p = none) : H p = none := by
  cases q : H p with
  | none => rfl
  | some o => rw [S p o q] at h; cases h
theorem sqt_sm {K : PySem.W.Frag} {H H' : Hp} {a : Addr} {xs : List V} (e : Same H H') (h : SqT K H a xs) : SqT K H' a xs := by
  rcases h with (h | ⟨o, h⟩) | h
  · exact .inl (.inl (e _ _ h))
  · exact .inl (.inr ⟨o, e _ _ h⟩)
  · exact .inr h
namespace Rd
variable {K : PySem.W.Frag} {σ : L2.St} {H : Hp} {Q : VK} {QA : List V → Hp → Prop} {QB : Bool → Hp → Prop} {D : Ends} {ta tb tc te : TE} {t : TA} {tt tu : L2.TT} {ts tr : TS}
/-! expressions -/
theorem var {i : Nat} {v : V} (h : σ[i]? = some (some v)) (k : Q v H) : tVar i σ H Q := ⟨v, h, k⟩
theorem c {v : V} (k : Q v H) : tC v σ H Q := k
theorem op {r : R2} (k : ta σ H fun x H1 => tb σ H1 fun y H2 => r x y H2 Q) : tOp r ta tb σ H Q := k
theorem un {r : V → Hp → VK → Prop} (k : ta σ H fun x H1 => r x H1 Q) : tUn r ta σ H Q := k
theorem i0 {g : Int → Int → V} {i j : Int} (k : Q (g i j) H) : rI0 g (.int i) (.int j) H Q := ⟨i, j, rfl, rfl, k⟩
theorem i1 {C : Int → Int → Prop} {g : Int → Int → V} {i j : Int} (hc : C i j) (k : Q (g i j) H) : rI C g (.int i) (.int j) H Q := ⟨i, j, rfl, rfl, hc, k⟩
theorem u1 {g : Int → V} {i : Int} (k : Q (g i) H) : rU g (.int i) H Q := ⟨i, rfl, k⟩
theorem eq {x y : V} (h : scal x y = true) (k : Q (.bl (decide (x = y))) H) : rEq x y H Q := ⟨h, k⟩
theorem ne {x y : V} (h : scal x y = true) (k : Q (.bl (!decide (x = y))) H) : rNe x y H Q := ⟨h, k⟩
def toB (Q : Bool → Hp → Prop) : VK := fun x H' => ∃ k, x = .bl k ∧ Q k H'
theorem toB_i {b : Bool} (k : QB b H) : toB QB (.bl b) H := ⟨b, rfl, k⟩
theorem tst (k : te σ H (toB QB)) : tTest te σ H QB := k
theorem bv (k : te σ H (toB QB)) : tB te σ H QB := k
def andK (tb : TE) (σ : L2.St) (Q : VK) : VK := fun x H1 => ∃ c, x = .bl c ∧ if c = true then tb σ H1 Q else Q (.bl false) H1
theorem andV (k : ta σ H (andK tb σ Q)) : tAndV ta tb σ H Q := k
theorem andK_i {b : Bool} (k : if b = true then tb σ H Q else Q (.bl false) H) : andK tb σ Q (.bl b) H := ⟨b, rfl, k⟩
def orK (tb : TE) (σ : L2.St) (Q : VK) : VK := fun x H1 => ∃ c, x = .bl c ∧ if c = true then Q (.bl true) H1 else tb σ H1 Q
theorem orV (k : ta σ H (orK tb σ Q)) : tOrV ta tb σ H Q := k
theorem orK_i {b : Bool} (k : if b = true then Q (.bl true) H else tb σ H Q) : orK tb σ Q (.bl b) H := ⟨b, rfl, k⟩
def notK (Q : VK) : VK := fun x H1 => ∃ c, x = .bl c ∧ Q (.bl (!c)) H1
theorem notV (k : ta σ H (notK Q)) : tNotV ta σ H Q := k
theorem notK_i {b : Bool} (k : Q (.bl (!b)) H) : notK Q (.bl b) H := ⟨b, rfl, k⟩
theorem and (k : tt σ H fun c H1 => if c = true then tu σ H1 QB else QB false H1) : tAnd tt tu σ H QB := k
theorem or (k : tt σ H fun c H1 => if c = true then QB true H1 else tu σ H1 QB) : tOr tt tu σ H QB := k
theorem not (k : tt σ H fun c H1 => QB (!c) H1) : tNot tt σ H QB := k
theorem tif (k : tt σ H fun c H1 => if c = true then ta σ H1 Q else tb σ H1 Q) : tIf tt ta tb σ H Q := k
theorem yes (k : QB true H) : tYes σ H QB := k
def chainK (r r' : R2) (x : V) (tc : TE) (σ : L2.St) (Q : VK) : VK := fun y H2 => r x y H2 fun z H3 => ∃ k, z = .bl k ∧ (if k = true then tc σ H3 fun w' H4 => r' y w' H4 Q else Q (.bl false) H3)
def chainL (r' : R2) (y : V) (tc : TE) (σ : L2.St) (Q : VK) : VK := fun z H3 => ∃ k, z = .bl k ∧ (if k = true then tc σ H3 fun w' H4 => r' y w' H4 Q else Q (.bl false) H3)
theorem chain {r r' : R2} (k : ta σ H fun x H1 => tb σ H1 fun y H2 => r x y H2 (chainL r' y tc σ Q)) : tChain r r' ta tb tc σ H Q := k
theorem chainL_i {r' : R2} {y : V} {b : Bool} (k : if b = true then tc σ H fun w' H4 => r' y w' H4 Q else Q (.bl false) H) : chainL r' y tc σ Q (.bl b) H := ⟨b, rfl, k⟩
/-! arguments, calls -/
theorem nil (k : QA [] H) : tNil σ H QA := k
theorem cons {tr : TA} (k : ta σ H fun x H1 => tr σ H1 fun xs H2 => QA (x :: xs) H2) : tCons ta tr σ H QA := k
def tupK (Q : VK) : List V → Hp → Prop := fun xs H1 => xs.length ≤ sizeLine ∧ ∀ p, H1 p = none → Q (.ref p) (upd H1 p (.tup xs))
theorem tup (k : t σ H (tupK Q)) : tTup t σ H Q := k
theorem tupK_i {xs : List V} (hz : xs.length ≤ 1000) (k : ∀ p H', H p = none → Same H H' → H' p = some (.tup xs) → Q (.ref p) H') : tupK Q xs H := ⟨Nat.le_trans hz (by decide), fun p hp => k p _ hp (Same.nw hp (Same.refl H)) upd_same⟩
def lstK (Q : VK) : List V → Hp → Prop := fun xs H1 => xs.length ≤ sizeLine ∧ ∀ p, H1 p = none → Q (.ref p) (upd H1 p (.lst xs))
theorem lst (k : t σ H (lstK Q)) : tLst t σ H Q := k
theorem lstK_i {xs : List V} (hz : xs.length ≤ 1000) (k : ∀ p H', H p = none → Same H H' → H' p = some (.lst xs) → Q (.ref p) H') : lstK Q xs H := ⟨Nat.le_trans hz (by decide), fun p hp => k p _ hp (Same.nw hp (Same.refl H)) upd_same⟩
def callK (sp : Sp) (dvs : List V) (Q : VK) (E : XK) : List V → Hp → Prop := fun vs H1 => sp (vs ++ dvs) H1 Q E
theorem call {sp : Sp} {dvs : List V} {E : XK} (k : t σ H (callK sp dvs Q E)) : tCall sp dvs E t σ H Q := k
theorem callK_i {sp : Sp} {vs : List V} {E : XK} (k : sp vs H Q E) : callK sp [] Q E vs H := by
  unfold callK
  rw [List.append_nil]
  exact k
def fldK (K : PySem.W.Frag) (f : Str) (Q : VK) : VK := fun x H1 => ∃ a C dx fs v, x = .ref a ∧ H1 a = some (.ins C dx fs) ∧ Cls K C ∧ NoAttr K C f ∧ fs.lookup f = some v ∧ Q v H1
theorem fld {f : Str} (k : ta σ H (fldK K f Q)) : tFld K ta f σ H Q := k
def methK (m : Str) (sp : Sp) (C : Addr) (dvs : List V) (E : XK) (t : TA) (σ : L2.St) (Q : VK) : VK := fun x H1 => ∃ a dx fs, x = .ref a ∧ H1 a = some (.ins C dx fs) ∧ fs.lookup m = none ∧ t σ H1 fun vs H2 => sp (x :: (vs ++ dvs)) H2 Q E
theorem meth {C : Addr} {m : Str} {sp : Sp} {dvs : List V} {E : XK} (k : ta σ H (methK m sp C dvs E t σ Q)) : tMeth C m sp dvs E ta t σ H Q := k
def propK (sp : Sp) (C : Addr) (dvs : List V) (E : XK) (Q : VK) : VK := fun x H1 => ∃ a dx fs, x = .ref a ∧ H1 a = some (.ins C dx fs) ∧ sp (.ref a :: dvs) H1 Q E
theorem prop {C : Addr} {sp : Sp} {dvs : List V} {E : XK} (k : ta σ H (propK sp C dvs E Q)) : tProp C sp dvs E ta σ H Q := k
def makeK (C : Addr) (sp : Sp) (dvs : List V) (E : XK) (Q : VK) : List V → Hp → Prop := fun vs H1 => ∀ x dx, H1 x = none → H1 dx = none → dx ≠ x →
  sp (.ref x :: (vs ++ dvs)) (upd (upd H1 dx (.own x)) x (.ins C dx [])) (fun v H2 => v = .non ∧ Q (.ref x) H2) E
theorem make {C : Addr} {sp : Sp} {dvs : List V} {E : XK} (k : t σ H (makeK C sp dvs E Q)) : tMake C sp dvs E t σ H Q := k
theorem cmeth {C : Addr} {sp : Sp} {E : XK} (k : ta σ H fun x H1 => x = .ref C ∧ t σ H1 fun vs H2 => sp (.ref C :: vs) H2 Q E) : ClX.tCMeth C sp E ta t σ H Q := k
theorem cb {r : List V → Hp → VK → Prop} (k : t σ H fun vs H1 => r vs H1 Q) : tCB r t σ H Q := k
def bmK (K : PySem.W.Frag) (T : String) (r : V → List V → Hp → VK → Prop) (t : TA) (σ : L2.St) (Q : VK) : VK := fun x H1 => tyV K T x H1 ∧ t σ H1 fun xs H2 => r x xs H2 Q
theorem bm {T : String} {r : V → List V → Hp → VK → Prop} (k : ta σ H (bmK K T r t σ Q)) : tBM K T r ta t σ H Q := k
theorem bmK_l {r : V → List V → Hp → VK → Prop} {p : Addr} {xs : List V} (hq : SqL K H p xs) (k : t σ H fun ys H2 => r (.ref p) ys H2 Q) : bmK K "list" r t σ Q (.ref p) H := ⟨.inl ⟨rfl, _, hq⟩, k⟩
def m0K (r : V → List V → Hp → VK → Prop) (Q : VK) : VK := fun x H1 => (∃ a, x = .str a) ∧ r x [] H1 Q
theorem m0 {r : V → List V → Hp → VK → Prop} (k : ta σ H (m0K r Q)) : tM0 r ta σ H Q := k
theorem m0K_i {r : V → List V → Hp → VK → Prop} {a : Str} (k : r (.str a) [] H Q) : m0K r Q (.str a) H := ⟨⟨a, rfl⟩, k⟩
def m1K (r : V → List V → Hp → VK → Prop) (te : TE) (σ : L2.St) (Q : VK) : VK := fun x H1 => (∃ a, x = .str a) ∧ te σ H1 fun y H2 => r x [y] H2 Q
theorem m1 {r : V → List V → Hp → VK → Prop} (k : ta σ H (m1K r te σ Q)) : tM1 r ta te σ H Q := k
theorem m1K_i {r : V → List V → Hp → VK → Prop} {a : Str} (k : te σ H fun y H2 => r (.str a) [y] H2 Q) : m1K r te σ Q (.str a) H := ⟨⟨a, rfl⟩, k⟩
/-! starred items -/
def starK (K : PySem.W.Frag) (t : TA) (σ : L2.St) (QA : List V → Hp → Prop) : VK := fun x H1 => ∃ p xs, x = V.ref p ∧ (SqT K H1 p xs ∨ SqL K H1 p xs) ∧ t σ H1 fun ys H2 => QA (xs ++ ys) H2
theorem star (k : te σ H (starK K t σ QA)) : StX.tStar K te t σ H QA := k
theorem starK_t {p : Addr} {xs : List V} (hq : SqT K H p xs) (k : t σ H fun ys H2 => QA (xs ++ ys) H2) : starK K t σ QA (.ref p) H := ⟨p, xs, rfl, .inl hq, k⟩
theorem starK_l {p : Addr} {xs : List V} (hq : SqL K H p xs) (k : t σ H fun ys H2 => QA (xs ++ ys) H2) : starK K t σ QA (.ref p) H := ⟨p, xs, rfl, .inr hq, k⟩
/-! items, lengths, slices -/
theorem ixL {p : Addr} {xs : List V} {i : Int} {v : V} (hq : SqL K H p xs) (ha : atI xs i = some v) (k : Q v H) : rIxL K (.ref p) (.int i) H Q := ⟨p, xs, i, v, rfl, rfl, hq, ha, k⟩
theorem ixT {p : Addr} {xs : List V} {i : Int} {v : V} (hq : SqT K H p xs) (ha : atI xs i = some v) (k : Q v H) : rIxT K (.ref p) (.int i) H Q := ⟨p, xs, i, v, rfl, rfl, hq, ha, k⟩
theorem ixL0 {p : Addr} {xs : List V} {v : V} (hq : SqL K H p (v :: xs)) (k : Q v H) : rIxL K (.ref p) (.int 0) H Q := ⟨p, _, 0, v, rfl, rfl, hq, atn (i := 0) rfl, k⟩
theorem ixT0 {p : Addr} {xs : List V} {v : V} (hq : SqT K H p (v :: xs)) (k : Q v H) : rIxT K (.ref p) (.int 0) H Q := ⟨p, _, 0, v, rfl, rfl, hq, atn (i := 0) rfl, k⟩
theorem lenL {p : Addr} {xs : List V} (hq : SqL K H p xs) (k : Q (.int xs.length) H) : Evl.rLenS K [.ref p] H Q := ⟨p, xs, rfl, .inl hq, k⟩
theorem lenT {p : Addr} {xs : List V} (hq : SqT K H p xs) (k : Q (.int xs.length) H) : Evl.rLenS K [.ref p] H Q := ⟨p, xs, rfl, .inr hq, k⟩
theorem mx {i j : Int} (k : Q (.int (max i j)) H) : rMax2 [.int i, .int j] H Q := ⟨i, j, rfl, by
  have e : (if j > i then j else i) = max i j := by
    rw [Int.max_def]
    split <;> split <;> omega
  rw [e]
  exact k⟩
theorem mn {i j : Int} (k : Q (.int (min i j)) H) : rMin2 [.int i, .int j] H Q := ⟨i, j, rfl, by
  have e : (if j < i then j else i) = min i j := by
    rw [Int.min_def]
    split <;> split <;> omega
  rw [e]
  exact k⟩
theorem isN {x : V} (k : Q (.bl (decide (x = .non))) H) : rIsN x .non H Q := ⟨rfl, k⟩
theorem notN {x : V} (k : Q (.bl (!decide (x = .non))) H) : rNotN x .non H Q := ⟨rfl, k⟩
theorem noPart {QO : Option Int → Hp → Prop} (k : QO none H) : tNoPart σ H QO := k
def partK (QO : Option Int → Hp → Prop) : VK := fun x H1 => ∃ i, x = .int i ∧ QO (some i) H1
theorem part {QO : Option Int → Hp → Prop} (k : ta σ H (partK QO)) : tPart ta σ H QO := k
theorem partK_i {QO : Option Int → Hp → Prop} {i : Int} (k : QO (some i) H) : partK QO (.int i) H := ⟨i, rfl, k⟩
theorem slc {r : V → Option Int → Option Int → Hp → VK → Prop} {tl th : TO} (k : ta σ H fun x H1 => tl σ H1 fun l H2 => th σ H2 fun u H3 => r x l u H3 Q) : tSl r ta tl th σ H Q := k
theorem slT {a : Addr} {xs : List V} {lo hi : Option Int} (hq : SqT K H a xs) (k : ∀ p H', Same H H' → SqT K H' p (cutV xs lo hi) → Q (.ref p) H') : rSlA K (.ref a) lo hi H Q := by
  refine ⟨a, xs, rfl, hq, fun ⟨h1, h2⟩ => ?_, fun _ p hp => k p _ (Same.nw hp (Same.refl H)) (SqT.of upd_same)⟩
  have e : cutV xs lo hi = xs := by
    unfold cutV
    rw [h1, h2]
    simp
  exact k a H (Same.refl H) (by rw [e]; exact hq)
theorem catA {a b : Addr} {xs ys : List V} (h1 : SqT K H a xs) (h2 : SqT K H b ys) (n1 : xs ≠ []) (n2 : ys ≠ []) (hz : xs.length + ys.length ≤ 1000) (k : ∀ p H', H p = none → Same H H' → H' p = some (.tup (xs ++ ys)) → Q (.ref p) H') : rCatA K (.ref a) (.ref b) H Q :=
  ⟨a, b, xs, ys, rfl, rfl, h1, h2, Nat.le_trans hz (by decide), fun e => absurd e n1, fun _ e => absurd e n2, fun _ _ p hp => k p _ hp (Same.nw hp (Same.refl H)) upd_same⟩
theorem slTr {a : Addr} {xs : List V} {lo hi : Option Int} (hq : H a = some (.tup xs)) (k : ∀ p H', Same H H' → H' p = some (.tup (cutV xs lo hi)) → Q (.ref p) H') : rSlA K (.ref a) lo hi H Q := by
  refine ⟨a, xs, rfl, SqT.of hq, fun ⟨h1, h2⟩ => ?_, fun _ p hp => k p _ (Same.nw hp (Same.refl H)) upd_same⟩
  have e : cutV xs lo hi = xs := by
    unfold cutV
    rw [h1, h2]
    simp
  exact k a H (Same.refl H) (by rw [e]; exact hq)
theorem catTr {a b : Addr} {xs ys : List V} (h1 : H a = some (.tup xs)) (h2 : H b = some (.tup ys)) (hz : xs.length + ys.length ≤ 1000) (k : ∀ p H', Same H H' → H' p = some (.tup (xs ++ ys)) → Q (.ref p) H') : rCatA K (.ref a) (.ref b) H Q :=
  ⟨a, b, xs, ys, rfl, rfl, SqT.of h1, SqT.of h2, Nat.le_trans hz (by decide), fun e => k b H (Same.refl H) (by rw [e]; exact h2), fun _ e => k a H (Same.refl H) (by rw [e, List.append_nil]; exact h1), fun _ _ p hp => k p _ (Same.nw hp (Same.refl H)) upd_same⟩
theorem slL {a : Addr} {xs : List V} {lo hi : Option Int} (hq : SqL K H a xs) (k : ∀ p H', H p = none → Same H H' → H' p = some (.lst (cutV xs lo hi)) → Q (.ref p) H') : rSlL K (.ref a) lo hi H Q :=
  ⟨a, xs, rfl, hq, fun p hp => k p _ hp (Same.nw hp (Same.refl H)) upd_same⟩
theorem lstL {p : Addr} {xs : List V} (hq : SqL K H p xs) (k : ∀ q H', H q = none → Same H H' → H' q = some (.lst xs) → Q (.ref q) H') : rLst K [.ref p] H Q := ⟨p, xs, rfl, .inl hq, fun q hp => k q _ hp (Same.nw hp (Same.refl H)) upd_same⟩
theorem lstT {p : Addr} {xs : List V} (hq : SqT K H p xs) (k : ∀ q H', H q = none → Same H H' → H' q = some (.lst xs) → Q (.ref q) H') : rLst K [.ref p] H Q := ⟨p, xs, rfl, .inr hq, fun q hp => k q _ hp (Same.nw hp (Same.refl H)) upd_same⟩
theorem tplL {p : Addr} {xs : List V} (hq : SqL K H p xs) (k : ∀ q H', H q = none → Same H H' → H' q = some (.tup xs) → Q (.ref q) H') : rTpl K [.ref p] H Q := ⟨p, xs, rfl, .inl ⟨hq, fun q hp => k q _ hp (Same.nw hp (Same.refl H)) upd_same⟩⟩
theorem addS {i j : Str} (h : i.length + j.length ≤ 100000) (k : Q (.str (i ++ j)) H) : rAddS (.str i) (.str j) H Q := ⟨i, j, rfl, rfl, Nat.le_trans h (by decide), k⟩
theorem lenS {z : Str} (h : z.length ≤ 100000) (k : Q (.int z.length) H) : rLenStr [.str z] H Q := ⟨z, rfl, Nat.le_trans h (by decide), k⟩
theorem join {a : Str} {p : Addr} {ys : List Str} (hq : SqL K H p (ys.map V.str)) (hz : (ys.map (·.length)).sum + ys.length * a.length ≤ 16777216) (k : Q (.str (Txt.join a ys)) H) : rJoin K (.str a) [.ref p] H Q := ⟨a, p, ys, rfl, rfl, .inl hq, hz, k⟩
theorem split {a b : Str} (hb : (b.length == 0) = false) (hz : a.length ≤ 100000) (k : ∀ p H', H p = none → Same H H' → H' p = some (.lst ((Txt.split a b).map V.str)) → Q (.ref p) H') : rSplit (.str a) [.str b] H Q :=
  ⟨a, b, rfl, rfl, hb, Nat.le_trans (m := 100002) (by omega) (by decide), fun p hp => k p _ hp (Same.nw hp (Same.refl H)) upd_same⟩
theorem catL {a b : Addr} {xs ys : List V} (h1 : H a = some (.lst xs)) (h2 : H b = some (.lst ys)) (hz : xs.length + ys.length ≤ 100000) (k : ∀ p H', H p = none → Same H H' → H' p = some (.lst (xs ++ ys)) → Q (.ref p) H') : rCat (.ref a) (.ref b) H Q :=
  ⟨a, b, xs, ys, rfl, rfl, h1, h2, Nat.le_trans hz (by decide), fun p hp => k p _ hp (Same.nw hp (Same.refl H)) upd_same⟩
theorem catK (k : ta σ H fun x H1 => tb σ H1 fun y H2 => rCat x y H2 Q) : tOp rCat ta tb σ H Q := k
theorem sumL {a : Addr} {ns : List Int} (hq : SqL K H a (ns.map V.int)) (k : Q (.int ns.sum) H) : rSum K [.ref a] H Q := ⟨a, ns, rfl, hq, k⟩
theorem sumT {a : Addr} {ns : List Int} (hq : SqT K H a (ns.map V.int)) (k : Q (.int ns.sum) H) : rSumT K [.ref a] H Q := ⟨a, ns, rfl, hq, k⟩
theorem int1_i {i : Int} (k : Q (.int i) H) : rInt1 [.int i] H Q := .inl ⟨i, rfl, k⟩
theorem int1_b {b : Bool} (k : Q (.int (if b = true then 1 else 0)) H) : rInt1 [.bl b] H Q := .inr ⟨b, rfl, k⟩
/-! list(range(..)) -/
def rgK (Q : VK) : Int → Int → Hp → Prop := fun a b H1 => RgOk a b ∧ ∀ q, H1 q = none → Q (.ref q) (upd H1 q (.lst (rgV a b)))
theorem lrg {tr : L2.St → Hp → (Int → Int → Hp → Prop) → Prop} (k : tr σ H (rgK Q)) : tLstRg tr σ H Q := k
def rg1K (R : Int → Int → Hp → Prop) : VK := fun x H1 => ∃ n, x = .int n ∧ R 0 n H1
theorem rg1 {R : Int → Int → Hp → Prop} (k : ta σ H (rg1K R)) : tRg1 ta σ H R := k
theorem rg1K_i {R : Int → Int → Hp → Prop} {n : Int} (k : R 0 n H) : rg1K R (.int n) H := ⟨n, rfl, k⟩
def rg2K (R : Int → Int → Hp → Prop) (x : V) : VK := fun y H2 => ∃ i j, x = .int i ∧ y = .int j ∧ R i j H2
theorem rg2 {R : Int → Int → Hp → Prop} (k : ta σ H fun x H1 => tb σ H1 (rg2K R x)) : tRg2 ta tb σ H R := k
theorem rg2K_i {R : Int → Int → Hp → Prop} {i j : Int} (k : R i j H) : rg2K R (.int i) (.int j) H := ⟨i, j, rfl, rfl, k⟩
/-! targets, statements -/
theorem name {i : Nat} {v : V} {QS : L2.St → Hp → Prop} (k : QS (σ.set i (some v)) H) : gName i v σ H QS := k
theorem gtup {n : Nat} {tg : TGs} {a : Addr} {xs : List V} {QS : L2.St → Hp → Prop} (hq : SqT K H a xs) (hl : xs.length = n) (k : tg xs σ H QS) : gTup K n tg (.ref a) σ H QS := ⟨a, xs, rfl, hq, hl, k⟩
theorem glst {n : Nat} {tg : TGs} {a : Addr} {xs : List V} {QS : L2.St → Hp → Prop} (hq : SqL K H a xs) (hl : xs.length = n) (k : tg xs σ H QS) : gLst K n tg (.ref a) σ H QS := ⟨a, xs, rfl, hq, hl, k⟩
theorem gcons {tg : TG} {tu : TGs} {v : V} {r : List V} {QS : L2.St → Hp → Prop} (k : tg v σ H fun σ' H' => tu r σ' H' QS) : gCons tg tu (v :: r) σ H QS := ⟨v, r, rfl, k⟩
theorem gnil {QS : L2.St → Hp → Prop} (k : QS σ H) : gNil [] σ H QS := ⟨rfl, k⟩
theorem seq (k : ts { D with nx := tr D } σ H) : tSeq ts tr D σ H := k
theorem next (k : D.nx σ H) : tNext D σ H := k
theorem cont (k : D.ct σ H) : tCont D σ H := k
theorem drop (k : te σ H fun _ H1 => D.nx σ H1) : tDrop te D σ H := k
theorem ret (k : te σ H D.rt) : tRet te D σ H := k
theorem retN (k : D.rt .non H) : tRetN D σ H := k
theorem ifS (k : tt σ H fun b H1 => if b = true then ts D σ H1 else tr D σ H1) : tIfS tt ts tr D σ H := k
theorem asg {g : TG} (k : te σ H fun x H1 => g x σ H1 D.nx) : tAsg te g D σ H := k
def parK (i j : Nat) (σ : L2.St) (D : Ends) : List V → Hp → Prop := fun vs H1 => ∃ v w, vs = [v, w] ∧ D.nx ((σ.set i (some v)).set j (some w)) H1
theorem par {i j : Nat} (k : t σ H (parK i j σ D)) : tPar i j t D σ H := k
theorem parK_i {i j : Nat} {v w : V} (k : D.nx ((σ.set i (some v)).set j (some w)) H) : parK i j σ D [v, w] H := ⟨v, w, rfl, k⟩
def par3K (i j l : Nat) (σ : L2.St) (D : Ends) : List V → Hp → Prop := fun vs H1 => ∃ u v w, vs = [u, v, w] ∧ D.nx (((σ.set i (some u)).set j (some v)).set l (some w)) H1
theorem par3 {i j l : Nat} (k : t σ H (par3K i j l σ D)) : tPar3 i j l t D σ H := k
theorem par3K_i {i j l : Nat} {u v w : V} (k : D.nx (((σ.set i (some u)).set j (some v)).set l (some w)) H) : par3K i j l σ D [u, v, w] H := ⟨u, v, w, rfl, k⟩
theorem aug {i : Nat} {x : V} {ti : TIp} (h : σ[i]? = some (some x)) (k : te σ H fun y H1 => ti x y H1 fun z H2 => D.nx (σ.set i (some z)) H2) : tAug i te ti D σ H := ⟨x, h, k⟩
theorem ip {f : Int → Int → Int} {i j : Int} (k : Q (.int (f i j)) H) : ipI f (.int i) (.int j) H Q := ⟨i, j, rfl, rfl, k⟩
theorem ift {A B : Prop} (h : A) : if true = true then A else B := by rw [if_pos rfl]; exact h
theorem iff {A B : Prop} (h : B) : if false = true then A else B := by rw [if_neg Bool.false_ne_true]; exact h
theorem ifnt {A B : Prop} (h : B) : if (!true) = true then A else B := by rw [if_neg (by decide)]; exact h
theorem ifnf {A B : Prop} (h : A) : if (!false) = true then A else B := by rw [if_pos (show (!false) = true from rfl)]; exact h
theorem inS {x : V} {p : Addr} {xs : List V} (hq : SqL K H p xs ∨ SqT K H p xs) (fx : flatV x = true) (fs : xs.all flatV = true) (k : Q (.bl (inV x xs)) H) : rIn K false x (.ref p) H Q := ⟨p, xs, rfl, hq, fx, fs, by rw [if_neg (by decide)]; exact k⟩
theorem niS {x : V} {p : Addr} {xs : List V} (hq : SqL K H p xs ∨ SqT K H p xs) (fx : flatV x = true) (fs : xs.all flatV = true) (k : Q (.bl (!inV x xs)) H) : rIn K true x (.ref p) H Q := ⟨p, xs, rfl, hq, fx, fs, by rw [if_pos rfl]; exact k⟩
theorem bb {b : Bool} {A B : Prop} (h1 : b = true → A) (h2 : b = false → B) : if b = true then A else B := by
  cases b with
  | true => exact ift (h1 rfl)
  | false => exact iff (h2 rfl)
/-! tests whose answer is known, or both -/
section
variable {A B : Prop} {p : Prop} {ip : Decidable p} {a b : Int}
theorem dT (h : p) (k : A) : if decide p = true then A else B := by rw [if_pos (decide_eq_true h)]; exact k
theorem dF (h : ¬ p) (k : B) : if decide p = true then A else B := by rw [if_neg (by rw [decide_eq_false h]; decide)]; exact k
theorem nT (h : p) (k : B) : if (!decide p) = true then A else B := by rw [decide_eq_true h]; exact ifnt k
theorem nF (h : ¬ p) (k : A) : if (!decide p) = true then A else B := by rw [decide_eq_false h]; exact ifnf k
theorem d2 (h1 : p → A) (h2 : ¬ p → B) : if decide p = true then A else B := by
  by_cases h : p
  · exact dT h (h1 h)
  · exact dF h (h2 h)
theorem n2 (h1 : p → B) (h2 : ¬ p → A) : if (!decide p) = true then A else B := by
  by_cases h : p
  · exact nT h (h1 h)
  · exact nF h (h2 h)
theorem int_non {i : Int} : ¬ V.int i = V.non := fun q => by cases q
theorem ref_non {r : Addr} : ¬ V.ref r = V.non := fun q => by cases q
theorem vi (h : a ≠ b) : ¬ V.int a = V.int b := fun q => h (by injection q)
theorem eT (h : a = b) (k : A) : if decide (V.int a = V.int b) = true then A else B := dT (by rw [h]) k
theorem eF (h : a ≠ b) (k : B) : if decide (V.int a = V.int b) = true then A else B := dF (vi h) k
theorem e2 (h1 : a = b → A) (h2 : a ≠ b → B) : if decide (V.int a = V.int b) = true then A else B := by
  by_cases h : a = b
  · exact eT h (h1 h)
  · exact eF h (h2 h)
theorem neT (h : a = b) (k : B) : if (!decide (V.int a = V.int b)) = true then A else B := nT (by rw [h]) k
theorem neF (h : a ≠ b) (k : A) : if (!decide (V.int a = V.int b)) = true then A else B := nF (vi h) k
theorem ne2 (h1 : a = b → B) (h2 : a ≠ b → A) : if (!decide (V.int a = V.int b)) = true then A else B := by
  by_cases h : a = b
  · exact neT h (h1 h)
  · exact neF h (h2 h)
end
/-- a test that is false whichever way it goes -/
theorem ifF {ts tr : TS} {tt : L2.TT} {P : Hp → Prop} (h : ∀ Q : Bool → Hp → Prop, (∀ H', P H' → Q false H') → tt σ H Q) (k : ∀ H', P H' → tr D σ H') : tIfS tt ts tr D σ H := h _ fun H' p => iff (k H' p)
theorem ifT {ts tr : TS} {tt : L2.TT} {P : Hp → Prop} (h : ∀ Q : Bool → Hp → Prop, (∀ H', P H' → Q true H') → tt σ H Q) (k : ∀ H', P H' → ts D σ H') : tIfS tt ts tr D σ H := h _ fun H' p => ift (k H' p)
theorem cut {ts tr : TS} (P : L2.St → Hp → Prop) (h : ts { D with nx := P } σ H) (k : ∀ σ' H', P σ' H' → tr D σ' H') : Evl.tCut ts tr D σ H := ⟨P, h, k⟩
/-- a if c else b, both names: one value that goes on -/
theorem ifVV {c : Bool} {i j : Nat} {v u : V} (hi : σ[i]? = some (some v)) (hj : σ[j]? = some (some u)) (h : ∀ w, (c = true → w = v) → (c = false → w = u) → Q w H) : if c = true then tVar i σ H Q else tVar j σ H Q := by
  cases c with
  | true => exact ift ⟨v, hi, h v (fun _ => rfl) (fun q => by cases q)⟩
  | false => exact iff ⟨u, hj, h u (fun q => by cases q) (fun _ => rfl)⟩
/-- a if c else b: what is known of the value goes on -/
theorem ifM {c : Bool} (P : V → Hp → Prop) (hA : c = true → ∀ K' : VK, (∀ v H', P v H' → K' v H') → ta σ H K') (hB : c = false → ∀ K' : VK, (∀ v H', P v H' → K' v H') → tb σ H K') (k : ∀ v H', P v H' → Q v H') : if c = true then ta σ H Q else tb σ H Q := by
  cases c with
  | true => exact ift (hA rfl _ k)
  | false => exact iff (hB rfl _ k)
/-! appending to what is there -/
theorem app {l : Addr} {xs : List V} {y : V} (h : H l = some (.lst xs)) (hz : xs.length < 100000) (k : Q .non (upd H l (.lst (xs ++ [y])))) : rAppend (.ref l) [y] H Q := ⟨l, xs, y, rfl, rfl, h, Nat.lt_of_lt_of_le hz (by decide), k⟩
/-! equality of data: rd_eq takes it by the data's readings -/
theorem eqD {x y : V} {d e : PyData} (h1 : L2.Dp K H x d) (h2 : L2.Dp K H y e) (s1 : SeqAt.shaped d = true) (s2 : SeqAt.shaped e = true) (k : Q (.bl (PyData.eqv d e)) H) : rEqD K x y H Q := ⟨d, e, h1, h2, s1, s2, k⟩
theorem range_get {α β : Type} (l : List α) (d : α) (g : α → β) : (List.range l.length).map (fun i => g (l.getD i d)) = l.map g := by
  refine List.ext_getElem? fun i => ?_
  rw [List.getElem?_map, List.getElem?_map]
  by_cases h : i < l.length
  · rw [List.getElem?_range h, List.getElem?_eq_getElem h]
    simp [List.getD_eq_getElem?_getD, List.getElem?_eq_getElem h]
  · rw [List.getElem?_eq_none (by simp; omega), List.getElem?_eq_none (by omega)]
    rfl
theorem getD_of {α : Type} {l : List α} {i : Nat} {x d : α} (h : l[i]? = some x) : l.getD i d = x := by
  rw [List.getD_eq_getElem?_getD, h]
  rfl
/-! what is walked -/
def rngK (R : It → Hp → Prop) : List V → Hp → Prop := fun vs H1 => ∃ j : Int, vs = [.int j] ∧ -(2 ^ 62) ≤ j ∧ j < 2 ^ 62 ∧ R (Itr 0 j.toNat) H1
theorem rng {R : It → Hp → Prop} (k : t σ H (rngK R)) : iRng1 t σ H R := k
theorem rngK_n {R : It → Hp → Prop} {n : Nat} (h : n ≤ 1000000000) (k : R (Itr 0 n) H) : rngK R [.int (n : Int)] H := ⟨n, rfl, by omega, by omega, by rw [Int.toNat_natCast]; exact k⟩
theorem rngK_z {R : It → Hp → Prop} {z : Int} (h : z.toNat ≤ 1000000000) (h0 : -1000000000 ≤ z) (k : R (Itr 0 z.toNat) H) : rngK R [.int z] H := ⟨z, rfl, by omega, by omega, k⟩
theorem rngK_lit {R : It → Hp → Prop} {n : Nat} (h : n ≤ 1000000000) (k : R (Itr 0 (OfNat.ofNat n : Nat)) H) : rngK R [.int (OfNat.ofNat n : Int)] H := rngK_n h k
def rng2K (R : It → Hp → Prop) : List V → Hp → Prop := fun vs H1 => ∃ i j : Int, vs = [.int i, .int j] ∧ (-(2 ^ 62) ≤ i ∧ i < 2 ^ 62 ∧ -(2 ^ 62) ≤ j ∧ j < 2 ^ 62) ∧ R (Itr i (j - i).toNat) H1
theorem rng2 {R : It → Hp → Prop} (k : t σ H (rng2K R)) : iRng2 t σ H R := k
theorem rng2K_i {R : It → Hp → Prop} {i j : Int} (hb : -(2 ^ 62) ≤ i ∧ i < 2 ^ 62 ∧ -(2 ^ 62) ≤ j ∧ j < 2 ^ 62) (k : R (Itr i (j - i).toNat) H) : rng2K R [.int i, .int j] H := ⟨i, j, rfl, hb, k⟩
def zipK (K : PySem.W.Frag) (R : It → Hp → Prop) : List V → Hp → Prop := fun vs H1 => ∃ a b xs ys, vs = [.ref a, .ref b] ∧ ((SqL K H1 a xs ∧ SqL K H1 b ys ∧ R (L2.Itz K a b) H1) ∨ (SqT K H1 a xs ∧ SqT K H1 b ys ∧ R (RZ.ItzT K a b) H1))
theorem zip {R : It → Hp → Prop} (k : t σ H (zipK K R)) : RZ.iZipA K t σ H R := k
theorem zipK_t {R : It → Hp → Prop} {a b : Addr} {xs ys : List V} (ha : SqT K H a xs) (hb : SqT K H b ys) (k : R (RZ.ItzT K a b) H) : zipK K R [.ref a, .ref b] H := ⟨a, b, xs, ys, rfl, .inr ⟨ha, hb, k⟩⟩
def listK (K : PySem.W.Frag) (R : It → Hp → Prop) : VK := fun x H1 => ∃ a, x = .ref a ∧ (∃ xs, SqL K H1 a xs) ∧ R (Itl K a) H1
theorem ilist {R : It → Hp → Prop} (k : ta σ H (listK K R)) : iList K ta σ H R := k
theorem listK_i {R : It → Hp → Prop} {a : Addr} {xs : List V} (hq : SqL K H a xs) (k : R (Itl K a) H) : listK K R (.ref a) H := ⟨a, rfl, ⟨xs, hq⟩, k⟩
def ituK (K : PySem.W.Frag) (R : It → Hp → Prop) : VK := fun x H1 => ∃ a, x = .ref a ∧ (∃ xs, SqT K H1 a xs) ∧ R (Itt K a) H1
theorem itup {R : It → Hp → Prop} (k : ta σ H (ituK K R)) : iTup K ta σ H R := k
theorem ituK_i {R : It → Hp → Prop} {a : Addr} {xs : List V} (hq : SqT K H a xs) (k : R (Itt K a) H) : ituK K R (.ref a) H := ⟨a, rfl, ⟨xs, hq⟩, k⟩
def forK (g : TG) (tb : TS) (D : Ends) (σ : L2.St) (J : It) (H1 : Hp) : Prop := ∃ W : Nat → Nat → L2.St → Hp → Prop, (∃ m, W 0 m σ H1) ∧ ∀ i m σ H, W i m σ H →
  (J.stop i H ∧ D.nx σ H) ∨ (J.go i H ∧ ∃ N : L2.St → Hp → Prop, (∀ σ' H', N σ' H' → ∃ m', m' < m ∧ W (i + 1) m' σ' H') ∧ ∀ x H', J.yld i H x H' → g x σ H' fun σ2 H2 => tb { D with nx := N, ct := N, bk := D.nx } σ2 H2)
theorem tfor {wi : TI} {g : TG} (k : wi σ H (forK g ts D σ)) : tFor wi g ts D σ H := k
def lcK (g : TG) (tt : L2.TT) (te : TE) (vs : List Nat) (σ : L2.St) (Q : VK) (J : It) (H1 : Hp) : Prop := ∀ D, H1 D = none → ∃ W : Nat → Nat → Hp → Prop, (∃ m, W 0 m (upd H1 D (.lst []))) ∧ ∀ i m H, W i m H →
  (J.stop i H ∧ Q (.ref D) H) ∨ (J.go i H ∧ ∃ Nx : Hp → Prop, (∀ H', Nx H' → ∃ m', m' < m ∧ W (i + 1) m' H') ∧ ∀ x H', J.yld i H x H' → g x (wipe σ vs) H' fun σ2 H2 => wipe σ2 vs = wipe σ vs ∧ tt σ2 H2 fun b H3 =>
    if b = true then te σ2 H3 fun y H4 => ∃ acc, H4 D = some (.lst acc) ∧ acc.length < sizeLine ∧ Nx (upd H4 D (.lst (acc ++ [y]))) else Nx H3)
theorem tlc {wi : TI} {g : TG} {vs : List Nat} (k : wi σ H (lcK g tt te vs σ Q)) : tLc wi g tt te vs σ H Q := k
/-- for i in range(n): the items are 0, 1, .. -/
theorem for_rng {n : Nat} {g : TG} (Pv : Nat → L2.St → Hp → Prop) (h0 : Pv 0 σ H) (hs : ∀ (i : Nat) σ H, i < n → Pv i σ H → g (.int (i : Int)) σ H fun σ2 H2 => ts { D with nx := Pv (i + 1), ct := Pv (i + 1), bk := D.nx } σ2 H2) (hd : ∀ σ H, Pv n σ H → D.nx σ H) :
    forK g ts D σ (Itr 0 n) H :=
  for_range (lo := 0) (n := n) Pv h0 (fun i σ H hi p => by have z := hs i σ H hi p; rw [Int.zero_add]; exact z) hd
/-- from lo -/
theorem for_rng2 {lo : Int} {n : Nat} {g : TG} (Pv : Nat → L2.St → Hp → Prop) (h0 : Pv 0 σ H) (hs : ∀ (i : Nat) σ H, i < n → Pv i σ H → g (.int (lo + i)) σ H fun σ2 H2 => ts { D with nx := Pv (i + 1), ct := Pv (i + 1), bk := D.nx } σ2 H2) (hd : ∀ σ H, Pv n σ H → D.nx σ H) :
    forK g ts D σ (Itr lo n) H := for_range (lo := lo) (n := n) Pv h0 hs hd
theorem for_lst {a : Addr} {xs : List V} {g : TG} (Pv : Nat → L2.St → Hp → Prop) (h0 : Pv 0 σ H) (hl : ∀ i σ H, i ≤ xs.length → Pv i σ H → SqL K H a xs)
    (hs : ∀ i x σ H, xs[i]? = some x → Pv i σ H → g x σ H fun σ2 H2 => ts { D with nx := Pv (i + 1), ct := Pv (i + 1), bk := D.nx } σ2 H2) (hd : ∀ σ H, Pv xs.length σ H → D.nx σ H) : forK g ts D σ (Itl K a) H := for_list Pv h0 hl hs hd
theorem for_tpl {a : Addr} {xs : List V} {g : TG} (Pv : Nat → L2.St → Hp → Prop) (h0 : Pv 0 σ H) (hl : ∀ i σ H, i ≤ xs.length → Pv i σ H → SqT K H a xs)
    (hs : ∀ i x σ H, xs[i]? = some x → Pv i σ H → g x σ H fun σ2 H2 => ts { D with nx := Pv (i + 1), ct := Pv (i + 1), bk := D.nx } σ2 H2) (hd : ∀ σ H, Pv xs.length σ H → D.nx σ H) : forK g ts D σ (Itt K a) H := for_tup Pv h0 hl hs hd
/-- an item's turn: what the item is worth, nothing that was there changed -/
def Turn1 (g : TG) (te : TE) (σ : L2.St) (vs : List Nat) (x : V) (y : V) (H0 : Hp) : Prop :=
  ∀ H' (QS : L2.St → Hp → Prop), Same H0 H' → (∀ σ2, wipe σ2 vs = wipe σ vs → (∀ Q' : VK, (∀ H'', Same H' H'' → Q' y H'') → te σ2 H' Q') → QS σ2 H') → g x (wipe σ vs) H' QS
theorem turn1 {i : Nat} {x y : V} {H0 : Hp} {vs : List Nat} (hw : wipe ((wipe σ vs).set i (some x)) vs = wipe σ vs) (h : ∀ H', Same H0 H' → ∀ Q' : VK, (∀ H'', Same H' H'' → Q' y H'') → te ((wipe σ vs).set i (some x)) H' Q') : Turn1 (gName i) te σ vs x y H0 :=
  fun H' QS S k => k _ hw fun Q' q => h H' S Q' q
theorem turn_tup2 {K : PySem.W.Frag} {i j : Nat} {r : Addr} {a b y : V} {H0 : Hp} {vs : List Nat} (hw : wipe (((wipe σ vs).set i (some a)).set j (some b)) vs = wipe σ vs) (hx : SqT K H0 r [a, b]) (h : ∀ H', Same H0 H' → ∀ Q' : VK, (∀ H'', Same H' H'' → Q' y H'') → te (((wipe σ vs).set i (some a)).set j (some b)) H' Q') :
    Turn1 (gTup K 2 (gCons (gName i) (gCons (gName j) gNil))) te σ vs (.ref r) y H0 :=
  fun H' QS S k => ⟨r, _, rfl, sqt_sm S hx, rfl, _, _, rfl, _, _, rfl, rfl, k _ hw fun Q' q => h H' S Q' q⟩
/-- [e for i in range(n)], e worth f i -/
theorem lc_rng {n : Nat} {g : TG} {vs : List Nat} (f : Nat → V) (hn : n ≤ 100000) (hs : ∀ i : Nat, i < n → Turn1 g te σ vs (.int (i : Int)) (f i) H) (k : ∀ D H', H D = none → Same H H' → H' D = some (.lst ((List.range n).map f)) → Q (.ref D) H') :
    lcK g tYes te vs σ Q (Itr 0 n) H := fun D hD => by
  refine lc_range (lo := 0) (n := n) (fun i H2 => Same H H2 ∧ H2 D = some (.lst ((List.range i).map f))) ⟨Same.nw hD (Same.refl H), upd_same⟩ ?_ fun H2 ⟨S2, h2⟩ => k D H2 hD S2 h2
  rintro i H2 hi ⟨S2, h2⟩
  rw [Int.zero_add]
  refine hs i hi H2 _ S2 fun σ2 hw q => ⟨hw, yes (ift (q _ fun H4 S4 => ⟨_, S4 _ _ h2, Nat.lt_of_le_of_lt (m := 100000) (by simp; omega) (by decide), fun b o e => ?_, ?_⟩))⟩
  · rw [upd_ne (ne_of_none e hD)]
    exact S4 _ _ (S2 _ _ e)
  · rw [upd_same, List.range_succ, List.map_append]
    rfl
theorem lc_rngL {n : Nat} {lo : Int} {g : TG} {vs : List Nat} (f : Nat → V) (hn : n ≤ 100000) (hs : ∀ i : Nat, i < n → Turn1 g te σ vs (.int (lo + i)) (f i) H) (k : ∀ D H', H D = none → Same H H' → H' D = some (.lst ((List.range n).map f)) → Q (.ref D) H') :
    lcK g tYes te vs σ Q (Itr lo n) H := fun D hD => by
  refine lc_range (lo := lo) (n := n) (fun i H2 => Same H H2 ∧ H2 D = some (.lst ((List.range i).map f))) ⟨Same.nw hD (Same.refl H), upd_same⟩ ?_ fun H2 ⟨S2, h2⟩ => k D H2 hD S2 h2
  rintro i H2 hi ⟨S2, h2⟩
  refine hs i hi H2 _ S2 fun σ2 hw q => ⟨hw, yes (ift (q _ fun H4 S4 => ⟨_, S4 _ _ h2, Nat.lt_of_le_of_lt (m := 100000) (by simp; omega) (by decide), fun b o e => ?_, ?_⟩))⟩
  · rw [upd_ne (ne_of_none e hD)]
    exact S4 _ _ (S2 _ _ e)
  · rw [upd_same, List.range_succ, List.map_append]
    rfl
/-- a comprehension whose items are new objects: R tells what the i-th item is -/
theorem lc_rngR {n : Nat} {lo : Int} {idx : Nat} {vs : List Nat} (R : Nat → V → Hp → Prop) (hn : n ≤ 100000) (hw : ∀ v : V, wipe ((wipe σ vs).set idx (some v)) vs = wipe σ vs)
    (hs : ∀ i : Nat, i < n → ∀ H' D, H D = none → Same H H' → H' D ≠ none → ∀ Q' : VK, (∀ y H'', Same H' H'' → (∀ Hx, But D H'' Hx → R i y Hx) → Q' y H'') → te ((wipe σ vs).set idx (some (.int (lo + i)))) H' Q')
    (k : ∀ D ys H', H D = none → Same H H' → H' D = some (.lst ys) → ys.length = n → (∀ (i : Nat) y, ys[i]? = some y → R i y H') → Q (.ref D) H') : lcK (gName idx) tYes te vs σ Q (Itr lo n) H := fun D hD => by
  refine lc_range (lo := lo) (n := n) (fun i H2 => ∃ ys : List V, Same H H2 ∧ H2 D = some (.lst ys) ∧ ys.length = i ∧ ∀ (j : Nat) y, ys[j]? = some y → ∀ Hx, But D H2 Hx → R j y Hx) ⟨[], Same.nw hD (Same.refl H), upd_same, rfl, fun j y h => by cases h⟩ ?_ fun H2 ⟨ys, S2, h2, hl, hR⟩ => k D ys H2 hD S2 h2 hl fun j y h => hR j y h H2 fun _ _ _ e => e
  rintro i H2 hi ⟨ys, S2, h2, hl, hR⟩
  refine ⟨hw _, yes (ift (hs i hi H2 D hD S2 (by rw [h2]; simp) _ fun y H4 S4 hy => ⟨_, S4 _ _ h2, Nat.lt_of_le_of_lt (m := 100000) (by omega) (by decide), ys ++ [y], fun b o e => ?_, upd_same, by simp [hl], fun j z hz Hx hb => ?_⟩))⟩
  · rw [upd_ne (ne_of_none e hD)]
    exact S4 _ _ (S2 _ _ e)
  · have b4 : But D H4 Hx := fun b o ne e => hb b o ne (by rw [upd_ne ne]; exact e)
    rcases Nat.lt_or_ge j ys.length with lt1 | ge1
    · rw [List.getElem?_append_left lt1] at hz
      exact hR j z hz Hx fun b o ne e => b4 b o ne (S4 _ _ e)
    · rw [List.getElem?_append_right ge1] at hz
      have ej : j - ys.length = 0 := by
        have := (List.getElem?_eq_some_iff.mp hz).1
        simp at this
        omega
      rw [ej] at hz
      obtain rfl : y = z := Option.some.inj hz
      obtain rfl : j = i := by omega
      exact hy Hx b4
/-- over a range by steps -/
theorem for_itc {lo c : Int} {n : Nat} {g : TG} (Pv : Nat → L2.St → Hp → Prop) (h0 : Pv 0 σ H) (hs : ∀ (i : Nat) σ H, i < n → Pv i σ H → g (.int (lo + (i : Nat) * c)) σ H fun σ2 H2 => ts { D with nx := Pv (i + 1), ct := Pv (i + 1), bk := D.nx } σ2 H2) (hd : ∀ σ H, Pv n σ H → D.nx σ H) :
    forK g ts D σ (Itc lo c n) H := for_rangeC Pv h0 hs hd
def rng3K (R : It → Hp → Prop) : List V → Hp → Prop := fun vs H1 => ∃ (i j c : Int) (n : Nat), vs = [.int i, .int j, .int c] ∧ RgC i j c n ∧ R (Itc i c n) H1
theorem rng3 {R : It → Hp → Prop} (k : t σ H (rng3K R)) : iRng3 t σ H R := k
theorem rng3K_i {R : It → Hp → Prop} {i j c : Int} {n : Nat} (h : RgC i j c n) (k : R (Itc i c n) H) : rng3K R [.int i, .int j, .int c] H := ⟨i, j, c, n, rfl, h, k⟩
/-- [e for x in a list], e worth f of the place -/
theorem lc_lst {a : Addr} {xs : List V} {g : TG} {vs : List Nat} (f : Nat → V) (ha : SqL K H a xs) (hn : xs.length ≤ 100000) (hs : ∀ i x, xs[i]? = some x → Turn1 g te σ vs x (f i) H) (k : ∀ D H', H D = none → Same H H' → H' D = some (.lst ((List.range xs.length).map f)) → Q (.ref D) H') :
    lcK g tYes te vs σ Q (Itl K a) H := fun D hD => by
  refine lc_list (K := K) (a := a) (xs := xs) (fun i H2 => Same H H2 ∧ H2 D = some (.lst ((List.range i).map f))) ⟨Same.nw hD (Same.refl H), upd_same⟩ (fun i H2 _ ⟨S2, _⟩ => S2.seq ha) ?_ fun H2 ⟨S2, h2⟩ => k D H2 hD S2 h2
  rintro i x H2 hx ⟨S2, h2⟩
  have hi : i < xs.length := (List.getElem?_eq_some_iff.mp hx).1
  refine hs i x hx H2 _ S2 fun σ2 hw q => ⟨hw, yes (ift (q _ fun H4 S4 => ⟨_, S4 _ _ h2, Nat.lt_of_le_of_lt (m := 100000) (by simp; omega) (by decide), fun b o e => ?_, ?_⟩))⟩
  · rw [upd_ne (ne_of_none e hD)]
    exact S4 _ _ (S2 _ _ e)
  · rw [upd_same, List.range_succ, List.map_append]
    rfl
theorem lc_tpl {a : Addr} {xs : List V} {g : TG} {vs : List Nat} (f : Nat → V) (ha : SqT K H a xs) (hn : xs.length ≤ 100000) (hs : ∀ i x, xs[i]? = some x → Turn1 g te σ vs x (f i) H) (k : ∀ D H', H D = none → Same H H' → H' D = some (.lst ((List.range xs.length).map f)) → Q (.ref D) H') :
    lcK g tYes te vs σ Q (Itt K a) H := fun D hD => by
  refine lc_tup (K := K) (a := a) (xs := xs) (fun i H2 => Same H H2 ∧ H2 D = some (.lst ((List.range i).map f))) ⟨Same.nw hD (Same.refl H), upd_same⟩ (fun i H2 _ ⟨S2, _⟩ => sqt_sm S2 ha) ?_ fun H2 ⟨S2, h2⟩ => k D H2 hD S2 h2
  rintro i x H2 hx ⟨S2, h2⟩
  have hi : i < xs.length := (List.getElem?_eq_some_iff.mp hx).1
  refine hs i x hx H2 _ S2 fun σ2 hw q => ⟨hw, yes (ift (q _ fun H4 S4 => ⟨_, S4 _ _ h2, Nat.lt_of_le_of_lt (m := 100000) (by simp; omega) (by decide), fun b o e => ?_, ?_⟩))⟩
  · rw [upd_ne (ne_of_none e hD)]
    exact S4 _ _ (S2 _ _ e)
  · rw [upd_same, List.range_succ, List.map_append]
    rfl
/-- with an if: the test's answer, the item's worth -/
def Turn2 (g : TG) (tt : L2.TT) (te : TE) (σ : L2.St) (vs : List Nat) (x : V) (b : Bool) (y : V) (H0 : Hp) : Prop :=
  ∀ H' (QS : L2.St → Hp → Prop), Same H0 H' → (∀ σ2, wipe σ2 vs = wipe σ vs → (∀ Q' : Bool → Hp → Prop, (∀ H'', Same H' H'' → Q' b H'') → tt σ2 H' Q') → (∀ H1, Same H' H1 → b = true → ∀ Q' : VK, (∀ H'', Same H1 H'' → Q' y H'') → te σ2 H1 Q') → QS σ2 H') → g x (wipe σ vs) H' QS
theorem turn2 {i : Nat} {x y : V} {b : Bool} {H0 : Hp} {vs : List Nat} (hw : wipe ((wipe σ vs).set i (some x)) vs = wipe σ vs) (h1 : ∀ H', Same H0 H' → ∀ Q' : Bool → Hp → Prop, (∀ H'', Same H' H'' → Q' b H'') → tt ((wipe σ vs).set i (some x)) H' Q')
    (h2 : ∀ H', Same H0 H' → b = true → ∀ Q' : VK, (∀ H'', Same H' H'' → Q' y H'') → te ((wipe σ vs).set i (some x)) H' Q') : Turn2 (gName i) tt te σ vs x b y H0 :=
  fun H' QS S k => k _ hw (fun Q' q => h1 H' S Q' q) fun H1 S1 hb Q' q => h2 H1 (S.trans S1) hb Q' q
theorem lc_rng_if {n : Nat} {lo : Int} {g : TG} {vs : List Nat} (c : Nat → Bool) (f : Nat → V) (hn : n ≤ 100000) (hs : ∀ i : Nat, i < n → Turn2 g tt te σ vs (.int (lo + i)) (c i) (f i) H) (k : ∀ D H', H D = none → Same H H' → H' D = some (.lst (((List.range n).filter c).map f)) → Q (.ref D) H') :
    lcK g tt te vs σ Q (Itr lo n) H := fun D hD => by
  refine lc_range (lo := lo) (n := n) (fun i H2 => Same H H2 ∧ H2 D = some (.lst (((List.range i).filter c).map f))) ⟨Same.nw hD (Same.refl H), upd_same⟩ ?_ fun H2 ⟨S2, h2⟩ => k D H2 hD S2 h2
  rintro i H2 hi ⟨S2, h2⟩
  have e1 : (List.range (i + 1)).filter c = (List.range i).filter c ++ if c i = true then [i] else [] := by
    rw [List.range_succ, List.filter_append]
    congr 1
    by_cases h : c i = true <;> simp [h]
  have hl : ((List.range i).filter c).length ≤ i := by
    have := List.length_filter_le c (List.range i)
    rw [List.length_range] at this
    exact this
  refine hs i hi H2 _ S2 fun σ2 hw q1 q2 => ⟨hw, q1 _ fun H3 S3 => ?_⟩
  have h3 := S3 _ _ h2
  refine bb (fun hc => q2 H3 S3 hc _ fun H4 S4 => ⟨_, S4 _ _ h3, Nat.lt_of_le_of_lt (m := 100000) (by rw [List.length_map]; omega) (by decide), fun b o e => ?_, ?_⟩) fun hc => ⟨S2.trans S3, ?_⟩
  · rw [upd_ne (ne_of_none e hD)]
    exact S4 _ _ (S3 _ _ (S2 _ _ e))
  · rw [upd_same, e1, if_pos hc, List.map_append]
    rfl
  · rw [e1, if_neg (by rw [hc]; decide), List.append_nil]
    exact h3
theorem lc_rng0_if {n : Nat} {g : TG} {vs : List Nat} (c : Nat → Bool) (f : Nat → V) (hn : n ≤ 100000) (hs : ∀ i : Nat, i < n → Turn2 g tt te σ vs (.int (i : Int)) (c i) (f i) H) (k : ∀ D H', H D = none → Same H H' → H' D = some (.lst (((List.range n).filter c).map f)) → Q (.ref D) H') :
    lcK g tt te vs σ Q (Itr 0 n) H := lc_rng_if (lo := 0) c f hn (fun i hi => by have z := hs i hi; rw [Int.zero_add]; exact z) k
theorem lc_lst_if {a : Addr} {xs : List V} {g : TG} {vs : List Nat} (c : Nat → Bool) (f : Nat → V) (ha : SqL K H a xs) (hn : xs.length ≤ 100000) (hs : ∀ i x, xs[i]? = some x → Turn2 g tt te σ vs x (c i) (f i) H) (k : ∀ D H', H D = none → Same H H' → H' D = some (.lst (((List.range xs.length).filter c).map f)) → Q (.ref D) H') :
    lcK g tt te vs σ Q (Itl K a) H := fun D hD => by
  refine lc_list (K := K) (a := a) (xs := xs) (fun i H2 => Same H H2 ∧ H2 D = some (.lst (((List.range i).filter c).map f))) ⟨Same.nw hD (Same.refl H), upd_same⟩ (fun i H2 _ ⟨S2, _⟩ => S2.seq ha) ?_ fun H2 ⟨S2, h2⟩ => k D H2 hD S2 h2
  rintro i x H2 hx ⟨S2, h2⟩
  have hi : i < xs.length := (List.getElem?_eq_some_iff.mp hx).1
  have e1 : (List.range (i + 1)).filter c = (List.range i).filter c ++ if c i = true then [i] else [] := by
    rw [List.range_succ, List.filter_append]
    congr 1
    by_cases h : c i = true <;> simp [h]
  have hl : ((List.range i).filter c).length ≤ i := by
    have := List.length_filter_le c (List.range i)
    rw [List.length_range] at this
    exact this
  refine hs i x hx H2 _ S2 fun σ2 hw q1 q2 => ⟨hw, q1 _ fun H3 S3 => ?_⟩
  have h3 := S3 _ _ h2
  refine bb (fun hc => q2 H3 S3 hc _ fun H4 S4 => ⟨_, S4 _ _ h3, Nat.lt_of_le_of_lt (m := 100000) (by rw [List.length_map]; omega) (by decide), fun b o e => ?_, ?_⟩) fun hc => ⟨S2.trans S3, ?_⟩
  · rw [upd_ne (ne_of_none e hD)]
    exact S4 _ _ (S3 _ _ (S2 _ _ e))
  · rw [upd_same, e1, if_pos hc, List.map_append]
    rfl
  · rw [e1, if_neg (by rw [hc]; decide), List.append_nil]
    exact h3
end Rd
end Tk

/-! ### Exceptions whose __init__ begins with super().__init__(..) -/
namespace Tk
open PySem PySem.Spec PyProof.Rows L2
namespace Ex
section
variable {X : Cx} {pins : List (Addr × Obj)} {σ : L2.St} {H : Hp} {s : Shared}
theorem pin_new {h' : Heap} {tk : Nat} (I : Inv X pins σ H s) (k : ∀ b o, s.heap.get? b = some o → h'.get? b = some o) {u : Addr} {ou : Obj} (hu : h'.get? u = some ou) (ge : s.heap.objs.size ≤ u) (hc : ∀ v, ou.data ≠ .cell v) :
    Inv X ((u, ou) :: pins) σ H { s with heap := h', toks := tk } := by
  have J : Inv X pins σ H { s with heap := h', toks := tk } := I.kept k
  refine J.pins_of fun p hp => ?_
  rcases List.mem_cons.mp hp with rfl | hp
  · refine ⟨hu, I.hok.fresh ge, fun z => ?_, fun z => ?_, hc⟩
    · obtain ⟨m, hn, _⟩ := I.loc
      obtain ⟨oL, _, _, hL, _⟩ := hn
      have lt : X.env.locals < s.heap.objs.size := Heap.lt_size hL
      have z : u = X.env.locals := z
      exact absurd lt (Nat.not_lt.mpr (by rw [← z]; exact ge))
    · have z : u ∈ X.fs := z
      obtain ⟨_, o, ho, _⟩ := I.ok.funs.mem z
      obtain ⟨sl, e⟩ := I.base.slot u o ho (I.ok.frf u z) z (fun hx => I.ok.exfs u hx z)
      have lt : u < s.heap.objs.size := Heap.lt_size e
      exact absurd lt (Nat.not_lt.mpr ge)
  · exact J.pin p (List.mem_append_right _ hp)
theorem nm_blt {E : Value → Shared → Prop} {x : Str} {u : Value} {Q : Value → Shared → Prop} (I : Inv X pins σ H s) (hx : X.env.kindOf x = some .globalImplicit) (hm : X.mg x = none) (hv : bootBuiltins x = some u) (h : Q u s) (hn : x ≠ "__name__" := by decide) :
    wpAny (model X.prog X.w) X.A (loadName X.env x) Q E s := by
  obtain ⟨mb, h1, h2⟩ := I.mod.blt
  unfold loadName
  simp only [Env.blockKind, I.ok.kind, hx, ScopeKind.isAnnotationScope, Bool.false_and, Bool.false_eq_true, if_false]
  exact Calls.loadGlobal_builtin (by rw [I.ok.glob]; exact I.mod.glob.keeps I.bk) hm (by rw [I.ok.blt]; exact h1.keeps I.bk) ((h2 x hn).trans hv) h
end
section
variable {prog : Program} {w : World} {A : Around} {E : Value → Shared → Prop} {h : Heap} {g : Array GenState} {d : Drawn} {t : Nat} {os : OsState}
variable {nm q : Str} {C N : Addr} {bs bm : List Value} {hdct : Bool} {sn : List Str} {sub : List Value} {ab : Bool} {col : Option Bool} {dd : Option Addr} {k0 k1 k2 k3 k5 : Option Value}
theorem call_mw {u e t0 : Addr} {rest : List Value} {Q : Value → Shared → Prop}
    (hC : h.get? C = some (excClassObj nm q C N bs bm hdct sn sub ab col dd k0 k1 k2 k3 k5 "ValueError.__new__")) (he : h.get? e = some (HandSPX.excO C t0)) (hu : h.get? u = some (PySem.W.kxs_mw "ValueError.__init__" e)) (hrest : rest.length ≤ sizeLine)
    (hq : ∀ h' t1, (∀ b o, b ≠ e → h.get? b = some o → h'.get? b = some o) → h'.get? e = some (HandSPX.excO C t1) → Q .none ⟨h', g, d, t, os⟩) :
    wpAny (model prog w) A (call (.ref u) rest) Q E ⟨h, g, d, t, os⟩ := by
  refine wpAny_call (codeAny_of_tree ?_)
  show wpAny _ A.in1 (callAny (.ref u) ⟨rest, []⟩) _ _ _
  simp only [callAny]
  refine wpAny_bind (wpAny_load hu ?_)
  simp only [PySem.W.kxs_mw, show (Value.type "method-wrapper" == Value.type "method" || Value.type "method-wrapper" == Value.type "builtin_function_or_method" || Value.type "method-wrapper" == Value.type "method-wrapper") = true by decide, if_true]
  refine PySem.W.KFB.if_so (by decide) ?_
  refine wpAny_bind (ESX.check_bound F.excBase_ValueError hC he rfl ?_)
  refine wpAny_bind (wpAny_pure (wpAny_pure ?_))
  refine ⟨Code.quiet_builtin _ (by decide +kernel), codeAny_builtin F.excBase_ValueError.initEntry ?_⟩
  rw [Around.under_plainId F.excBase_ValueError.init.plain _]
  wp_walk
  refine hq _ h.objs.size (fun b o hb ho => ?_) ?_
  · rw [Heap.get?_update_other _ _ (Ne.symm hb)]
    exact Heap.get?_push_of_some _ ho
  · rw [Heap.get?_update_self _ (Heap.get?_push_of_some _ he) rfl]
    rfl
end
section
variable {X : Cx} {pins : List (Addr × Obj)} {σ : L2.St} {H : Hp} {s : Shared}
/-- super().__init__(e), the first statement -/
theorem sup_stmt {body : List Stmt} {e : Expr} {te : TE} {C f c x : Addr} {of oc : Obj} {fd : FuncData} {ar : PySem.Arg} {vs : Array Value} {file : Str} {tf : Tok} {j : Nat} {p0 p1 p2 p3 p4 : Pos} {D : Hp → Prop} (I : Inv X pins σ H s) (T : SupC X.K C)
    (hks : X.env.kindOf "super" = some .globalImplicit) (hkc : X.env.kindOf "__class__" = some .free) (hself : X.env.kindOf "self" = some .local) (hfu : X.env.func = some f) (hf : X.K.lookup f = some of) (hfd : of.data = .func fd)
    (hp : (fd.params.posonlyargs ++ fd.params.args).head? = some ar) (har : ar.arg = "self") (hco : X.env.code = .ref c) (hcc : X.K.lookup c = some oc) (hoc : oc.data = .fields vs) (hvs : vs[2]? = some (.str file tf))
    (hfile : ((X.prog.main.file : Str) == file) = true) (htop : (X.prog.main.scope.names.lookup ("super" : Str)).isSome = false) (hmg : X.mg "super" = none)
    (hN0 : X.N[0]? = some ("self" : Str)) (hσ : σ[0]? = some (some (.ref x))) (hNc : X.N[j]? = some ("__class__" : Str)) (hσc : σ[j]? = some (some (.ref C))) (hx : H x = some (exo x C none))
    (he : PE X e te) (q : te σ H fun v H1 => ([v] : List V).length ≤ 1000 ∧ H1 x = some (exo x C none) ∧ D H1)
    {pl : Sem Bool} (hmc : eval (.Call (.Attribute (.Call (.Name "super" p0) [] [] p1) "__init__" p2) [e] [] p3) X.env = (do
      let ov ← attributeBase (.Call (.Name "super" p0) [] [] p1) "__init__" X.env (eval (.Call (.Name "super" p0) [] [] p1) X.env)
      standAt p2.atName
      let (f, first) ← holding [ov] (getMethod ov "__init__" pl)
      callWith p3 f first (backTo p3 (starEach [e] X.env)) []) := by rfl)
    (hst : starEach [e] X.env = (false, eval e X.env) :: starEach [] X.env := by rfl) (hpl : (backTo p3 (starEach [] X.env)).any (·.1) = false := by rfl) :
    PySem.wpAt (model X.prog X.w) X.A (.func body X.env) (exec (.Expr (.Call (.Attribute (.Call (.Name "super" p0) [] [] p1) "__init__" p2) [e] [] p3) p4) X.env) (fun fl s' => fl = .next ∧ ∃ H1, Inv X pins σ H1 s' ∧ D H1) X.xe s := by
  refine PySem.ks_wpAt_Expr_any ?_ I.quiet (by rfl)
  refine PySem.ks_wpAt_MethodCall ?_ hmc
  refine PySem.ks_wpAt_super_base hks hkc (by decide) hfu (I.kIn _ _ hf) hfd hp hco (I.kIn _ _ hcc) hoc hvs hfile htop ?_
  refine nm_blt I hks hmg (by rfl) ⟨rfl, ?_⟩
  obtain ⟨m, hn, hl⟩ := id I.loc
  obtain ⟨uc, rc, lc⟩ := hl j "__class__" (.ref C) hNc hσc (.inr (.inr hkc))
  obtain rfl : uc = Value.ref C := rc
  obtain ⟨us, rs, ls⟩ := hl 0 "self" (.ref x) hN0 hσ (.inl hself)
  obtain rfl : us = Value.ref x := rs
  obtain ⟨cl, hcl, hcell⟩ : ∃ c, X.env.cells.lookup ("__class__" : Str) = some c ∧ s.heap.IsCell c (some (.ref C)) := by
    rcases lc with ⟨z, _⟩ | ⟨_, z⟩
    · rw [hkc] at z
      cases z
    · exact z
  have hm : m "self" = some (.ref x) := by
    rcases ls with ⟨_, z⟩ | ⟨z, _⟩
    · exact z
    · rw [hself] at z
      rcases z with z | z <;> cases z
  refine wpAny_loadName_free I.ok.kind hkc hcl hcell ?_
  rw [har]
  refine wpAny_loadName_local I.ok.kind hself hn hm ?_
  obtain ⟨nm, qn, N, bs, bm, sn, sub, ab, col, dd, k0, k1, k2, k3, k5, hC, hbm⟩ := T.oex.cls
  have hC' := I.kIn _ _ hC
  refine PySem.ks_wpAny_isType_cls hC' rfl ⟨rfl, ?_⟩
  obtain ⟨t1, ho⟩ := exo_at I.hok hx
  obtain ⟨hp0, g, d, t, os⟩ := s
  refine PySem.ks_wpAny_call_super hC' rfl ho rfl (fun c z => by cases z) (PySem.W.looks_subIn I.kIn T.self) fun h' hso k => ?_
  have J : Inv X ((hp0.objs.size, PySem.W.ks_superObj C x C) :: pins) σ H ⟨h', g, d, t, os⟩ := pin_new (tk := t) I k hso (Nat.le_refl _) fun v z => by cases z
  obtain ⟨cd, hcd, hup⟩ : ∃ cd, PySem.W.clsIn X.K C = some cd ∧ PySem.W.alongIn X.K "__init__" ((cd.mro.dropWhile (· != .ref C)).drop 1) = some (some (.builtin "ValueError.__init__")) := by
    have z := T.up
    unfold PySem.W.ks_superIn at z
    cases e : PySem.W.clsIn X.K C with
    | none => rw [e] at z; cases z
    | some cd =>
      rw [e] at z
      exact ⟨cd, rfl, z⟩
  have ho' := k _ _ ho
  have IA : PySem.W.InstAt h' x _ C none := ⟨ho', rfl, rfl, trivial⟩
  have LI : PySem.W.Looks (model X.prog X.w) h' (isInstance (.ref x) (.type "ValueError")) true := IA.type.andThen (PySem.W.looks_subIn J.kIn T.ve)
  refine PySem.W.kxs_getMethod PySem.W.kxs_ValueError hso (PySem.W.looks_opaque J.kIn T.op) (l₀ := cd.mro) (fun A Q E s k q => wpAny_bind ((PySem.W.looks_clsIn J.kIn hcd) A _ E s k (wpAny_pure q))) rfl J.kIn hup LI (PySem.W.ks_ne J.kIn IA hcd) (by decide) ?_
  have hu : (h'.push (PySem.W.kxs_mw "ValueError.__init__" x)).get? h'.objs.size = some (PySem.W.kxs_mw "ValueError.__init__" x) := Heap.get?_push_at rfl rfl
  have J2 : Inv X ((h'.objs.size, PySem.W.kxs_mw "ValueError.__init__" x) :: (hp0.objs.size, PySem.W.ks_superObj C x C) :: pins) σ H ⟨h'.push (PySem.W.kxs_mw "ValueError.__init__" x), g, d, t + 1, os⟩ :=
    pin_new (tk := t + 1) J (fun b o e => Heap.get?_push_of_some _ e) hu (Nat.le_refl _) fun v z => by cases z
  generalize hU : h'.objs.size = u at hu J2 ⊢
  show wpAny _ _ (callWith p3 (.ref u) [] (backTo p3 (starEach [e] X.env)) []) _ _ _
  have ha : PA X [e] (tCons te tNil) := pa_cons he pa_nil (hs := hst)
  have run : wpAny (model X.prog X.w) X.A (spliced (backTo p3 (starEach [e] X.env))) (fun vs s₁ => PySem.W.KxsAt "ValueError.__init__" u x s₁.heap ∧ wpAny (model X.prog X.w) X.A (call (.ref u) vs) (fun _ s' => Flow.next = Flow.next ∧ ∃ H1, Inv X pins σ H1 s' ∧ D H1) X.xe s₁) X.xe
      ⟨h'.push (PySem.W.kxs_mw "ValueError.__init__" x), g, d, t + 1, os⟩ := by
    refine thn (ha.run p3 _ _ σ H (fun vs H1 => vs.length ≤ 1000 ∧ H1 x = some (exo x C none) ∧ D H1) J2 q) fun us s1 hh => ?_
    obtain ⟨vs1, H1, I1, r1, l1, ex, dq⟩ := hh
    have hu1 := (I1.pin (u, PySem.W.kxs_mw "ValueError.__init__" x) (List.mem_append_right _ (List.mem_cons_self))).1
    refine ⟨hu1, ?_⟩
    obtain ⟨t2, ho2⟩ := exo_at I1.hok ex
    have hlen : us.length ≤ sizeLine := by
      rw [← Paired.length r1, sizeLine_eq]
      omega
    obtain ⟨hp1, g1, d1, t3, os1⟩ := s1
    refine call_mw (I1.kIn _ _ hC) ho2 hu1 hlen fun h2 t4 k2 hx2 => ?_
    have K2 := I1.write (t' := t3) (x := x) (e := x) (o := exo x C none) (by rw [ex]; exact True.intro) (.inl rfl) k2 ⟨_, hx2⟩ (exo_ok hx2)
    have eu : upd H1 x (exo x C none) = H1 := by
      funext b
      by_cases hb : b = x
      · rw [hb, upd_same, ex]
      · rw [upd_ne hb]
    rw [eu] at K2
    exact ⟨rfl, H1, K2.pins_of fun p hp => K2.pin p (List.mem_append_right _ (List.mem_cons_of_mem _ (List.mem_cons_of_mem _ hp))), dq⟩
  rw [hst] at run ⊢
  refine PySem.W.kxs_callWith (i := "ValueError.__init__") (x := x) (by show (false || (backTo p3 (starEach [] X.env)).any (·.1)) = false; rw [hpl]; rfl) ?_
  exact Calls.evalArgs_plain run
end
end Ex
end Tk

/-! ### .. : the __init__ as a def, its class called -/
namespace Tk
open PySem PySem.Spec PyProof.Rows L2
namespace Ex
/-- what the written part says of such an __init__ -/
structure SupFn (P : Program) (K : PySem.W.Frag) (mg : Str → Option Value) (C f : Addr) (qual : Str) (params : Arguments) (body : List Stmt) (scope : Scope) : Prop where
  ex : ∃ (od : Option Addr) (doc pm ctv : Value) (an : Option Addr) (osl : Array (Option Value)) (c cc : Addr) (oc ocl : Obj) (vs : Array Value) (tf : Tok),
    K.lookup f = some ⟨.type "function", od, .func (PySem.W.fnX "__init__" qual params body scope [("__class__", cc)] .none .none doc pm an (.ref c) ctv), osl⟩ ∧ PySem.W.codeIn K (.ref c) qual = true ∧
      K.lookup c = some oc ∧ oc.data = .fields vs ∧ vs[2]? = some (.str P.main.file tf) ∧ K.lookup cc = some ocl ∧ ocl.data = .cell (some (.ref C))
  kp : PySem.W.keepIn K (.ref f) = true
  sup : SupC K C
  mgS : mg "super" = none
  top : (P.main.scope.names.lookup ("super" : Str)).isSome = false
abbrev nf (qual : Str) (params : Arguments) (body : List Stmt) (scope : Scope) (cc c : Addr) : NdefX.NF := ⟨"__init__", qual, params, body, scope, [("__class__", cc)], c⟩
section
variable {P : Program} {w : World} {K : PySem.W.Frag} {mg : Str → Option Value} {base : Heap} {C f : Addr} {qual : Str} {params : Arguments} {body : List Stmt} {scope : Scope} {N ps : List Str} {k : Nat} {sp : Sp}
theorem ok_sup {e : Expr} {rest : List Stmt} {p0 p1 p2 p3 p4 : Pos} {ar : PySem.Arg} {n : Nat} (G : SupFn P K mg C f qual params body scope) (S : NdefX.NScope N ps ["__class__"] scope) (hn : ps.length = n + 1) (h0 : N[0]? = some ("self" : Str)) (hc : N[n + 1]? = some ("__class__" : Str))
    (hself : scope.names.lookup ("self" : Str) = some .local) (hks : scope.names.lookup ("super" : Str) = some .globalImplicit) (hp : (params.posonlyargs ++ params.args).head? = some ar) (har : ar.arg = "self")
    (hbd : body = .Expr (.Call (.Attribute (.Call (.Name "super" p0) [] [] p1) "__init__" p2) [e] [] p3) p4 :: rest)
    (hb : ∀ (doc pm ctv : Value) (an : Option Addr) (c cc : Addr) (us : List Value), us.length = ps.length → bindArgs (PySem.W.fnX "__init__" qual params body scope [("__class__", cc)] .none .none doc pm an (.ref c) ctv) ⟨us, []⟩ = pure (ps.zip us))
    (len : ∀ vs H Q E, sp vs H Q E → vs.length = ps.length)
    (hbody : ∀ (c cc : Addr) (A : Around) (outer : List Env) (s : Shared) (H : Hp) (vs : List V) (Q : VK) (E : XK), Room k (A.deeper (NdefX.envF (nf qual params body scope cc c) f s.heap.objs.size)) → sp vs H Q E →
      ∃ (x : Addr) (r : List V) (te : TE) (t : TS), vs = .ref x :: r ∧ H x = some (exo x C none) ∧ PE (NdefX.ncx (L2.CX P w) P w K mg base N (nf qual params body scope cc c) f A outer s H E) e te ∧ PSs (NdefX.ncx (L2.CX P w) P w K mg base N (nf qual params body scope cc c) f A outer s H E) rest t ∧
        te (NdefX.startF N vs [some (.ref C)]) H fun v H1 => ([v] : List V).length ≤ 1000 ∧ H1 x = some (exo x C none) ∧ t { nx := fun _ H' => Q .non H', rt := Q } (NdefX.startF N vs [some (.ref C)]) H1)
    (hmc : ∀ (c cc : Addr) (A : Around) (outer : List Env) (s : Shared) (H : Hp) (E : XK), ∃ pl : Sem Bool, eval (.Call (.Attribute (.Call (.Name "super" p0) [] [] p1) "__init__" p2) [e] [] p3) (NdefX.ncx (L2.CX P w) P w K mg base N (nf qual params body scope cc c) f A outer s H E).env = (do
      let ov ← attributeBase (.Call (.Name "super" p0) [] [] p1) "__init__" (NdefX.ncx (L2.CX P w) P w K mg base N (nf qual params body scope cc c) f A outer s H E).env (eval (.Call (.Name "super" p0) [] [] p1) (NdefX.ncx (L2.CX P w) P w K mg base N (nf qual params body scope cc c) f A outer s H E).env)
      standAt p2.atName
      let (f', first) ← holding [ov] (getMethod ov "__init__" pl)
      callWith p3 f' first (backTo p3 (starEach [e] (NdefX.ncx (L2.CX P w) P w K mg base N (nf qual params body scope cc c) f A outer s H E).env)) []))
    (hst : ∀ env : Env, starEach [e] env = (false, eval e env) :: starEach [] env) : OkF P w K mg base (k + 1) f ps sp := by
  obtain ⟨od, doc, pm, ctv, an, osl, c, cc, oc, ocl, cvs, tf, lk, hcd, lc, hoc, hvs, lcc, hcl⟩ := G.ex
  refine ⟨⟨_, ⟨len, fun A outer s H args us vs Q E hr e0 hbind r hsp => ?_⟩, .all (hb doc pm ctv an c cc)⟩, G.kp⟩
  have hl := len _ _ _ _ hsp
  have KX : K.In s.heap := e0.mod.kin.keeps fun b o e => (e0.bs b o e).1
  have lim : s.heap.NoLimit := e0.mod.nolimit.keeps fun b o e => (e0.bs b o e).1
  have C0 : NdefX.CellsAt [("__class__", cc)] ["__class__"] [some (.ref C)] s.heap H := by
    have one : ∀ (y : Str) (d : Addr), List.lookup y [(("__class__" : Str), cc)] = some d → y = "__class__" ∧ d = cc := fun y d h => by
      rw [List.lookup_cons] at h
      cases e : y == ("__class__" : Str) with
      | true =>
        rw [e] at h
        exact ⟨beq_iff_eq.mp e, (Option.some.inj h).symm⟩
      | false =>
        rw [e] at h
        cases h
    have cl1 : s.heap.IsCell cc (some (.ref C)) := ⟨ocl, KX _ _ lcc, hcl⟩
    refine ⟨rfl, fun y d h => ?_, fun x y d h1 h2 => ?_, fun i y h => ?_⟩
    · obtain ⟨_, rfl⟩ := one y d h
      exact ⟨(e0.bs _ _ (e0.mod.kin _ _ lcc)).2, _, cl1⟩
    · rw [(one x d h1).1, (one y d h2).1]
    · cases i with
      | zero =>
        obtain rfl : ("__class__" : Str) = y := Option.some.inj h
        refine ⟨cc, by rw [List.lookup_cons, beq_self_eq_true], fun v hv => ?_⟩
        obtain rfl : V.ref C = v := Option.some.inj (Option.some.inj hv)
        exact ⟨.ref C, rfl, cl1⟩
      | succ i => cases h
  refine codeAny_call_function hr.depth (KX _ _ lk) rfl S.co S.gen rfl (PySem.W.codeRec_of KX hcd) (hbind _ _ _ _ ?_)
  refine wpAny_newFunctionEnv S.nocell (fun ⟨n, _⟩ hy => S.par n (List.of_mem_zip hy).1) (fun h₁ hns hsb => ⟨lim.fresh _ hsb, ?_⟩) S.kind
  show codeAny _ _ (.func body (NdefX.envF (nf qual params body scope cc c) f s.heap.objs.size)) _ _
  have kp : ∀ b o, s.heap.get? b = some o → h₁.get? b = some o := fun b o e => hsb.extBut b o (Nat.ne_of_lt (Heap.lt_size e)) (Heap.get?_push_of_some _ e)
  obtain ⟨x, rv, te, t, rfl, hx, he, ht, hq⟩ := hbody c cc A outer s H vs Q E (hr.deeper _) hsp
  have I : Inv (NdefX.ncx (L2.CX P w) P w K mg base N (nf qual params body scope cc c) f A outer s H E) [] (NdefX.startF N (.ref x :: rv) [some (.ref C)]) H { s with heap := h₁, toks := s.toks + (ps.zip us).length } :=
    NdefX.inv_startN (F := nf qual params body scope cc c) S hr.hd e0 hl r C0 hns kp
  obtain ⟨pl, hm⟩ := hmc c cc A outer s H E
  have hσ0 : (NdefX.startF N (.ref x :: rv) [some (.ref C)])[0]? = some (some (.ref x)) := rfl
  have hσc : (NdefX.startF N (.ref x :: rv) [some (.ref C)])[n + 1]? = some (some (.ref C)) := by
    unfold NdefX.startF
    have l2 : (V.ref x :: rv).length = n + 1 := by rw [hl, hn]
    rw [List.getElem?_append_right (by rw [List.length_map]; omega), List.length_map, l2, Nat.sub_self]
    rfl
  have st := sup_stmt (X := NdefX.ncx (L2.CX P w) P w K mg base N (nf qual params body scope cc c) f A outer s H E) (body := body) (p4 := p4) I G.sup hks (S.frk _ (List.mem_singleton.mpr rfl)) hself rfl lk rfl hp har rfl lc hoc hvs (beq_self_eq_true _) G.top G.mgS h0 hσ0 hc hσc hx he
    (D := fun H1 => t { nx := fun _ H' => Q .non H', rt := Q } (NdefX.startF N (.ref x :: rv) [some (.ref C)]) H1) hq hm (hst _) rfl
  have fin : ∀ {σ' : L2.St} {H' : Hp} {v : V} {u : Value} {s' : Shared}, Inv (NdefX.ncx (L2.CX P w) P w K mg base N (nf qual params body scope cc c) f A outer s H E) [] σ' H' s' → L2.RelV v u → Q v H' → CE outer P w H s Q u s' :=
    fun {σ' H' v u s'} J rv q => ⟨v, H', J.os, J.bare, J.base, J.hok, rv, q⟩
  refine PySem.ks_codeAny_funcAt ?_
  have ex : execs body (NdefX.envF (nf qual params body scope cc c) f s.heap.objs.size) = execs (.Expr (.Call (.Attribute (.Call (.Name "super" p0) [] [] p1) "__init__" p2) [e] [] p3) p4 :: rest) (NdefX.envF (nf qual params body scope cc c) f s.heap.objs.size) := congrArg (fun z => execs z _) hbd
  rw [ex]
  refine PySem.ks_wpAt_execs_cons (PySem.wpAt_mono st (fun fl s' hs => ?_) fun e s' hs => hs)
  obtain ⟨rfl, H1, J, qt⟩ := hs
  refine PySem.wpAt_of_wpAny (wpAny_mono (ht.run [] s' _ H1 _ J qt) (fun fl s2 hs => ?_) fun e s2 hs => hs)
  cases fl with
  | ret u =>
    obtain ⟨v, σ', H', J', rv', q⟩ := hs
    exact fin J' rv' q
  | next =>
    obtain ⟨σ', H', J', q⟩ := hs
    exact fin (v := V.non) (u := Value.none) J' rfl q
  | brk =>
    obtain ⟨_, _, _, q⟩ := hs
    exact False.elim q
  | cont =>
    obtain ⟨_, _, _, q⟩ := hs
    exact False.elim q
end
end Ex
end Tk

/-! ### Error classes: what the written part says of them; raising them; asking of which class one is -/
namespace Tk
open PySem PySem.Spec PyProof.Rows L2
namespace Ex
abbrev FILE : Str := "/claim/cut.py"
structure PF (P : Program) : Prop where
  file : (P.main.file : Str) = FILE
  top : (P.main.scope.names.lookup ("super" : Str)).isSome = false
/-- the exception's dict, if it has one, stands in H -/
def HasD (H : Hp) : Option Addr → Prop
  | none => True
  | some dd => ∃ fs, H dd = some (.xd fs)
def rIsX (K : PySem.W.Frag) (cls : Value) (d : Option Addr) (a : Addr) : List V → Hp → VK → Prop := fun xs H Q => ∃ (D : Addr) (c : V) (cv : Value) (b : Bool), cls = .ref D ∧ IsX K D ∧ xs = [.ref a, c] ∧ (∀ u, RelV c u → u = cv) ∧ PySem.W.kitOne K (.ref D) cv = some b ∧ HasD H d ∧ Q (.bl b) H
theorem call_isX {X : Cx} {a : Addr} {oe : Obj} {cls : Value} {d : Option Addr} {K : PySem.W.Frag} (hz : Zc cls d oe) (hf : ∃ vs, oe.data = .fields vs) (hK : X.K = K := by rfl) (hp : (a, oe) ∈ X.pn := by exact List.mem_cons_self) : CallR X (.builtin "isinstance") (rIsX K cls d a) := by
  subst hK
  intro pins s σ H xs us Q I r h
  obtain ⟨D, c, cv, b, rfl, C, rfl, hcv, e, hd, q⟩ := h
  cases r with
  | cons rx rr =>
    cases rr with
    | cons rt rr =>
      cases rr
      cases rx
      have ec := hcv _ rt
      subst ec
      obtain ⟨hget, _⟩ := I.pin (a, oe) (List.mem_append.mpr (.inl hp))
      obtain ⟨vs, hv⟩ := hf
      obtain ⟨od, J⟩ : ∃ od, PySem.W.InstAt s.heap a oe D od := by
        obtain ⟨oc, od, oda, osl⟩ := oe
        obtain ⟨h1, h2⟩ := hz
        dsimp only at h1 h2 hv
        subst h1 h2 hv
        cases od with
        | none => exact ⟨none, hget, rfl, rfl, trivial⟩
        | some dd =>
          obtain ⟨fs, hd⟩ := hd
          obtain ⟨mA, ⟨od, es, ep, e, _⟩, _⟩ := I.hok _ _ hd
          exact ⟨some od, hget, rfl, rfl, e⟩
      exact PySem.W.kia_one (PySem.W.kitx_exc C.cl C.hg C.hk C.hs C.ha C.hn C.ht C.hm) I.kIn J e (fun z => nomatch z) fun tk => ⟨.bl b, H, I.kept (t' := tk) fun _ _ z => z, rfl, q⟩
/-! the __init__ of an error with one attribute, with two -/
def spIni1 (C : Addr) (f1 : Str) : Sp := fun vs H Q _ => ∃ (x : Addr) (i : Int), vs = [.ref x, .int i] ∧ H x = some (exo x C none) ∧ i.natAbs.log2 < 1920 ∧ (toString i : Str).length ≤ 1000000 ∧
  ∀ dx, H dx = none → dx ≠ x → Q .non (upd (upd H dx (exd dx [(f1, .int i)])) x (exo x C (some dx)))
def spIni2 (C : Addr) (f1 f2 : Str) : Sp := fun vs H Q _ => ∃ (x : Addr) (y : Str) (i : Int), vs = [.ref x, .str y, .int i] ∧ H x = some (exo x C none) ∧ y.length ≤ 1000 ∧ i.natAbs.log2 < 1920 ∧ (toString i : Str).length ≤ 1000000 ∧
  ∀ dx, H dx = none → dx ≠ x → Q .non (upd (upd (upd H dx (exd dx [(f1, .str y)])) x (exo x C (some dx))) dx (exd dx [(f2, .int i), (f1, .str y)]))
end Ex
namespace Rd
variable {K : PySem.W.Frag} {σ : L2.St} {H : Hp} {C : Addr} {f1 f2 : Str}
theorem mkO1 {i : Int} {Q : XK} (hi : i.natAbs.log2 < 1920) (hl : (toString i : Str).length ≤ 1000000) (k : ∀ d H', H d = none → Same H H' → H' d = some (.xd [(f1, .int i)]) → Q (.ref C) (some d) H') :
    ([V.int i] : List V).length ≤ 1000 ∧ ∀ a, H a = none → Ex.spIni1 C f1 (.ref a :: ([V.int i] ++ [])) (upd H a (exo a C none)) (fun v H2 => v = .non ∧ ∃ (d : Addr) (fs : List (Str × V)), H2 a = some (exo a C (some d)) ∧ H2 d = some (exd d fs) ∧ H d = none ∧ Q (.ref C) (some d) (upd (del H2 a) d (.xd fs))) (fun _ _ _ => False) := by
  refine ⟨by simp, fun a ha => ⟨a, i, rfl, upd_same, hi, hl, fun dx n ne => ⟨rfl, dx, _, upd_same, by rw [upd_ne ne, upd_same], by rw [upd_ne ne] at n; exact n, ?_⟩⟩⟩
  rw [upd_ne ne] at n
  refine k dx _ n (fun b o e => ?_) upd_same
  have nb : b ≠ dx := ne_of_none e n
  have na : b ≠ a := ne_of_none e ha
  rw [upd_ne nb, del_ne na, upd_ne na, upd_ne nb, upd_ne na]
  exact e
theorem mkO2 {y : Str} {i : Int} {Q : XK} (hy : y.length ≤ 1000) (hi : i.natAbs.log2 < 1920) (hl : (toString i : Str).length ≤ 1000000) (k : ∀ d H', H d = none → Same H H' → H' d = some (.xd [(f2, .int i), (f1, .str y)]) → Q (.ref C) (some d) H') :
    ([V.str y, V.int i] : List V).length ≤ 1000 ∧ ∀ a, H a = none → Ex.spIni2 C f1 f2 (.ref a :: ([V.str y, V.int i] ++ [])) (upd H a (exo a C none)) (fun v H2 => v = .non ∧ ∃ (d : Addr) (fs : List (Str × V)), H2 a = some (exo a C (some d)) ∧ H2 d = some (exd d fs) ∧ H d = none ∧ Q (.ref C) (some d) (upd (del H2 a) d (.xd fs))) (fun _ _ _ => False) := by
  refine ⟨by simp, fun a ha => ⟨a, y, i, rfl, upd_same, hy, hi, hl, fun dx n ne => ⟨rfl, dx, _, by rw [upd_ne ne.symm, upd_same], upd_same, by rw [upd_ne ne] at n; exact n, ?_⟩⟩⟩
  rw [upd_ne ne] at n
  refine k dx _ n (fun b o e => ?_) upd_same
  have nb : b ≠ dx := ne_of_none e n
  have na : b ≠ a := ne_of_none e ha
  rw [upd_ne nb, del_ne na, upd_ne nb, upd_ne na, upd_ne nb, upd_ne na]
  exact e
end Rd
end Tk

/-! ### Tables of code objects along the way -/
namespace Tk
open PySem PySem.Spec PyProof.Rows L2 Mm LamX
/-- the name of a function that the def x makes -/
def qnm (x : Str) : Str := (x ++ ".<locals>.") ++ "<lambda>"
/-- the tables and the names of what they tell -/
def TT (K : PySem.W.Frag) : List (Addr × Str) := mkl.map fun p => ((ctAt K (p.1 K)).2, qnm p.2)
structure Tbs (K : PySem.W.Frag) (mg : Str → Option Value) (base : Heap) : Prop where
  all : ∀ p ∈ mkl, TabB base mg (ctAt K (p.1 K)).1 (ctAt K (p.1 K)).2
  apart : (mkl.map fun p => (ctAt K (p.1 K)).2).Nodup
theorem uniq1 : ∀ {l : List (Addr × Str)}, (l.map (·.1)).Nodup → ∀ {x : Addr × Str}, x ∈ l → ∀ p ∈ l, p.1 = x.1 → p.2 = x.2
  | [], _, _, h, _, _, _ => by cases h
  | a :: l, nd, x, hx, p, hp, e => by
    obtain ⟨n1, n2⟩ := List.nodup_cons.mp (show (a.1 :: l.map (·.1)).Nodup from nd)
    rcases List.mem_cons.mp hx with e1 | e1 <;> rcases List.mem_cons.mp hp with e2 | e2
    · rw [e1, e2]
    · subst e1
      exact absurd (List.mem_map.mpr ⟨p, e2, e⟩) n1
    · subst e2
      exact absurd (List.mem_map.mpr ⟨x, e1, e.symm⟩) n1
    · exact uniq1 n2 e1 p e2 e
theorem Tbs.x {K : PySem.W.Frag} {mg : Str → Option Value} {base : Heap} (t : Tbs K mg base) {p : Mk_ × Str} (hp : p ∈ mkl) : ∀ y ∈ TT K, y.1 = (ctAt K (p.1 K)).2 → y.2 = qnm p.2 := fun y hy e => by
  refine uniq1 (l := TT K) (x := ((ctAt K (p.1 K)).2, qnm p.2)) ?_ (List.mem_map.mpr ⟨p, hp, rfl⟩) y hy e
  show ((mkl.map fun p => ((ctAt K (p.1 K)).2, qnm p.2)).map (·.1)).Nodup
  rw [List.map_map]
  exact t.apart
theorem Tbs.tx {P : Program} {w : World} {K : PySem.W.Frag} {mg : Str → Option Value} {base : Heap} {N : List Str} {scope : Scope} {f : Addr} {A : Around} {outer : List Env} {s : Shared} {H : Hp} {E : XK} {CX : CXT} (t : Tbs K mg base) {p : Mk_ × Str} (hp : p ∈ mkl) {cdv : Value} (hc : cdv = .ref (codeAt K (p.1 K))) :
    TabX (cxOf CX P w K mg base N p.2 scope f cdv A outer s H E) (TT K) :=
  ⟨(ctAt K (p.1 K)).1, (ctAt K (p.1 K)).2, t.all p hp, hc, List.mem_map.mpr ⟨p, hp, rfl⟩, t.x hp⟩
/-- all but tables stays, the tables tell what they should -/
def Ext (K : PySem.W.Frag) (H H' : Hp) : Prop := ExtN H H' ∧ Tabs (TT K) H'
section
variable {K : PySem.W.Frag} {H H1 H2 : Hp}
theorem extn_same (a : Same H H1) : ExtN H H1 := fun b o e _ => a b o e
theorem Ext.trans (a : Ext K H H1) (b : Ext K H1 H2) : Ext K H H2 := ⟨a.1.trans b.1, b.2⟩
theorem Ext.of (t : Tabs (TT K) H) (a : Same H H1) : Ext K H H1 := ⟨extn_same a, t.ext a⟩
theorem Ext.same (a : Ext K H H1) (b : Same H1 H2) : Ext K H H2 := a.trans (.of a.2 b)
theorem Ext.lst (a : Ext K H H1) {b : Addr} {xs : List V} (e : H b = some (.lst xs)) : H1 b = some (.lst xs) := a.1 _ _ e fun _ z => by cases z
theorem Ext.tup (a : Ext K H H1) {b : Addr} {xs : List V} (e : H b = some (.tup xs)) : H1 b = some (.tup xs) := a.1 _ _ e fun _ z => by cases z
theorem Ext.ins (a : Ext K H H1) {b c d : Addr} {xs : List (Str × V)} (e : H b = some (.ins c d xs)) : H1 b = some (.ins c d xs) := a.1 _ _ e fun _ z => by cases z
theorem HallAt.ext {C h lp : Addr} {m lt : Nat} {tk cl : List Nat} (p : HallAt C H h m tk cl lt lp) (b : Ext K H H1) : HallAt C H1 h m tk cl lt lp := by
  obtain ⟨dx, tp, cp, h1, h2, h3⟩ := p.ex
  exact ⟨⟨dx, tp, cp, b.ins h1, b.tup h2, b.tup h3⟩, b.lst p.lst, p.ok⟩
theorem PartsAt.ext {t tp cp : Addr} {m lt : Nat} {tk cl : List Nat} (p : PartsAt H t m tp tk cp cl lt) (b : Ext K H H1) : PartsAt H1 t m tp tk cp cl lt :=
  ⟨b.tup p.at_, b.tup p.tkA, b.tup p.clA, p.ok⟩
/-- the tables bear a change of the list at d -/
theorem tabs_but {d : Addr} {cs : List V} {T : List (Addr × Str)} (t : Tabs T H) (hd : H d = some (.lst cs)) (b : But d H H1) : Tabs T H1 := fun p hp => by
  obtain ⟨ps, h1, h2, h3⟩ := t p hp
  refine ⟨ps, b _ _ (fun z => by rw [z, hd] at h1; cases h1) h1, h2, fun pos cv hc => ?_⟩
  obtain ⟨c, e1, e2⟩ := h3 pos cv hc
  refine ⟨c, e1, b _ _ (fun z => ?_) e2⟩
  rw [z, hd] at e2
  have := Option.some.inj e2
  unfold CodeO at this
  cases this
theorem tabs_nil {T : List (Addr × Str)} (h : ∀ p ∈ T, H p.1 = some (.tbl #[])) : Tabs T H := fun p hp => TabS.nil (h p hp)
end
end Tk

/-! ### Equal data -/
namespace Tk
open PySem PySem.Spec PyProof.Rows L2
def flat : V → Bool
  | .non => true
  | .bl _ => true
  | .int _ => true
  | .str _ => true
  | _ => false
/-- one level of data -/
def Nx (K : PySem.W.Frag) (R : Hp → V → V → Prop) (H : Hp) (v u : V) : Prop :=
  (v = u ∧ flat v = true) ∨ (∃ a b xs ys, v = .ref a ∧ u = .ref b ∧ SqL K H a xs ∧ SqL K H b ys ∧ xs.length = ys.length ∧ xs.length ≤ 100000 ∧ ∀ (i : Nat) x y, xs[i]? = some x → ys[i]? = some y → R H x y) ∨
  (∃ a b xs ys, v = .ref a ∧ u = .ref b ∧ SqT K H a xs ∧ SqT K H b ys ∧ xs.length = ys.length ∧ xs.length ≤ 100000 ∧ ∀ (i : Nat) x y, xs[i]? = some x → ys[i]? = some y → R H x y)
/-- the same data, at most n deep -/
def Sm (K : PySem.W.Frag) : Nat → Hp → V → V → Prop
  | 0 => fun _ _ _ => False
  | n + 1 => Nx K (Sm K n)
def spEqOf (R : Hp → V → V → Prop) : Sp := fun vs H Q _ => ∃ v u, vs = [v, u] ∧ R H v u ∧ ∀ H', Same H H' → Q (.bl true) H'
theorem sqt_same {K : PySem.W.Frag} {H H' : Hp} {a : Addr} {xs : List V} (e : Same H H') (h : SqT K H a xs) : SqT K H' a xs := by
  rcases h with (h | ⟨o, h⟩) | h
  · exact .inl (.inl (e _ _ h))
  · exact .inl (.inr ⟨o, e _ _ h⟩)
  · exact .inr h
theorem Sm.same {K : PySem.W.Frag} {H H' : Hp} (e : Same H H') : ∀ {n : Nat} {v u : V}, Sm K n H v u → Sm K n H' v u
  | 0, _, _, h => h
  | n + 1, _, _, h => by
    rcases h with h | ⟨a, b, xs, ys, h1, h2, h3, h4, h5, h6, h7⟩ | ⟨a, b, xs, ys, h1, h2, h3, h4, h5, h6, h7⟩
    · exact .inl h
    · exact .inr (.inl ⟨a, b, xs, ys, h1, h2, e.seq h3, e.seq h4, h5, h6, fun i x y p q => Sm.same e (h7 i x y p q)⟩)
    · exact .inr (.inr ⟨a, b, xs, ys, h1, h2, sqt_same e h3, sqt_same e h4, h5, h6, fun i x y p q => Sm.same e (h7 i x y p q)⟩)
theorem tyx_l {K : PySem.W.Frag} {H : Hp} {a : Addr} {xs : List V} (h : SqL K H a xs) : TyX K H (.ref a) (.type "list") := by
  rcases h with (h | ⟨o, h⟩) | ⟨o, its, n, h1, h2, _⟩
  · exact .base (.lst h)
  · exact .base (.frz h)
  · exact .kList h1 h2
theorem tyx_t {K : PySem.W.Frag} {H : Hp} {a : Addr} {xs : List V} (h : SqT K H a xs) : TyX K H (.ref a) (.type "tuple") := by
  rcases h with (h | ⟨o, h⟩) | ⟨o, its, n, h1, h2, _⟩
  · exact .base (.tup h)
  · exact .fTuple h
  · exact .kTuple h1 h2
theorem rix {K : PySem.W.Frag} {H : Hp} {a : Addr} {xs : List V} {i : Int} {v : V} {Q : VK} (s : SqL K H a xs ∨ SqT K H a xs) (g : atI xs i = some v) (q : Q v H) : rIx K (.ref a) (.int i) H Q := by
  rcases s with s | s
  · exact .inl ⟨a, xs, i, v, rfl, rfl, s, g, q⟩
  · exact .inr (.inl ⟨a, xs, i, v, rfl, rfl, s, g, q⟩)
section
variable {P : Program} {w : World} {K : PySem.W.Frag} {mg : Str → Option Value} {base : Heap}
end
theorem Sm.flats {K : PySem.W.Frag} {n : Nat} {H : Hp} {a b : Addr} {xs : List V} (h1 : SqL K H a xs) (h2 : SqL K H b xs) (hl : xs.length ≤ 100000) (hf : ∀ x ∈ xs, flat x = true) : Sm K (n + 2) H (.ref a) (.ref b) :=
  .inr (.inl ⟨a, b, xs, xs, rfl, rfl, h1, h2, rfl, hl, fun i x y hx hy => .inl ⟨Option.some.inj (hx.symm.trans hy), hf x (List.mem_of_getElem? hx)⟩⟩)
theorem Sm.int {K : PySem.W.Frag} {n : Nat} {H : Hp} {i j : Int} (h : i = j) : Sm K (n + 1) H (.int i) (.int j) := .inl ⟨by rw [h], rfl⟩
end Tk

namespace Tk
open PySem PySem.Spec PyProof.Rows L2 Mm
/-- what a turn of a law holds: the hall, the counts up to n, away from d -/
structure EnvN (C : Addr) (H : Hp) (d hh a1 b1 : Addr) (m : Nat) (tk cl : List Nat) (lt : Nat) (lp : Addr) (n : Nat) : Prop where
  hall : HallAt C H hh m tk cl lt lp
  one : H a1 = some (.lst (fV (tak tk) n))
  two : H b1 = some (.lst (fV (cal tk cl) n))
  nl : lp ≠ d
  n1 : a1 ≠ d
  n2 : b1 ≠ d
theorem EnvN.but {C : Addr} {H H' : Hp} {d hh a1 b1 lp : Addr} {m lt n : Nat} {tk cl : List Nat} {cs : List V} (e : EnvN C H d hh a1 b1 m tk cl lt lp n) (b : But d H H') (hd : H d = some (.lst cs)) : EnvN C H' d hh a1 b1 m tk cl lt lp n :=
  ⟨e.hall.but b hd e.nl, b _ _ e.n1 e.one, b _ _ e.n2 e.two, e.nl, e.n1, e.n2⟩
theorem EnvN.same {C : Addr} {H H' : Hp} {d hh a1 b1 lp : Addr} {m lt n : Nat} {tk cl : List Nat} (e : EnvN C H d hh a1 b1 m tk cl lt lp n) (b : Same H H') : EnvN C H' d hh a1 b1 m tk cl lt lp n :=
  ⟨e.hall.same b, b _ _ e.one, b _ _ e.two, e.nl, e.n1, e.n2⟩
theorem hfs_meth {m : Nat} {tp cp : Addr} {lt : Nat} {lp : Addr} {x : Str} (h : (["_called", "lateness", "calls", "takes", "modulus"] : List Str).contains x = false) : (hfs m tp cp lt lp).lookup x = none := by
  simp only [List.contains_cons, Bool.or_eq_false_iff, beq_eq_false_iff_ne] at h
  obtain ⟨h1, h2, h3, h4, h5, _⟩ := h
  exact hfs_no h1 h2 h3 h4 h5
theorem Sm.flatsT {K : PySem.W.Frag} {n : Nat} {H : Hp} {a b : Addr} {xs : List V} (h1 : SqT K H a xs) (h2 : SqT K H b xs) (hl : xs.length ≤ 100000) (hf : ∀ x ∈ xs, flat x = true) : Sm K (n + 2) H (.ref a) (.ref b) :=
  .inr (.inr ⟨a, b, xs, xs, rfl, rfl, h1, h2, rfl, hl, fun i x y hx hy => .inl ⟨Option.some.inj (hx.symm.trans hy), hf x (List.mem_of_getElem? hx)⟩⟩)
theorem Sm.flat1 {K : PySem.W.Frag} {n : Nat} {H : Hp} {v : V} (h : flat v = true) : Sm K (n + 1) H v v := .inl ⟨rfl, h⟩
theorem flat_vn {ps : List Nat} : ∀ x ∈ ps.map vn, flat x = true := fun x hx => by
  obtain ⟨n, _, rfl⟩ := List.mem_map.mp hx
  rfl
end Tk

/-! ### Readings of halls -/
namespace Tk
open PySem PySem.Spec PyProof.Rows L2 Mm
theorem HallAt.sm {C h lp : Addr} {H H' : Hp} {m lt : Nat} {tk cl : List Nat} (b : Same H H') (p : HallAt C H h m tk cl lt lp) : HallAt C H' h m tk cl lt lp := p.same b
theorem PartsAt.sm {t tp cp : Addr} {H H' : Hp} {m lt : Nat} {tk cl : List Nat} (b : Same H H') (p : PartsAt H t m tp tk cp cl lt) : PartsAt H' t m tp tk cp cl lt := p.same b
theorem PartsAt.sq {K : PySem.W.Frag} {t tp cp : Addr} {H : Hp} {m lt : Nat} {tk cl : List Nat} (p : PartsAt H t m tp tk cp cl lt) : SqT K H t [vn m, .ref tp, .ref cp, vn lt] := SqT.of p.at_
theorem Sm.sm {K : PySem.W.Frag} {H H' : Hp} {n : Nat} {v u : V} (e : Same H H') (h : Sm K n H v u) : Sm K n H' v u := Sm.same e h
inductive SmL (R : V → V → Prop) : List V → List V → Prop where
  | nil : SmL R [] []
  | cons {x y : V} {xs ys : List V} (h : R x y) (t : SmL R xs ys) : SmL R (x :: xs) (y :: ys)
theorem SmL.len {R : V → V → Prop} : ∀ {xs ys : List V}, SmL R xs ys → xs.length = ys.length
  | _, _, .nil => rfl
  | _, _, .cons _ t => by rw [List.length_cons, List.length_cons, t.len]
theorem SmL.at {R : V → V → Prop} : ∀ {xs ys : List V}, SmL R xs ys → ∀ (i : Nat) x y, xs[i]? = some x → ys[i]? = some y → R x y
  | _, _, .nil, i, x, y, h, _ => by cases h
  | _, _, .cons h t, 0, x, y, h1, h2 => by
    obtain rfl := Option.some.inj h1
    obtain rfl := Option.some.inj h2
    exact h
  | _, _, .cons h t, i + 1, x, y, h1, h2 => t.at i x y h1 h2
theorem Sm.lst {K : PySem.W.Frag} {n : Nat} {H : Hp} {a b : Addr} {xs ys : List V} (h1 : SqL K H a xs) (h2 : SqL K H b ys) (hz : xs.length ≤ 100000) (h : SmL (Sm K n H) xs ys) : Sm K (n + 1) H (.ref a) (.ref b) := .inr (.inl ⟨a, b, xs, ys, rfl, rfl, h1, h2, h.len, hz, h.at⟩)
theorem Sm.tpl {K : PySem.W.Frag} {n : Nat} {H : Hp} {a b : Addr} {xs ys : List V} (h1 : SqT K H a xs) (h2 : SqT K H b ys) (hz : xs.length ≤ 100000) (h : SmL (Sm K n H) xs ys) : Sm K (n + 1) H (.ref a) (.ref b) := .inr (.inr ⟨a, b, xs, ys, rfl, rfl, h1, h2, h.len, hz, h.at⟩)
theorem Sm.rfl1 {K : PySem.W.Frag} {n : Nat} {H : Hp} {v : V} (h : flat v = true := by rfl) : Sm K (n + 1) H v v := .inl ⟨rfl, h⟩
namespace Rd
variable {K : PySem.W.Frag} {mg : Str → Option Value} {σ : L2.St} {H : Hp} {Q : VK} {E : XK} {t : TA} {C h lp : Addr} {m lt : Nat} {tk cl : List Nat}
theorem rgK_ab {a b : Int} {lo n : Nat} (ea : a = (lo : Int)) (eb : b = ((lo + n : Nat) : Int)) (h1 : lo ≤ 4000000000000000000) (hn : n ≤ 100000) (k : ∀ q H', H q = none → Same H H' → H' q = some (.lst ((List.range n).map fun i => vn (lo + i))) → Q (.ref q) H') : rgK Q a b H := by
  subst ea eb
  have e : rgV (lo : Int) ((lo + n : Nat) : Int) = (List.range n).map fun i => vn (lo + i) := by
    unfold rgV
    rw [show (((lo + n : Nat) : Int) - (lo : Int)).toNat = n by omega]
    rfl
  refine ⟨⟨by omega, by omega, by omega, by omega, by omega⟩, fun q hq => ?_⟩
  · rw [e]
    exact k q _ hq (Same.nw hq (Same.refl H)) upd_same
theorem rgK_n {b : Int} {n : Nat} (eb : b = (n : Int)) (hn : n ≤ 100000) (k : ∀ q H', H q = none → Same H H' → H' q = some (.lst ((List.range n).map vn)) → Q (.ref q) H') : rgK Q 0 b H :=
  rgK_ab (lo := 0) rfl (by rw [Nat.zero_add]; exact eb) (by decide) hn fun q H' nq S hq => k q H' nq S (by rw [hq]; simp)
theorem f_modulus (T : Txt K mg) (hA : HallAt (He.ga K "Hall") H h m tk cl lt lp) (k : Q (vn m) H) : fldK K "modulus" Q (.ref h) H := by
  obtain ⟨dx, tp, cp, hh, htp, hcp⟩ := hA.ex
  exact ⟨h, _, dx, _, _, rfl, hh, T.cl_Hall, T.n_modulus, hfs_modulus, k⟩
theorem f_lateness (T : Txt K mg) (hA : HallAt (He.ga K "Hall") H h m tk cl lt lp) (k : Q (vn lt) H) : fldK K "lateness" Q (.ref h) H := by
  obtain ⟨dx, tp, cp, hh, htp, hcp⟩ := hA.ex
  exact ⟨h, _, dx, _, _, rfl, hh, T.cl_Hall, T.n_lateness, hfs_lateness, k⟩
theorem f_takes (T : Txt K mg) (hA : HallAt (He.ga K "Hall") H h m tk cl lt lp) (k : ∀ tp, H tp = some (.tup (tk.map vn)) → Q (.ref tp) H) : fldK K "takes" Q (.ref h) H := by
  obtain ⟨dx, tp, cp, hh, htp, hcp⟩ := hA.ex
  exact ⟨h, _, dx, _, _, rfl, hh, T.cl_Hall, T.n_takes, hfs_takes, k tp htp⟩
theorem f_calls (T : Txt K mg) (hA : HallAt (He.ga K "Hall") H h m tk cl lt lp) (k : ∀ cp, H cp = some (.tup (cl.map vn)) → Q (.ref cp) H) : fldK K "calls" Q (.ref h) H := by
  obtain ⟨dx, tp, cp, hh, htp, hcp⟩ := hA.ex
  exact ⟨h, _, dx, _, _, rfl, hh, T.cl_Hall, T.n_calls, hfs_calls, k cp hcp⟩
theorem h_meth {x : Str} {sp : Sp} (hA : HallAt C H h m tk cl lt lp) (hx : (["_called", "lateness", "calls", "takes", "modulus"] : List Str).contains x = false) (k : t σ H fun vs H2 => sp (.ref h :: vs) H2 Q E) : methK x sp C [] E t σ Q (.ref h) H := by
  obtain ⟨dx, tp, cp, hh, htp, hcp⟩ := hA.ex
  refine ⟨h, dx, _, rfl, hh, hfs_meth hx, ?_⟩
  simp only [List.append_nil]
  exact k
theorem h_prop {sp : Sp} {dvs : List V} (hA : HallAt C H h m tk cl lt lp) (k : sp (.ref h :: dvs) H Q E) : propK sp C dvs E Q (.ref h) H := by
  obtain ⟨dx, tp, cp, hh, htp, hcp⟩ := hA.ex
  exact ⟨h, dx, _, rfl, hh, k⟩
theorem h_taken {n : Nat} {z : Int} {r : List V} (hA : HallAt C H h m tk cl lt lp) (e : z.toNat = n) (k : ∀ H', Same H H' → Q (vn (tak tk n)) H') : spTaken C [.ref h, .int z] H Q E :=
  ⟨h, lp, z, m, lt, tk, cl, rfl, hA, by rw [e]; exact k⟩
theorem h_taken0 {n : Nat} (hA : HallAt C H h m tk cl lt lp) (k : ∀ H', Same H H' → Q (vn (tak tk n)) H') : spTaken C [.ref h, .int (n : Int)] H Q E := h_taken (r := []) hA (by omega) k
theorem h_taken1 {n : Nat} (hA : HallAt C H h m tk cl lt lp) (k : ∀ H', Same H H' → Q (vn (tak tk (n + 1))) H') : spTaken C [.ref h, .int ((n : Int) + 1)] H Q E := h_taken (r := []) hA (by omega) k
theorem h_takenL {n j : Nat} (hA : HallAt C H h m tk cl lt lp) (k : ∀ H', Same H H' → Q (vn (tak tk (n - j))) H') : spTaken C [.ref h, .int ((n : Int) - (j : Int))] H Q E := h_taken (r := []) hA (by omega) k
theorem h_called {n : Nat} {z : Int} {r : List V} (hA : HallAt C H h m tk cl lt lp) (e : z.toNat = n) (k : Q (vn (cal tk cl n)) H) : spCalled C [.ref h, .int z] H Q E :=
  ⟨h, lp, z, m, lt, tk, cl, rfl, hA, by rw [e]; exact k⟩
theorem h_called0 {n : Nat} (hA : HallAt C H h m tk cl lt lp) (k : Q (vn (cal tk cl n)) H) : spCalled C [.ref h, .int (n : Int)] H Q E := h_called (r := []) hA (by omega) k
theorem h_called1 {n : Nat} (hA : HallAt C H h m tk cl lt lp) (k : Q (vn (cal tk cl (n + 1))) H) : spCalled C [.ref h, .int ((n : Int) + 1)] H Q E := h_called (r := []) hA (by omega) k
theorem h_calledL {n j : Nat} (hA : HallAt C H h m tk cl lt lp) (k : Q (vn (cal tk cl (n - j))) H) : spCalled C [.ref h, .int ((n : Int) - (j : Int))] H Q E := h_called (r := []) hA (by omega) k
theorem h_waiting {n : Nat} (hA : HallAt C H h m tk cl lt lp) (hn : n ≤ 1000000000000000000) (k : ∀ H', Same H H' → Q (vn (wt tk cl (n + 1))) H') : spWaiting C [.ref h, .int (n : Int)] H Q E := ⟨h, lp, n, m, lt, tk, cl, rfl, hn, hA, k⟩
theorem h_growth (hA : HallAt C H h m tk cl lt lp) (k : ∀ H', Same H H' → Q (vn (grow tk cl)) H') : spGrowth C [.ref h] H Q E := ⟨h, lp, m, lt, tk, cl, rfl, hA, k⟩
theorem h_period (hA : HallAt C H h m tk cl lt lp) (k : Q (vn (per tk cl)) H) : spPeriod C [.ref h] H Q E := by
  obtain ⟨dx, tp, cp, hh, htp, hcp⟩ := hA.ex
  exact ⟨h, dx, tp, cp, _, tk, cl, rfl, hh, hfs_takes, hfs_calls, htp, hcp, hA.ok.tkP, hA.ok.clP, k⟩
theorem h_lhall {tp cp p : Addr} (hP : PartsAt H p m tp tk cp cl lt) (k : ∀ h lp H', H h = none → H lp = none → Same H H' → HallAt C H' h m tk cl lt lp → Q (.ref h) H') : spLHall C [.ref p] H Q E := ⟨p, tp, cp, m, lt, tk, cl, rfl, hP, k⟩
theorem h_length {tp cp p : Addr} (hP : PartsAt H p m tp tk cp cl lt) (k : Q (vn (per tk cl)) H) : spLength [.ref p] H Q E := ⟨p, tp, cp, m, lt, tk, cl, rfl, hP, k⟩
theorem h_counts {tp cp p : Addr} {n : Nat} (hP : PartsAt H p m tp tk cp cl lt) (hn : n ≤ 10000) (k : ∀ r a b H', H r = none → H a = none → H b = none → a ≠ b → Same H H' → H' r = some (.tup [.ref a, .ref b]) → H' a = some (.lst (fV (tak tk) n)) → H' b = some (.lst (fV (cal tk cl) n)) → Q (.ref r) H') :
    spCounts [.ref p, .int (n : Int)] H Q E := ⟨p, tp, cp, m, lt, tk, cl, n, rfl, hP, hn, k⟩
theorem h_countsL {tp cp p : Addr} {n : Nat} (hP : PartsAt H p m tp tk cp cl lt) (hn : n ≤ 10000) (k : ∀ r a b H', H r = none → H a = none → H b = none → a ≠ b → Same H H' → H' r = some (.tup [.ref a, .ref b]) → H' a = some (.lst (fV (tak tk) (OfNat.ofNat n : Nat))) → H' b = some (.lst (fV (cal tk cl) (OfNat.ofNat n : Nat))) → Q (.ref r) H') :
    spCounts [.ref p, .int (OfNat.ofNat n : Int)] H Q E := h_counts hP hn k
theorem ixF {f : Nat → Nat} {n i : Nat} {p : Addr} (hq : H p = some (.lst (fV f n))) (hi : i ≤ n) (k : Q (vn (f i)) H) : rIxL K (.ref p) (.int (i : Int)) H Q := ixL (SqL.of hq) (atn (fV_at hi)) k
theorem ixF1 {f : Nat → Nat} {n i : Nat} {p : Addr} (hq : H p = some (.lst (fV f n))) (hi : i + 1 ≤ n) (k : Q (vn (f (i + 1))) H) : rIxL K (.ref p) (.int ((i : Int) + 1)) H Q := ixL (SqL.of hq) (by rw [show ((i : Int) + 1) = ((i + 1 : Nat) : Int) by omega]; exact atn (fV_at hi)) k
theorem h_equal {n : Nat} {v u : V} (h : Sm K n H v u) (k : ∀ H', Same H H' → Q (.bl true) H') : spEqOf (Sm K n) [v, u] H Q E := ⟨v, u, rfl, h, k⟩
theorem h_make {tp cp : Addr} (hP : Parts m tk cl lt) (htp : H tp = some (.tup (tk.map vn))) (hcp : H cp = some (.tup (cl.map vn))) (k : ∀ h lp H', H h = none → H lp = none → Same H H' → HallAt C H' h m tk cl lt lp → Q (.ref h) H') :
    makeK C (spInit C) [] E Q [vn m, .ref tp, .ref cp, vn lt] H := fun x dx nx ndx nex => by
  have S1 : Same H (upd (upd H dx (.own x)) x (.ins C dx [])) := fun b o e => by
    rw [upd_ne (ne_of_none e nx), upd_ne (ne_of_none e ndx)]
    exact e
  refine ⟨x, dx, tp, cp, m, lt, tk, cl, rfl, upd_same, S1 _ _ htp, S1 _ _ hcp, hP, fun H' lp B n hA => ⟨rfl, ?_⟩⟩
  exact k x lp H' nx (S1.free n) (fun b o e => B b o (ne_of_none e nx) (S1 b o e)) hA
/-- the parts' items -/
theorem p_0 {tp cp p : Addr} (hP : PartsAt H p m tp tk cp cl lt) (k : Q (vn m) H) : rIxT K (.ref p) (.int 0) H Q := ixT (SqT.of hP.at_) (at3 (j := 0) rfl) k
theorem p_1 {tp cp p : Addr} (hP : PartsAt H p m tp tk cp cl lt) (k : H tp = some (.tup (tk.map vn)) → Q (.ref tp) H) : rIxT K (.ref p) (.int 1) H Q := ixT (SqT.of hP.at_) (at3 (j := 1) rfl) (k hP.tkA)
theorem p_2 {tp cp p : Addr} (hP : PartsAt H p m tp tk cp cl lt) (k : H cp = some (.tup (cl.map vn)) → Q (.ref cp) H) : rIxT K (.ref p) (.int 2) H Q := ixT (SqT.of hP.at_) (at3 (j := 2) rfl) (k hP.clA)
theorem p_3 {tp cp p : Addr} (hP : PartsAt H p m tp tk cp cl lt) (k : Q (vn lt) H) : rIxT K (.ref p) (.int 3) H Q := ixT (SqT.of hP.at_) (at3 (j := 3) rfl) k
end Rd
end Tk

/-! ### Data: what a value is worth -/
namespace Tk
open PySem PySem.Spec PyProof.Rows L2
abbrev dN (n : Nat) : PyData := .int (n : Int)
/-- data without dicts and bools, at most n deep, no list too long -/
def Sml : Nat → PyData → Prop
  | 0, _ => False
  | n + 1, .list xs => xs.length ≤ 100000 ∧ ∀ x ∈ xs, Sml n x
  | n + 1, .tuple xs => xs.length ≤ 100000 ∧ ∀ x ∈ xs, Sml n x
  | _ + 1, .dict _ => False
  | _ + 1, .bool _ => False
  | _ + 1, .none => True
  | _ + 1, .int _ => True
  | _ + 1, .str x => PyData.strOk x = true
theorem Sml.ints {n : Nat} {ns : List Nat} (h : ns.length ≤ 100000) : Sml (n + 2) (.list (ns.map dN)) := ⟨by rw [List.length_map]; exact h, fun x hx => by
  obtain ⟨m, _, rfl⟩ := List.mem_map.mp hx
  trivial⟩
theorem Sml.intsT {n : Nat} {ns : List Nat} (h : ns.length ≤ 100000) : Sml (n + 2) (.tuple (ns.map dN)) := ⟨by rw [List.length_map]; exact h, fun x hx => by
  obtain ⟨m, _, rfl⟩ := List.mem_map.mp hx
  trivial⟩
theorem Sml.mono : ∀ {n : Nat} {d : PyData}, Sml n d → Sml (n + 1) d
  | 0, _, h => h.elim
  | n + 1, .list xs, h => ⟨h.1, fun x hx => (h.2 x hx).mono⟩
  | n + 1, .tuple xs, h => ⟨h.1, fun x hx => (h.2 x hx).mono⟩
  | n + 1, .dict _, h => h.elim
  | n + 1, .bool _, h => h.elim
  | n + 1, .none, _ => trivial
  | n + 1, .int _, _ => trivial
  | n + 1, .str _, h => h
theorem Sml.up {n m : Nat} {d : PyData} (h : Sml n d) (l : n ≤ m) : Sml m d := by
  induction l with
  | refl => exact h
  | step _ ih => exact ih.mono
theorem canAll : ∀ {xs : List PyData}, (∀ x ∈ xs, x.canLay0 = true) → PyData.canLayAll0 xs = true
  | [], _ => rfl
  | x :: xs, h => by
    simp only [PyData.canLayAll0, h x List.mem_cons_self, canAll fun y hy => h y (List.mem_cons_of_mem _ hy), Bool.and_self]
theorem depAll {n : Nat} : ∀ {xs : List PyData}, (∀ x ∈ xs, x.depth ≤ n) → PyData.depthAll xs ≤ n
  | [], _ => Nat.zero_le _
  | x :: xs, h => by
    have a := h x List.mem_cons_self
    have b := depAll fun y hy => h y (List.mem_cons_of_mem x hy)
    show max _ _ ≤ n
    omega
theorem sml_lay : ∀ {n : Nat} {d : PyData}, Sml n d → d.canLay0 = true ∧ d.depth ≤ n
  | 0, _, h => h.elim
  | n + 1, .list xs, h => by
    have z := fun x hx => sml_lay (h.2 x hx)
    exact ⟨by simpa [PyData.canLay0] using canAll fun x hx => (z x hx).1, Nat.succ_le_succ (depAll fun x hx => (z x hx).2)⟩
  | n + 1, .tuple xs, h => by
    have z := fun x hx => sml_lay (h.2 x hx)
    exact ⟨by simpa [PyData.canLay0] using canAll fun x hx => (z x hx).1, Nat.succ_le_succ (depAll fun x hx => (z x hx).2)⟩
  | n + 1, .dict _, h => h.elim
  | n + 1, .bool _, h => h.elim
  | n + 1, .none, _ => ⟨rfl, Nat.zero_le _⟩
  | n + 1, .int _, _ => ⟨rfl, Nat.zero_le _⟩
  | n + 1, .str x, h => ⟨by have h : PyData.strOk x = true := h; simpa [PyData.canLay0] using h, Nat.zero_le _⟩
theorem sml_shaped {n : Nat} {d : PyData} (h : Sml n d) (hn : n ≤ 64) : SeqAt.shaped d = true := by
  obtain ⟨a, b⟩ := sml_lay h
  unfold SeqAt.shaped
  rw [a, decide_eq_true (Nat.le_trans b hn)]
  rfl
theorem eqvAll_iff : ∀ {xs ys : List PyData}, (∀ x ∈ xs, ∀ y ∈ ys, PyData.eqv x y = true ↔ x = y) → (PyData.eqvAll xs ys = true ↔ xs = ys)
  | [], [], _ => by simp [PyData.eqvAll]
  | [], _ :: _, _ => by simp [PyData.eqvAll]
  | _ :: _, [], _ => by simp [PyData.eqvAll]
  | x :: xs, y :: ys, h => by
    rw [PyData.eqvAll, Bool.and_eq_true, h x List.mem_cons_self y List.mem_cons_self, eqvAll_iff fun a ha b hb => h a (List.mem_cons_of_mem _ ha) b (List.mem_cons_of_mem _ hb), List.cons.injEq]
theorem eqv_iff : ∀ {n : Nat} {d e : PyData}, Sml n d → Sml n e → (PyData.eqv d e = true ↔ d = e)
  | 0, _, _, h, _ => h.elim
  | n + 1, .list xs, e, h, g => by
    cases e with
    | list ys =>
      rw [PyData.eqv, eqvAll_iff fun x hx y hy => eqv_iff (h.2 x hx) (g.2 y hy)]
      simp
    | _ => simp [PyData.eqv]
  | n + 1, .tuple xs, e, h, g => by
    cases e with
    | tuple ys =>
      rw [PyData.eqv, eqvAll_iff fun x hx y hy => eqv_iff (h.2 x hx) (g.2 y hy)]
      simp
    | _ => simp [PyData.eqv]
  | n + 1, .dict _, _, h, _ => h.elim
  | n + 1, .bool _, _, h, _ => h.elim
  | n + 1, .none, e, _, _ => by cases e <;> simp [PyData.eqv]
  | n + 1, .int i, e, _, g => by
    cases e with
    | bool _ => exact g.elim
    | _ => simp [PyData.eqv]
  | n + 1, .str _, e, _, _ => by cases e <;> simp [PyData.eqv]
section
variable {K : PySem.W.Frag} {H H' : Hp}
theorem dp_sm {v : V} {d : PyData} (S : Same H H') : L2.Dp K H v d → L2.Dp K H' v d := fun h => by
  refine L2.Dp.rec (motive_1 := fun v d _ => L2.Dp K H' v d) (motive_2 := fun vs ds _ => DpAll K H' vs ds) .non .bl .int .str (fun h1 _ ih => .lst (S.seq h1) ih) (fun h1 _ ih => .tup (sqt_sm S h1) ih) .nil (fun _ _ i1 i2 => .cons i1 i2) h
theorem dpA_sm {vs : List V} {ds : List PyData} (S : Same H H') (h : DpAll K H vs ds) : DpAll K H' vs ds := by
  induction vs generalizing ds with
  | nil => cases h; exact .nil
  | cons v vs ih =>
    cases h with
    | cons h1 h2 => exact .cons (dp_sm S h1) (ih h2)
theorem dpA_len {vs : List V} {ds : List PyData} (h : DpAll K H vs ds) : vs.length = ds.length := by
  induction vs generalizing ds with
  | nil => cases h; rfl
  | cons v vs ih =>
    cases h with
    | cons h1 h2 => rw [List.length_cons, List.length_cons, ih h2]
theorem dpA_at {vs : List V} {ds : List PyData} (h : DpAll K H vs ds) {i : Nat} {v : V} (hv : vs[i]? = some v) : ∃ d, ds[i]? = some d ∧ L2.Dp K H v d := by
  induction vs generalizing ds i with
  | nil => cases hv
  | cons v vs ih =>
    cases h with
    | cons h1 h2 =>
      cases i with
      | zero => cases hv; exact ⟨_, rfl, h1⟩
      | succ i => exact ih h2 hv
theorem dpA_app {vs us : List V} {ds es : List PyData} (h : DpAll K H vs ds) (g : DpAll K H us es) : DpAll K H (vs ++ us) (ds ++ es) := by
  induction vs generalizing ds with
  | nil => cases h; exact g
  | cons v vs ih =>
    cases h with
    | cons h1 h2 => exact .cons h1 (ih h2)
theorem dpA_map {α : Type} {l : List α} {f : α → V} {g : α → PyData} (h : ∀ x ∈ l, L2.Dp K H (f x) (g x)) : DpAll K H (l.map f) (l.map g) := by
  induction l with
  | nil => exact .nil
  | cons a l ih => exact .cons (h a List.mem_cons_self) (ih fun x hx => h x (List.mem_cons_of_mem _ hx))
theorem dp_nats (l : List Nat) : DpAll K H (l.map vn) (l.map dN) := dpA_map fun _ _ => .int _
theorem dp_int {i : Int} : L2.Dp K H (.int i) (.int i) := .int i
theorem dp_ofall {vs : List V} {n : Nat} (g : Nat → PyData) (hl : vs.length = n) (h : ∀ (i : Nat) v, vs[i]? = some v → L2.Dp K H v (g i)) : DpAll K H vs ((List.range n).map g) := by
  induction vs generalizing n g with
  | nil => subst hl; exact .nil
  | cons v vs ih =>
    subst hl
    rw [List.length_cons, List.range_succ_eq_map, List.map_cons, List.map_map]
    exact .cons (h 0 v rfl) (ih (fun i => g (i + 1)) rfl fun i v hv => h (i + 1) v hv)
/-- the same data -/
theorem Sm.dp : ∀ {n : Nat} {d : PyData} {v u : V}, L2.Dp K H v d → L2.Dp K H u d → Sml n d → Sm K n H v u
  | 0, _, _, _, _, _, h => h.elim
  | n + 1, _, _, _, .non, .non, _ => .inl ⟨rfl, rfl⟩
  | n + 1, _, _, _, .int _, .int _, _ => .inl ⟨rfl, rfl⟩
  | n + 1, _, _, _, .str _, .str _, _ => .inl ⟨rfl, rfl⟩
  | n + 1, _, _, _, .bl _, .bl _, h => h.elim
  | n + 1, _, _, _, .lst h1 a1, .lst h2 a2, h => by
    have l1 := (dpA_len a1)
    have l2 := (dpA_len a2)
    refine .inr (.inl ⟨_, _, _, _, rfl, rfl, h1, h2, by omega, by have := h.1; omega, fun i x y hx hy => ?_⟩)
    obtain ⟨d, hd, r⟩ := dpA_at a1 hx
    obtain ⟨e, he, q⟩ := dpA_at a2 hy
    obtain rfl := Option.some.inj (hd.symm.trans he)
    exact Sm.dp r q (h.2 _ (List.mem_of_getElem? hd))
  | n + 1, _, _, _, .tup h1 a1, .tup h2 a2, h => by
    have l1 := (dpA_len a1)
    have l2 := (dpA_len a2)
    refine .inr (.inr ⟨_, _, _, _, rfl, rfl, h1, h2, by omega, by have := h.1; omega, fun i x y hx hy => ?_⟩)
    obtain ⟨d, hd, r⟩ := dpA_at a1 hx
    obtain ⟨e, he, q⟩ := dpA_at a2 hy
    obtain rfl := Option.some.inj (hd.symm.trans he)
    exact Sm.dp r q (h.2 _ (List.mem_of_getElem? hd))
namespace Rd
variable {Q : VK} {E : XK}
theorem h_eqd {n : Nat} {v u : V} {d : PyData} (h1 : L2.Dp K H v d) (h2 : L2.Dp K H u d) (hd : Sml n d) (k : ∀ H', Same H H' → Q (.bl true) H') : spEqOf (Sm K n) [v, u] H Q E := ⟨v, u, rfl, Sm.dp h1 h2 hd, k⟩
open Classical in
theorem eqd {v u : V} {d e : PyData} (h1 : L2.Dp K H v d) (h2 : L2.Dp K H u e) (hd : Sml 8 d) (he : Sml 8 e) (k : Q (.bl (decide (d = e))) H) : rEqD K v u H Q := by
  refine ⟨d, e, h1, h2, sml_shaped hd (by decide), sml_shaped he (by decide), ?_⟩
  have z : PyData.eqv d e = decide (d = e) := by
    by_cases c : d = e
    · rw [(eqv_iff hd he).mpr c, decide_eq_true c]
    · rw [decide_eq_false c]
      cases q : PyData.eqv d e with
      | false => rfl
      | true => exact absurd ((eqv_iff hd he).mp q) c
  rw [z]
  exact k
open Classical in
theorem ned {v u : V} {d e : PyData} (h1 : L2.Dp K H v d) (h2 : L2.Dp K H u e) (hd : Sml 8 d) (he : Sml 8 e) (k : Q (.bl (!decide (d = e))) H) : rNeD K v u H Q := by
  refine ⟨d, e, h1, h2, sml_shaped hd (by decide), sml_shaped he (by decide), ?_⟩
  have z : PyData.eqv d e = decide (d = e) := by
    by_cases c : d = e
    · rw [(eqv_iff hd he).mpr c, decide_eq_true c]
    · rw [decide_eq_false c]
      cases q : PyData.eqv d e with
      | false => rfl
      | true => exact absurd ((eqv_iff hd he).mp q) c
  rw [z]
  exact k
end Rd
end
end Tk

/-! ### _law_error_of: the error of a call, told as data -/
namespace Tk
open PySem PySem.Spec PyProof.Rows L2
theorem boot_ty_ValueError : bootBuiltins "ValueError" = some (.type "ValueError") := PyProof.Rows.Boot.«ValueError»
namespace Ex
section
variable {X : Cx}
/-- list.count of a flat item -/
def rCntF (K : PySem.W.Frag) : V → List V → Hp → VK → Prop := fun x xs H Q => ∃ (p : Addr) (ys : List V) (y : V), x = .ref p ∧ xs = [y] ∧ SqL K H p ys ∧ flatV y = true ∧ ys.all flatV = true ∧ Q (.int (ys.countP (fun z => eqV z y) : Nat)) H
theorem count_of {y : V} {uy : Value} (ry : RelV y uy) (fy : flatV y = true) : ∀ {ys : List V} {its : List Value}, Vals ys its → ys.all flatV = true → its.countP (eqU y) = ys.countP (fun z => eqV z y)
  | _, _, .nil, _ => rfl
  | z :: zs, u :: us, .cons rz rt, f => by
    obtain ⟨f1, f2⟩ := He.ba (show (flatV z && zs.all flatV) = true from f)
    rw [List.countP_cons, List.countP_cons, count_of ry fy rt f2, eqU_of rz f1]
theorem mt_countF {K : PySem.W.Frag} (hK : X.K = K := by rfl) : MtR X "list.count" (rCntF K) := by
  subst hK
  intro pins s σ H x xs v us Q I rx rxs h
  obtain ⟨p, ys, y, rfl, rfl, hs, fy, fys, q⟩ := h
  cases rx
  cases rxs with
  | cons ry rt =>
    rename_i uy ut
    cases rt
    obtain ⟨its, rv, ⟨⟨cls, dd, data, sl⟩, n, ho, hc, hdn, hd⟩, hlen⟩ := I.list hs
    simp only at hc hd
    subst hc hd
    refine call_meets PySem.F.slot_list_count ⟨_, ho, rfl⟩ PySem.F.entry_list_count (PySem.F.args_list_count_2 _ _)
      (SeqAt.list_countAt p its.toArray n dd sl uy (eqU y)) ⟨ho, fun u' hu' => mem_eqAt ry fy rv fys u' (by simpa using hu'), ?_⟩
    have ec : its.toArray.toList.countP (eqU y) = ys.countP (fun z => eqV z y) := count_of ry fy rv fys
    refine ⟨.int (ys.countP (fun z => eqV z y) : Nat), H, I.tok _, ⟨s.toks, ?_⟩, q⟩
    show Value.int ((its.toArray.toList.countP (eqU y) : Nat) : Int) s.toks = Value.int ((ys.countP (fun z => eqV z y) : Nat) : Int) s.toks
    rw [ec]
end
theorem mt_indexK {X : Cx} {K : PySem.W.Frag} (hK : X.K = K := by rfl) : MtR X "list.index" (rIndex K) := hK ▸ mt_index
theorem pe_bmK {X : Cx} {K : PySem.W.Frag} {T : String} {name : Str} {id : String} {r : V → List V → Hp → VK → Prop} {o e : Expr} {es : List Expr} {to : TE} {t : TA} {apos cpos : Pos} (pa : PlainAttrs T) (slot : Slot T name id) (hty : typeOf (.builtin id) = pure (.type "method_descriptor")) (hm : MtR X id r) (ho : PE X o to) (ha : PA X (e :: es) t)
    (hK : X.K = K := by rfl) (hbase : attributeBase o name X.env (eval o X.env) = eval o X.env := by rfl)
    (hfew : ((backTo cpos (starEach (e :: es) X.env)).all (fun x => !x.1) && (backToKw cpos (keywordEach [] X.env)).all (fun x => x.1.isSome)
      && decide ((e :: es).length + ([] : List Keyword).length + (if ([] : List Keyword).isEmpty then 0 else 1) < 30)) = true := by rfl)
    (hline : (apos.endLine == cpos.line) = true := by rfl) (hs : starEach (e :: es) X.env = (false, eval e X.env) :: starEach es X.env := by rfl) (hplain : (backTo cpos (starEach es X.env)).any (·.1) = false := by rfl) :
    PE X (.Call (.Attribute o name apos) (e :: es) [] cpos) (tBM K T r to t) := by
  subst hK
  exact pe_bm pa slot hty hm ho ha hbase hfew hline hs hplain
/-! reading an attribute of the caught error -/
def tXfE (K : PySem.W.Frag) (a : Addr) (cls : Value) (d : Option Addr) (f : Str) (te : TE) : TE := fun σ H Q => te σ H fun x H1 => ∃ C, x = .ref a ∧ cls = .ref C ∧ IsX K C ∧ PySem.W.findIn K (.ref C) f = some none ∧ ∃ (dd : Addr) (fs : List (Str × V)) (v : V), d = some dd ∧ H1 dd = some (.xd fs) ∧ fs.lookup f = some v ∧ Q v H1
theorem pe_xfE {X : Cx} {a : Addr} {oe : Obj} {cls : Value} {d : Option Addr} {e : Expr} {te : TE} {pos : Pos} {n : Str} {K : PySem.W.Frag} (he : PE X e te)
    (hz : Zc cls d oe) (hf : ∃ vs, oe.data = .fields vs) (hK : X.K = K := by rfl) (hp : (a, oe) ∈ X.pn := by exact List.mem_cons_self) (hb : attributeBase e n X.env (eval e X.env) = eval e X.env := by rfl) :
    PE X (.Attribute e n pos) (tXfE K a cls d n te) := by
  subst hK
  refine ⟨fun pins s σ H Q I h => ?_⟩
  refine attr_of hb (thn (he.run pins s σ H _ I h) fun u s1 hh => ?_)
  obtain ⟨x, H1, I1, rx, C, ex, ec, T, hno, dd, fs, v, ed, ea, l, q⟩ := hh
  subst ex
  obtain rfl : u = Value.ref a := rx
  subst ec
  subst ed
  obtain ⟨ha, _⟩ := I1.pin (a, oe) (List.mem_append_left _ hp)
  obtain ⟨vs, hd⟩ := hf
  have hx : ObjOk X.prog X.w H1 s1.heap dd (.xd fs) := I1.hok dd _ ea
  obtain ⟨mA, hns, hr⟩ := hx
  obtain ⟨od, ho, hl⟩ := lookIn_ns hns
  obtain ⟨u, hu, ru⟩ := RelO.some_of (v := v) (o := mA n) (by rw [← l]; exact hr n)
  have J : PySem.W.InstAt s1.heap a oe C (some od) := ⟨ha, hz.1, by unfold PySem.W.notCls; rw [hd] <;> rfl, by rw [hz.2]; exact ho⟩
  exact HandSPX.exc_get I1.kIn J T.hg T.hk T.hs (PySem.W.findObj_own T.hd hno rfl (by rw [hl, hu])) (handed_of ru) ⟨v, H1, I1.tok _, ru, q⟩
/-! what error there is -/
inductive Er where
  | one (x : Str)
  | hall (y : Str) (i : Int)
  | at_ (x : Str) (i : Int)
def ones : List (Str × Str) := [("InvalidTick", "tick"), ("InvalidNumber", "number"), ("InvalidDigits", "digits"), ("TooMany", "many"), ("InvalidLimit", "limit"), ("Contradiction", "contradiction"), ("InvalidName", "name"), ("UnknownName", "unknown")]
def ats : List (Str × Str × Str) := [("TextFault", "text", "line"), ("InvalidCode", "code", "place"), ("InvalidOperation", "operation", "place")]
def Er.Is (K : PySem.W.Frag) (cls : Value) (d : Option Addr) (H : Hp) : Er → Prop
  | .one n => ∃ x, (x, n) ∈ ones ∧ cls = .ref (He.ga K x) ∧ d = none
  | .hall y i => cls = .ref (He.ga K "InvalidHall") ∧ ∃ dd, d = some dd ∧ H dd = some (.xd [("index", .int i), ("part", .str y)])
  | .at_ n i => ∃ x f, (x, n, f) ∈ ats ∧ cls = .ref (He.ga K x) ∧ ∃ dd, d = some dd ∧ H dd = some (.xd [(f, .int i)])
def Er.data : Er → PyData
  | .one n => .tuple [.str n, .int 0]
  | .hall y i => .tuple [.str "hall", .tuple [.str y, .int i]]
  | .at_ n i => .tuple [.str n, .int i]
def Er.Ok : Er → Prop
  | .one n => n ∈ ones.map (·.2)
  | .hall y _ => y ∈ (["modulus", "takes", "calls", "lateness"] : List Str)
  | .at_ n _ => n ∈ ats.map (·.2.1)
theorem Er.sml {e : Er} (h : e.Ok) {n : Nat} : Sml (n + 3) e.data := by
  have k1 : ∀ x ∈ ones.map (·.2), PyData.strOk x = true := by decide +kernel
  have k2 : ∀ x ∈ (["modulus", "takes", "calls", "lateness"] : List Str), PyData.strOk x = true := by decide +kernel
  have k3 : ∀ x ∈ ats.map (·.2.1), PyData.strOk x = true := by decide +kernel
  have k4 : PyData.strOk ("hall" : Str) = true := by decide +kernel
  cases e with
  | one x => simp [Er.data, Sml, k1 x h]
  | hall y i => simp [Er.data, Sml, k2 y h, k4]
  | at_ x i => simp [Er.data, Sml, k3 x h]
/-- what a def that makes of a call its error does -/
def TTerr (K : PySem.W.Frag) : (XK → Hp → VK → Prop) → Hp → VK → Prop := fun tl H Q =>
  tl (fun cls d H' => ∃ e : Er, e.Is K cls d H' ∧ ∀ r H'', Same H' H'' → L2.Dp K H'' (.ref r) e.data → Q (.ref r) H'') H fun _ H' => Q .non H'
/-- a wish that may count on the slots' number -/
theorem takes_len {X : Cx} {W : WX} (t : Takes X W) : Takes X (fun c d σ H => σ.length = X.N.length → W c d σ H) := fun u s' ⟨a, B, sI, pins, σ, H, cls, d, e, I, nb, up, sky, na, os, ag, w⟩ =>
  t u s' ⟨a, B, sI, pins, σ, H, cls, d, e, I, nb, up, sky, na, os, ag, w I.len⟩
/-- x(lambda: body), x a def that calls what it gets -/
theorem pe_lamE {X : Cx} {T : List (Addr × Str)} {TT : (XK → Hp → VK → Prop) → Hp → VK → Prop} {x a : Str} {g : Addr} {k : Nat} {stg : Stmt} {Ng : List Str} {params : Arguments} {body : Expr} {scope : Scope} {t : XK → TE} {p lpos pos : Pos}
    (hg : Gl X x) (hm : X.mg x = some (.ref g)) (Fg : ∃ fd, FnP X.K x x stg g fd) (Sg : FnScope Ng [a] (defScope stg))
    (hbg : ∀ (kV doc pm : Value) (an : Option Addr) (cdv ct : Value) (us : List Value), us.length = 1 → bindArgs (PySem.W.fnOf x x (defArgs stg) (defBody stg) (defScope stg) .none kV doc pm an cdv ct) ⟨us, []⟩ = pure (([a] : List Str).zip us))
    (hG : ∀ cdg : Value, LamX.GivesTo X Ng x (defScope stg) g cdg (defBody stg) a (X.env.qual ++ "<lambda>") TT)
    (tx : TabX X T) (hr : Room (k + 2) X.A) (L : LamX.LamS X.env.scope scope) (hdef : defaultsOf params X.env = ([], []))
    (hbind : ∀ (q : Str) (cl : List (Str × Addr)) (pm cv ctv : Value), bindArgs (PySem.W.kla_fn "<lambda>" q params body scope cl pm cv ctv) ⟨[], []⟩ = pure [])
    (hbody : ∀ (A : Around) (outer : List Env) (s : Shared) (H : Hp) (E : XK) (f c' : Addr), Room k (A.deeper (LamX.lamEnv X scope s.heap.objs.size f c')) → PE (LamX.lamCx X A outer s H E scope f c') body (t E))
    (hN : Ng[0]? = some a := by rfl) (hva : Vis (defScope stg) a := by first | exact .inl rfl | exact .inl (by decide +kernel)) (hdb : (x == ("__debug__" : Str)) = false := by decide) (hd : (a == ("__debug__" : Str)) = false := by decide) (hcd0 : (a == ("__classdict__" : Str)) = false := by decide) :
    PE X (.Call (.Name x p) [.Lambda params body scope lpos] [] pos) (LamX.tLam T TT t) := by
  obtain ⟨c, P, TB, hcode, hmT, hu⟩ := tx
  obtain ⟨fd, Fg⟩ := Fg
  have hB := Fg.bindsN (ps := [a]) hbg
  have kp := Fg.kp
  obtain ⟨oc, od, dV, kV, doc, pm, an, cdv, ct, osl, rfl, lk, hcd, _, _⟩ := Fg.ex
  exact LamX.pe_lamcall hg hm kp lk hcd hB Sg hN hva (hG cdv) TB hcode hmT hu hr L hdef hbind hbody hdb hd hcd0
end Ex
end Tk

section
local macro_rules | `(tactic| walk_at "hp") => `(tactic| first
  | assumption
  | with_reducible exact L2.upd_same
  | ((with_reducible refine' Tk.Same.get ?k0 ?k1); (case k0 => assumption); (case k1 => walk_at "hp"))
  | fail "hp")
local macro_rules | `(tactic| walk_at "same") => `(tactic| first
  | assumption
  | exact L2.Same.refl _
  | ((with_reducible refine' Tk.Same.nw ?k0 ?k1); (case k0 => assumption); (case k1 => walk_at "same"))
  | ((with_reducible refine' Tk.Same.tr ?k0 ?k1); (case k0 => assumption); (case k1 => walk_at "same")))
local macro_rules | `(tactic| walk_at "sql") => `(tactic| first
  | assumption
  | ((with_reducible refine' L2.SqL.of ?k0); (case k0 => walk_at "hp"))
  | ((with_reducible refine' L2.Same.seq ?k0 ?k1); (case k0 => assumption); (case k1 => walk_at "sql")))
local macro_rules | `(tactic| walk_at "sqt") => `(tactic| first
  | assumption
  | ((with_reducible refine' L2.SqT.of ?k0); (case k0 => walk_at "hp"))
  | ((with_reducible refine' Tk.sqt_sm ?k0 ?k1); (case k0 => assumption); (case k1 => walk_at "sqt")))
local macro_rules | `(tactic| walk_at "sz") => `(tactic| first
  | (show (_ : Nat) ≤ 1000; decide)
  | (simp; done)
  | (simp; omega))
local macro_rules | `(tactic| walk_at "szb") => `(tactic| first
  | assumption
  | (show (_ : Nat) ≤ 100000; decide)
  | (simp; done)
  | (simp; omega))
local macro_rules | `(tactic| walk_at "dp") => `(tactic| first
  | assumption
  | with_reducible exact L2.Dp.non
  | with_reducible exact L2.Dp.int _
  | with_reducible exact L2.Dp.str _
  | with_reducible exact L2.Dp.bl _
  | ((with_reducible refine' L2.Dp.lst ?k0 ?k1); (case k0 => walk_at "sql"); (case k1 => walk_at "dpa"))
  | ((with_reducible refine' L2.Dp.tup ?k0 ?k1); (case k0 => walk_at "sqt"); (case k1 => walk_at "dpa"))
  | ((with_reducible refine' Tk.dp_sm ?k0 ?k1); (case k0 => assumption); (case k1 => walk_at "dp"))
  | fail "dp")
local macro_rules | `(tactic| walk_at "dpa") => `(tactic| first
  | assumption
  | with_reducible exact L2.DpAll.nil
  | ((with_reducible refine' L2.DpAll.cons ?k0 ?k1); (case k0 => walk_at "dp"); (case k1 => walk_at "dpa"))
  | with_reducible exact Tk.dp_nats _
  | ((with_reducible refine' Tk.dpA_sm ?k0 ?k1); (case k0 => assumption); (case k1 => walk_at "dpa"))
  | fail "dpa")
local macro_rules | `(tactic| walk_at "ci") => `(tactic| first
  | exact .inl ⟨by decide, by decide⟩
  | exact .inr ⟨by decide, by decide⟩
  | exact .inl ⟨by omega, by omega⟩
  | exact .inr ⟨by omega, by omega⟩
  | exact ⟨by decide, by decide⟩
  | exact ⟨by omega, by omega⟩
  | (show (0 : Int) < _; decide)
  | (show (0 : Int) < _; omega))
local macro_rules | `(tactic| walk_at "rd1") => `(tactic| first
  | with_reducible refine Tk.Rd.seq ?_
  | with_reducible refine Tk.Rd.star ?_
  | with_reducible refine Tk.Rd.int1_i ?_
  | with_reducible refine Tk.Rd.int1_b ?_
  | with_reducible refine Tk.Rd.tlc2 ?_
  | with_reducible refine Tk.Rd.lrg3 ?_
  | with_reducible refine Tk.Rd.lrg ?_
  | with_reducible refine Tk.Rd.rg1 ?_
  | with_reducible refine Tk.Rd.rg1K_i ?_
  | with_reducible refine Tk.Rd.rg2 ?_
  | with_reducible refine Tk.Rd.rg2K_i ?_
  | ((with_reducible refine' Tk.Rd.catL ?k0 ?k1 ?k2 fun p H' np S hp => ?_); (case k0 => walk_at "hp"); (case k1 => walk_at "hp"); (case k2 => walk_at "szb"))
  | ((with_reducible refine' Tk.Rd.starK_t ?k0 ?_); (case k0 => walk_at "sqt"))
  | ((with_reducible refine' Tk.Rd.starK_l ?k0 ?_); (case k0 => walk_at "sql"))
  | ((with_reducible refine' Tk.Rd.var ?k0 ?_); (case k0 => exact rfl))
  | with_reducible refine Tk.Rd.c ?_
  | with_reducible refine Tk.Rd.op ?_
  | with_reducible refine Tk.Rd.i0 ?_
  | with_reducible refine Tk.Rd.asg ?_
  | with_reducible refine Tk.Rd.name ?_
  | with_reducible refine Tk.Rd.cons ?_
  | with_reducible refine Tk.Rd.nil ?_
  | with_reducible refine Tk.Rd.call ?_
  | with_reducible refine Tk.Rd.callK_i ?_
  | with_reducible refine Tk.Rd.tst ?_
  | with_reducible refine Tk.Rd.bv ?_
  | with_reducible refine Tk.Rd.toB_i ?_
  | with_reducible refine Tk.Rd.ift ?_
  | with_reducible refine Tk.Rd.iff ?_
  | with_reducible refine Tk.Rd.ifnt ?_
  | with_reducible refine Tk.Rd.ifnf ?_
  | with_reducible refine Tk.Rd.not ?_
  | with_reducible refine Tk.Rd.and ?_
  | with_reducible refine Tk.Rd.or ?_
  | with_reducible refine Tk.Rd.andV ?_
  | with_reducible refine Tk.Rd.andK_i ?_
  | with_reducible refine Tk.Rd.orV ?_
  | with_reducible refine Tk.Rd.orK_i ?_
  | with_reducible refine Tk.Rd.notV ?_
  | with_reducible refine Tk.Rd.notK_i ?_
  | with_reducible refine Tk.Rd.tif ?_
  | with_reducible refine Tk.Rd.yes ?_
  | with_reducible refine Tk.Rd.tfor ?_
  | with_reducible refine Tk.Rd.tlc ?_
  | with_reducible refine Tk.Rd.rng ?_
  | ((with_reducible refine' Tk.Rd.rngK_n ?k0 ?_); (case k0 => first | decide | omega))
  | ((with_reducible refine' Tk.Rd.rngK_lit ?k0 ?_); (case k0 => decide))
  | with_reducible refine Tk.Rd.rng2 ?_
  | with_reducible refine Tk.Rd.rng3 ?_
  | with_reducible refine Tk.Rd.ilist ?_
  | with_reducible refine Tk.Rd.zip ?_
  | with_reducible refine Tk.Rd.itup ?_
  | ((with_reducible refine' Tk.Rd.listK_i ?k0 ?_); (case k0 => walk_at "sql"))
  | ((with_reducible refine' Tk.Rd.ituK_i ?k0 ?_); (case k0 => walk_at "sqt"))
  | with_reducible refine Tk.Rd.chain ?_
  | with_reducible refine Tk.Rd.chainL_i ?_
  | with_reducible refine Tk.Rd.un ?_
  | with_reducible refine Tk.Rd.u1 ?_
  | ((with_reducible refine' Tk.Rd.i1 ?k0 ?_); (case k0 => walk_at "ci"))
  | ((with_reducible refine' Tk.Rd.eq ?k0 ?_); (case k0 => exact rfl))
  | ((with_reducible refine' Tk.Rd.ne ?k0 ?_); (case k0 => exact rfl))
  | with_reducible refine Tk.Rd.isN ?_
  | with_reducible refine Tk.Rd.notN ?_
  | with_reducible refine Tk.Rd.fld ?_
  | with_reducible refine Tk.Rd.meth ?_
  | with_reducible refine Tk.Rd.methR ?_
  | with_reducible refine Tk.Rd.prop ?_
  | with_reducible refine Tk.Rd.cb ?_
  | with_reducible refine Tk.Rd.bm ?_
  | with_reducible refine Tk.Rd.m0 ?_
  | with_reducible refine Tk.Rd.m0K_i ?_
  | with_reducible refine Tk.Rd.m1 ?_
  | with_reducible refine Tk.Rd.m1K_i ?_
  | with_reducible refine Tk.Rd.tup ?_
  | ((with_reducible refine' Tk.Rd.tupK_i ?k0 fun p H' np S hp => ?_); (case k0 => walk_at "sz"))
  | with_reducible refine Tk.Rd.lst ?_
  | ((with_reducible refine' Tk.Rd.lstK_i ?k0 fun p H' np S hp => ?_); (case k0 => walk_at "sz"))
  | ((with_reducible refine' Tk.Rd.ixF ?k0 ?k1 ?_); (case k0 => walk_at "hp"); (case k1 => omega))
  | ((with_reducible refine' Tk.Rd.ixF1 ?k0 ?k1 ?_); (case k0 => walk_at "hp"); (case k1 => omega))
  | ((with_reducible refine' Tk.Rd.ixT ?k0 ?k1 ?_); (case k0 => walk_at "sqt"); (case k1 => exact rfl))
  | ((with_reducible refine' Tk.Rd.ixL ?k0 ?k1 ?_); (case k0 => walk_at "sql"); (case k1 => exact rfl))
  | ((with_reducible refine' Tk.Rd.lenL ?k0 ?_); (case k0 => walk_at "sql"))
  | ((with_reducible refine' Tk.Rd.lenT ?k0 ?_); (case k0 => walk_at "sqt"))
  | ((with_reducible refine' Tk.Rd.lenS ?k0 ?_); (case k0 => first | assumption | omega | (simp; omega)))
  | ((with_reducible refine' Tk.Rd.slTr ?k0 fun p H' S hp => ?_); (case k0 => walk_at "hp"))
  | ((with_reducible refine' Tk.Rd.slT ?k0 fun p H' S hq => ?_); (case k0 => walk_at "sqt"))
  | ((with_reducible refine' Tk.Rd.catTr ?k0 ?k1 ?k2 fun p H' S hp => ?_); (case k0 => walk_at "hp"); (case k1 => walk_at "hp"); (case k2 => walk_at "sz"))
  | ((with_reducible refine' Tk.Rd.catA ?k0 ?k1 ?k2 ?k3 ?k4 fun p H' np S hp => ?_); (case k0 => walk_at "sqt"); (case k1 => walk_at "sqt"); (case k2 => simp); (case k3 => simp); (case k4 => first | (simp; done) | (simp; omega)))
  | with_reducible refine Tk.Rd.make ?_
  | ((with_reducible refine' Tk.Rd.tplL ?k0 fun q H' nq S hq => ?_); (case k0 => walk_at "sql"))
  | ((with_reducible refine' Tk.Rd.lstL ?k0 fun q H' nq S hq => ?_); (case k0 => walk_at "sql"))
  | ((with_reducible refine' Tk.Rd.lstT ?k0 fun q H' nq S hq => ?_); (case k0 => walk_at "sqt"))
  | ((with_reducible refine' Tk.Rd.join ?k0 ?k1 ?_); (case k0 => walk_at "sql"); (case k1 => first | assumption | omega))
  | with_reducible refine Tk.Rd.mx ?_
  | with_reducible refine Tk.Rd.mn ?_
  | with_reducible refine Tk.Rd.noPart ?_
  | with_reducible refine Tk.Rd.part ?_
  | with_reducible refine Tk.Rd.partK_i ?_
  | with_reducible refine Tk.Rd.slc ?_
  | ((with_reducible refine' Tk.Rd.gtup ?k0 ?k1 ?_); (case k0 => walk_at "sqt"); (case k1 => exact rfl))
  | ((with_reducible refine' Tk.Rd.glst ?k0 ?k1 ?_); (case k0 => walk_at "sql"); (case k1 => exact rfl))
  | with_reducible refine Tk.Rd.gcons ?_
  | with_reducible refine Tk.Rd.gnil ?_
  | with_reducible refine Tk.Rd.next ?_
  | with_reducible refine Tk.Rd.drop ?_
  | with_reducible refine Tk.Rd.ret ?_
  | with_reducible refine Tk.Rd.retN ?_
  | with_reducible refine Tk.Rd.par ?_
  | with_reducible refine Tk.Rd.parK_i ?_
  | with_reducible refine Tk.Rd.par3 ?_
  | with_reducible refine Tk.Rd.par3K_i ?_
  | ((with_reducible refine' Tk.Rd.aug ?k0 ?_); (case k0 => exact rfl))
  | with_reducible refine Tk.Rd.ip ?_
  | ((with_reducible refine' Tk.Rd.bmK_l ?k0 ?_); (case k0 => walk_at "sql"))
  | ((with_reducible refine' Tk.Rd.addS ?k0 ?_); (case k0 => walk_at "sz"))
  | fail "rd1")
local macro_rules | `(tactic| walk_at "rd1i") => `(tactic| first
  | walk_at "rd1"
  | with_reducible refine Tk.Rd.ifS ?_
  | fail "rd1i")
local macro_rules | `(tactic| walk_at "rd") => `(tactic| (repeat' walk_at "rd1i"))
local macro_rules | `(tactic| walk_at "rs") => `(tactic| ((repeat' walk_at "rd1"); (try dsimp only)))
local macro_rules | `(tactic| walk_at "hall") => `(tactic| first
  | assumption
  | ((with_reducible refine' Tk.HallAt.sm ?k0 ?k1); (case k0 => assumption); (case k1 => walk_at "hall"))
  | fail "hall")
local macro_rules | `(tactic| walk_at "parts") => `(tactic| first
  | assumption
  | ((with_reducible refine' Tk.PartsAt.sm ?k0 ?k1); (case k0 => assumption); (case k1 => walk_at "parts"))
  | fail "parts")
local macro_rules | `(tactic| walk_at "sm") => `(tactic| first
  | assumption
  | exact Tk.Sm.int rfl
  | exact Tk.Sm.flat1 rfl
  | ((with_reducible refine' Tk.Sm.sm ?k0 ?k1); (case k0 => assumption); (case k1 => walk_at "sm"))
  | fail "sm")
local macro_rules | `(tactic| walk_at "rd1") => `(tactic| first
  | ((with_reducible refine' Tk.Rd.f_modulus ?k0 ?k1 ?_); (case k0 => assumption); (case k1 => walk_at "hall"))
  | ((with_reducible refine' Tk.Rd.f_lateness ?k0 ?k1 ?_); (case k0 => assumption); (case k1 => walk_at "hall"))
  | ((with_reducible refine' Tk.Rd.f_takes ?k0 ?k1 fun tp htp => ?_); (case k0 => assumption); (case k1 => walk_at "hall"))
  | ((with_reducible refine' Tk.Rd.f_calls ?k0 ?k1 fun cp hcp => ?_); (case k0 => assumption); (case k1 => walk_at "hall"))
  | ((with_reducible refine' Tk.Rd.h_meth ?k0 ?k1 ?_); (case k0 => walk_at "hall"); (case k1 => decide +kernel))
  | ((with_reducible refine' Tk.Rd.h_prop ?k0 ?_); (case k0 => walk_at "hall"))
  | ((with_reducible refine' Tk.Rd.h_taken0 ?k0 fun H' S => ?_); (case k0 => walk_at "hall"))
  | ((with_reducible refine' Tk.Rd.h_taken1 ?k0 fun H' S => ?_); (case k0 => walk_at "hall"))
  | ((with_reducible refine' Tk.Rd.h_takenL ?k0 fun H' S => ?_); (case k0 => walk_at "hall"))
  | ((with_reducible refine' Tk.Rd.h_called0 ?k0 ?_); (case k0 => walk_at "hall"))
  | ((with_reducible refine' Tk.Rd.h_called1 ?k0 ?_); (case k0 => walk_at "hall"))
  | ((with_reducible refine' Tk.Rd.h_calledL ?k0 ?_); (case k0 => walk_at "hall"))
  | ((with_reducible refine' Tk.Rd.h_waiting ?k0 ?k1 fun H' S => ?_); (case k0 => walk_at "hall"); (case k1 => omega))
  | ((with_reducible refine' Tk.Rd.h_growth ?k0 fun H' S => ?_); (case k0 => walk_at "hall"))
  | ((with_reducible refine' Tk.Rd.h_period ?k0 ?_); (case k0 => walk_at "hall"))
  | ((with_reducible refine' Tk.Rd.h_lhall ?k0 fun h lp H' nh nl S hA => ?_); (case k0 => walk_at "parts"))
  | ((with_reducible refine' Tk.Rd.h_length ?k0 ?_); (case k0 => walk_at "parts"))
  | ((with_reducible refine' Tk.Rd.h_counts ?k0 ?k1 fun r a b H' nr na nb nab S hr ha hb => ?_); (case k0 => walk_at "parts"); (case k1 => omega))
  | ((with_reducible refine' Tk.Rd.h_countsL ?k0 ?k1 fun r a b H' nr na nb nab S hr ha hb => ?_); (case k0 => walk_at "parts"); (case k1 => decide))
  | ((with_reducible refine' Tk.Rd.h_make ?k0 ?k1 ?k2 fun h lp H' nh nl S hA => ?_); (case k0 => assumption); (case k1 => walk_at "hp"); (case k2 => walk_at "hp"))
  | ((with_reducible refine' Tk.Rd.p_0 ?k0 ?_); (case k0 => walk_at "parts"))
  | ((with_reducible refine' Tk.Rd.p_1 ?k0 fun htp => ?_); (case k0 => walk_at "parts"))
  | ((with_reducible refine' Tk.Rd.p_2 ?k0 fun hcp => ?_); (case k0 => walk_at "parts"))
  | ((with_reducible refine' Tk.Rd.p_3 ?k0 ?_); (case k0 => walk_at "parts"))
  | fail "rd1")
local macro_rules | `(tactic| walk_at "sqt") => `(tactic| first | ((with_reducible refine' Tk.PartsAt.sq ?k0); (case k0 => walk_at "parts")) | fail "sqt")
local macro_rules | `(tactic| walk_at "free") => `(tactic| first
  | assumption
  | ((with_reducible refine' Tk.Same.fr ?k0 ?k1); (case k0 => assumption); (case k1 => walk_at "free")))
local macro_rules | `(tactic| walk_at "hp") => `(tactic| first
  | ((with_reducible refine' Tk.But.gt ?k0 ?k1 ?k2); (case k0 => assumption); (case k1 => assumption); (case k2 => walk_at "hp"))
  | ((with_reducible refine' Tk.But.gl ?k0 ?k1 ?k2); (case k0 => assumption); (case k1 => assumption); (case k2 => walk_at "hp"))
  | fail "hp")
local macro_rules | `(tactic| walk_at "hall") => `(tactic| first | ((with_reducible refine' Tk.HallAt.bt ?k0 ?k1 ?k2 ?k3); (case k0 => assumption); (case k1 => assumption); (case k2 => assumption); (case k3 => walk_at "hall")) | fail "hall")
local macro_rules | `(tactic| walk_at "parts") => `(tactic| first | ((with_reducible refine' Tk.PartsAt.bt ?k0 ?k1 ?k2); (case k0 => assumption); (case k1 => assumption); (case k2 => walk_at "parts")) | fail "parts")
local macro_rules | `(tactic| walk_at "rd1") => `(tactic| first
  | ((with_reducible refine' Tk.Rd.h_below ?k0 ?k1 ?k2 ?k3 fun r H' cs hr B hd hcs => ?_); (case k0 => walk_at "hp"); (case k1 => assumption); (case k2 => first | decide | omega); (case k3 => first | decide | omega))
  | ((with_reducible refine' Tk.Rd.h_parts ?k0 ?k1 ?k2 ?k3 fun t tp cp m lt tk cl H' cs nt B hd hcs hP l1 l2 => ?_); (case k0 => walk_at "hp"); (case k1 => assumption); (case k2 => first | decide | omega); (case k3 => first | decide | omega))
  | ((with_reducible refine' Tk.Rd.h_partsL ?k0 ?k1 ?k2 ?k3 fun t tp cp m lt tk cl H' cs nt B hd hcs hP l1 l2 => ?_); (case k0 => walk_at "hp"); (case k1 => assumption); (case k2 => first | decide | omega); (case k3 => first | decide | omega))
  | ((with_reducible refine' Tk.Rd.h_small ?k0 ?k1 fun t tp cp m lt tk cl H' cs nt B hd hcs hP m1 l1 l2 l3 => ?_); (case k0 => walk_at "hp"); (case k1 => assumption))
  | ((with_reducible refine' Tk.Rd.h_tick ?k0 ?k1 fun t H' cs ht B hd hcs => ?_); (case k0 => walk_at "hp"); (case k1 => assumption))
  | ((with_reducible refine' Tk.Rd.h_mo ?k0 fun v H' S hv => ?_); (case k0 => walk_at "hall"))
  | ((with_reducible refine' Tk.Rd.h_lc ?k0 fun v H' S hv => ?_); (case k0 => walk_at "hall"))
  | ((with_reducible refine' Tk.Rd.h_lm ?k0 fun v H' S hv => ?_); (case k0 => walk_at "hall"))
  | ((with_reducible refine' Tk.Rd.h_gl ?k0 fun v H' S hv => ?_); (case k0 => walk_at "hall"))
  | ((with_reducible refine' Tk.Rd.h_ot ?k0 ?k1 fun r H' nr S hr => ?_); (case k0 => walk_at "hall"); (case k1 => first | assumption | omega))
  | ((with_reducible refine' Tk.Rd.h_most2 ?k0 fun v H' S hv => ?_); (case k0 => walk_at "parts"))
  | ((with_reducible refine' Tk.Rd.h_opens2L ?k0 ?k1 fun l ys H' nl S hl hlen hR => ?_); (case k0 => walk_at "parts"); (case k1 => decide))
  | ((with_reducible refine' Tk.Rd.h_opens2 ?k0 ?k1 fun l ys H' nl S hl hlen hR => ?_); (case k0 => walk_at "parts"); (case k1 => first | decide | omega))
  | fail "rd1")
local macro_rules | `(tactic| walk_at "ok") => `(tactic| first
  | assumption
  | ((with_reducible refine' Tk.HallAt.ok ?k0); (case k0 => walk_at "hall"))
  | ((with_reducible refine' Tk.PartsAt.ok ?k0); (case k0 => walk_at "parts"))
  | fail "ok")
local macro_rules | `(tactic| walk_at "sml") => `(tactic| first
  | exact Tk.Sml.ints (by walk_at "szb")
  | exact Tk.Sml.intsT (by walk_at "szb")
  | trivial
  | (simp [Tk.Sml]; done)
  | (simp [Tk.Sml]; omega)
  | fail "sml")
local macro_rules | `(tactic| walk_at "rd1") => `(tactic| first
  | ((with_reducible refine' Tk.Rd.nT ?k0 ?_); (case k0 => with_reducible exact rfl))
  | ((with_reducible refine' Tk.Rd.dT ?k0 ?_); (case k0 => with_reducible exact rfl))
  | with_reducible refine Tk.Rd.nF Tk.Rd.int_non ?_
  | with_reducible refine Tk.Rd.nF Tk.Rd.ref_non ?_
  | with_reducible refine Tk.Rd.dF Tk.Rd.int_non ?_
  | with_reducible refine Tk.Rd.dF Tk.Rd.ref_non ?_
  | ((with_reducible refine' Tk.Rd.h_disp ?k0 ?k1 ?_); (case k0 => first | assumption | omega); (case k1 => walk_at "hall"))
  | ((with_reducible refine' Tk.Rd.h_hold ?k0 ?k1 ?k2 ?k3 fun l H' nl S hl => ?_); (case k0 => walk_at "hall"); (case k1 => first | assumption | omega); (case k2 => first | assumption | omega); (case k3 => first | assumption | omega))
  | ((with_reducible refine' Tk.Rd.h_mis ?k0 ?k1 ?k2 fun l ys H' nl S hl hd => ?_); (case k0 => walk_at "hall"); (case k1 => first | assumption | omega); (case k2 => first | assumption | omega))
  | ((with_reducible refine' Tk.Rd.h_enc ?k0 fun l H' nl S hl => ?_); (case k0 => walk_at "hall"))
  | ((with_reducible refine' Tk.Rd.h_dec ?k0 ?k1 fun h lp H' nh nl S hA => ?_); (case k0 => walk_at "hp"); (case k1 => walk_at "ok"))
  | ((with_reducible refine' Tk.Rd.h_text ?k0 fun H' S => ?_); (case k0 => walk_at "hall"))
  | ((with_reducible refine' Tk.Rd.h_eqd ?k0 ?k1 ?k2 fun H' S => ?_); (case k0 => walk_at "dp"); (case k1 => walk_at "dp"); (case k2 => walk_at "sml"))
  | ((with_reducible refine' Tk.Rd.eqd ?k0 ?k1 ?k2 ?k3 ?_); (case k0 => walk_at "dp"); (case k1 => walk_at "dp"); (case k2 => walk_at "sml"); (case k3 => walk_at "sml"))
  | ((with_reducible refine' Tk.Rd.ned ?k0 ?k1 ?k2 ?k3 ?_); (case k0 => walk_at "dp"); (case k1 => walk_at "dp"); (case k2 => walk_at "sml"); (case k3 => walk_at "sml"))
  | fail "rd1")
/-! ### What _law_error_of makes of a call -/
namespace Tk
open PySem PySem.Spec PyProof.Rows L2
namespace Rd
variable {K : PySem.W.Frag} {σ : L2.St} {H : Hp} {Q : VK}
theorem isXt {xs : List Str} {x : Str} {d : Option Addr} {a : Addr} (kt : Ex.KitX xs K) (hx : x ∈ xs) (is : Ex.IsX K (He.ga K x)) (hd : Ex.HasD H d) (k : Q (.bl true) H) : Ex.rIsX K (.ref (He.ga K x)) d a [.ref a, .ref (He.ga K x)] H Q :=
  ⟨_, _, .ref (He.ga K x), true, rfl, is, rfl, fun _ r => r, by rw [kt.two x hx x hx, decide_eq_true rfl], hd, k⟩
theorem isXf {xs : List Str} {x y : Str} {d : Option Addr} {a : Addr} (kt : Ex.KitX xs K) (hx : x ∈ xs) (hy : y ∈ xs) (is : Ex.IsX K (He.ga K x)) (hd : Ex.HasD H d) (ne : x ≠ y) (k : Q (.bl false) H) : Ex.rIsX K (.ref (He.ga K x)) d a [.ref a, .ref (He.ga K y)] H Q :=
  ⟨_, _, .ref (He.ga K y), false, rfl, is, rfl, fun _ r => r, by rw [kt.two x hx y hy, decide_eq_false ne], hd, k⟩
theorem isXv {xs : List Str} {x : Str} {d : Option Addr} {a : Addr} (kt : Ex.KitX xs K) (hx : x ∈ xs) (is : Ex.IsX K (He.ga K x)) (hd : Ex.HasD H d) (k : Q (.bl true) H) : Ex.rIsX K (.ref (He.ga K x)) d a [.ref a, .ty "ValueError"] H Q :=
  ⟨_, _, .type "ValueError", true, rfl, is, rfl, fun _ r => r, kt.ve x hx, hd, k⟩
theorem cntFe {p : Addr} {ys : List V} {y : V} {n : Nat} (h : SqL K H p ys) (fy : flatV y = true) (fs : ys.all flatV = true) (hn : ys.countP (fun z => eqV z y) = n) (k : Q (.int n) H) : Ex.rCntF K (.ref p) [y] H Q :=
  ⟨p, ys, y, rfl, rfl, h, fy, fs, by rw [hn]; exact k⟩
theorem idxF {p : Addr} {ys : List V} {y z : V} {j : Nat} (h : SqL K H p ys) (fy : flatV y = true) (fs : ys.all flatV = true) (hz : ys[j]? = some z) (he : eqV z y = true) (hno : (ys.take j).all (fun z => !eqV z y) = true) (k : Q (.int j) H) : rIndex K (.ref p) [y] H Q :=
  ⟨p, ys, y, j, z, rfl, rfl, h, fy, fs, hz, he, fun m z' hm hm' => by
    have : (!eqV z' y) = true := List.all_eq_true.mp hno z' (List.mem_of_getElem? (by rw [List.getElem?_take_of_lt hm]; exact hm'))
    simpa using this, k⟩
theorem xfE {x : Str} {dd a : Addr} {fs : List (Str × V)} {f : Str} {v : V} (is : Ex.IsX K (He.ga K x)) (hno : PySem.W.findIn K (.ref (He.ga K x)) f = some none) (hd : H dd = some (.xd fs)) (hf : fs.lookup f = some v) (k : Q v H) :
    ∃ C, V.ref a = .ref a ∧ Value.ref (He.ga K x) = .ref C ∧ Ex.IsX K C ∧ PySem.W.findIn K (.ref C) f = some none ∧ ∃ (d' : Addr) (fs : List (Str × V)) (v : V), some dd = some d' ∧ H d' = some (.xd fs) ∧ fs.lookup f = some v ∧ Q v H :=
  ⟨_, rfl, rfl, is, hno, dd, fs, v, rfl, hd, hf, k⟩
end Rd
namespace Ex
def tbE (n : Nat) (f : Addr) (Pc : Hp → Prop) (tl : XK → Hp → VK → Prop) : WX → TS := fun W D σ H => ∃ Ech : XK, (∀ cls d σ' H', σ'.length = n → Ech cls d H' → W cls d σ' H') ∧ σ[0]? = some (some (.ref f)) ∧ Pc H ∧ tl Ech H (fun _ H1 => D.nx σ H1)
end Ex
theorem Ex.HasD.sm {H H' : Hp} {d : Option Addr} (S : Same H H') (h : Ex.HasD H d) : Ex.HasD H' d := by
  cases d with
  | none => trivial
  | some dd =>
    obtain ⟨fs, e⟩ := h
    exact ⟨fs, S _ _ e⟩
local macro_rules | `(tactic| walk_at "hasd") => `(tactic| first
  | trivial
  | assumption
  | ((with_reducible refine' Tk.Ex.HasD.sm ?k0 ?k1); (case k0 => assumption); (case k1 => walk_at "hasd"))
  | fail "hasd")
theorem Rd.xfE1 {K : PySem.W.Frag} {σ : L2.St} {H : Hp} {Q : VK} {x : Str} {j : Nat} {dd a : Addr} {fs : List (Str × V)} {f : Str} {v : V} (is : Ex.IsX K (He.ga K x)) (hno : PySem.W.findIn K (.ref (He.ga K x)) f = some none) (hσ : σ[j]? = some (some (.ref a))) (hd : H dd = some (.xd fs)) (hf : fs.lookup f = some v) (k : Q v H) :
    Ex.tXfE K a (.ref (He.ga K x)) (some dd) f (tVar j) σ H Q := ⟨.ref a, hσ, Rd.xfE is hno hd hf k⟩
def XS : List Str := ["InvalidHall", "InvalidTick", "InvalidNumber", "InvalidDigits", "TooMany", "InvalidLimit", "Contradiction", "TextFault", "InvalidCode", "InvalidName", "UnknownName", "InvalidOperation"]
def XO : List Str := ["InvalidTick", "InvalidNumber", "InvalidDigits", "TooMany", "InvalidLimit", "Contradiction", "InvalidName", "UnknownName", "InvalidHall", "TextFault", "InvalidCode", "InvalidOperation"]
def LB : List Str := ["tick", "number", "digits", "many", "limit", "contradiction", "name", "unknown", "hall", "text", "code", "operation"]
namespace Ex
def kds (x : Str) : List V := [.bl (decide (x = "InvalidTick")), .bl (decide (x = "InvalidNumber")), .bl (decide (x = "InvalidDigits"))] ++ [.bl (decide (x = "TooMany")), .bl (decide (x = "InvalidLimit")), .bl (decide (x = "Contradiction"))] ++
  [.bl (decide (x = "InvalidName")), .bl (decide (x = "UnknownName")), .bl (decide (x = "InvalidHall"))] ++ [.bl (decide (x = "TextFault")), .bl (decide (x = "InvalidCode")), .bl (decide (x = "InvalidOperation"))]
def ix (x : Str) : Nat := XO.findIdx (fun y => decide (y = x))
def lbV : List V := [.str "tick", .str "number", .str "digits", .str "many", .str "limit", .str "contradiction", .str "name", .str "unknown", .str "hall", .str "text"] ++ [.str "code", .str "operation"]
theorem ones_ok : ∀ p ∈ ones, p.1 ∈ XS ∧ lbV[ix p.1]? = some (.str p.2) ∧ p.2 ≠ "hall" ∧ p.2 ≠ "text" ∧ inV (.str p.2) [.str "code", .str "operation"] = false := by decide +kernel
theorem ats_ok : ∀ p ∈ ats, p.1 ∈ XS ∧ lbV[ix p.1]? = some (.str p.2.1) ∧ p.2.1 ≠ "hall" := by decide +kernel
theorem hall_ok : ("InvalidHall" : Str) ∈ XS ∧ lbV[ix "InvalidHall"]? = some (.str "hall") := by decide +kernel
theorem kds_one : ∀ x ∈ XS, (kds x).countP (fun z => eqV z (.bl true)) = 1 ∧ (kds x).all flatV = true ∧ ((kds x)[ix x]? = some (.bl true)) ∧ ((kds x).take (ix x)).all (fun z => !eqV z (.bl true)) = true ∧ ix x < 12 := by decide +kernel
end Ex
namespace Rd
theorem isX {K : PySem.W.Frag} {H : Hp} {Q : VK} {x y : Str} {d : Option Addr} {a : Addr} (kt : Ex.KitX XS K) (hx : x ∈ XS) (is : Ex.IsX K (He.ga K x)) (hy : y ∈ XS) (hd : Ex.HasD H d) (k : Q (.bl (decide (x = y))) H) : Ex.rIsX K (.ref (He.ga K x)) d a [.ref a, .ref (He.ga K y)] H Q :=
  ⟨_, _, .ref (He.ga K y), _, rfl, is, rfl, fun _ r => r, kt.two x hx y hy, hd, k⟩
theorem is3 {K : PySem.W.Frag} {σ : L2.St} {H : Hp} {Q : VK} {x y1 y2 y3 : Str} {d : Option Addr} {a : Addr} (kt : Ex.KitX XS K) (hx : x ∈ XS) (is : Ex.IsX K (He.ga K x)) (h1 : y1 ∈ XS) (h2 : y2 ∈ XS) (h3 : y3 ∈ XS) (hd : Ex.HasD H d) (hσ : σ[1]? = some (some (.ref a)))
    (k : ∀ p H', H p = none → Same H H' → H' p = some (.lst [.bl (decide (x = y1)), .bl (decide (x = y2)), .bl (decide (x = y3))]) → Q (.ref p) H') :
    tLst (tCons (tCB (Ex.rIsX K (.ref (He.ga K x)) d a) (tCons (tVar 1) (tCons (tC (.ref (He.ga K y1))) tNil))) (tCons (tCB (Ex.rIsX K (.ref (He.ga K x)) d a) (tCons (tVar 1) (tCons (tC (.ref (He.ga K y2))) tNil))) (tCons (tCB (Ex.rIsX K (.ref (He.ga K x)) d a) (tCons (tVar 1) (tCons (tC (.ref (He.ga K y3))) tNil))) tNil))) σ H Q := by
  refine Rd.lst ?_
  refine Rd.cons ?_
  refine Rd.cb ?_
  refine Rd.cons ?_
  refine Rd.var hσ ?_
  refine Rd.cons ?_
  refine Rd.c ?_
  refine Rd.nil ?_
  refine isX kt hx is h1 hd ?_
  refine Rd.cons ?_
  refine Rd.cb ?_
  refine Rd.cons ?_
  refine Rd.var hσ ?_
  refine Rd.cons ?_
  refine Rd.c ?_
  refine Rd.nil ?_
  refine isX kt hx is h2 hd ?_
  refine Rd.cons ?_
  refine Rd.cb ?_
  refine Rd.cons ?_
  refine Rd.var hσ ?_
  refine Rd.cons ?_
  refine Rd.c ?_
  refine Rd.nil ?_
  refine isX kt hx is h3 hd ?_
  refine Rd.nil ?_
  exact Rd.lstK_i (by simp) k
end Rd
local macro_rules | `(tactic| walk_at "rd1") => `(tactic| first
  | ((with_reducible refine' Tk.Rd.is3 ?k0 ?k1 ?k2 ?k3 ?k4 ?k5 ?k6 ?k7 fun p H' np S hp => ?_); (case k0 => assumption); (case k1 => assumption); (case k2 => assumption); (case k3 => assumption); (case k4 => assumption); (case k5 => assumption); (case k6 => walk_at "hasd"); (case k7 => exact rfl))
  | ((with_reducible refine' Tk.Rd.isX ?k0 ?k1 ?k2 ?k3 ?k4 ?_); (case k0 => assumption); (case k1 => assumption); (case k2 => assumption); (case k3 => assumption); (case k4 => walk_at "hasd"))
  | ((with_reducible refine' Tk.Rd.isXv ?k0 ?k1 ?k2 ?k3 ?_); (case k0 => assumption); (case k1 => assumption); (case k2 => assumption); (case k3 => walk_at "hasd"))
  | fail "rd1")
theorem ev__law_error_of {X : Cx} (T : Txt X.K X.mg) {CX' : CXT} {E' : XK} : ∀ (cdg : Value) (f : Addr) (Pc : Hp → Prop) (s : Shared) (H : Hp) (Q : VK) (tl : XK → Hp → VK → Prop),
    (∀ (W : WX) (pn : List (Addr × Obj)) (xe : Value → Shared → Prop) (E : XK) (p1 p2 : Pos), Takes ((cxOf CX' X.prog X.w X.K X.mg X.base N__law_error_of "_law_error_of" (defScope s__law_error_of) (He.ga X.K "_law_error_of") cdg X.A X.stack s H E').nox.tr pn xe) W → (∀ cls d σ' H', E cls d H' → W cls d σ' H') →
      PE ((cxOf CX' X.prog X.w X.K X.mg X.base N__law_error_of "_law_error_of" (defScope s__law_error_of) (He.ga X.K "_law_error_of") cdg X.A X.stack s H E').nox.tr pn xe) (.Call (.Name "_law_call" p1) [] [] p2) (fun σZ HZ Q => σZ[0]? = some (some (.ref f)) ∧ Pc HZ ∧ tl E HZ Q)) →
    Pc H → Ex.TTerr X.K tl H Q →
    ∃ t, PSs (cxOf CX' X.prog X.w X.K X.mg X.base N__law_error_of "_law_error_of" (defScope s__law_error_of) (He.ga X.K "_law_error_of") cdg X.A X.stack s H E').nox (defBody s__law_error_of) t ∧ t { nx := fun _ H' => Q .non H', rt := Q } (L2.start N__law_error_of [.ref f]) H := by
  obtain ⟨P, w, K, mg, base, A, N, s_0, H_0, env, outer, stack, ex, fn, calm, pn, xe⟩ := X
  dsimp only at T ⊢
  intro cdg f Pc s H Q tl act hc h
  have bd : ∀ (W : WX) (pn : List (Addr × Obj)) (xe : Value → Shared → Prop) (p1 p2 p3 : Pos), Takes ((cxOf CX' P w K mg base N__law_error_of "_law_error_of" (defScope s__law_error_of) (He.ga K "_law_error_of") cdg A stack s H E').nox.tr pn xe) W →
      PSs ((cxOf CX' P w K mg base N__law_error_of "_law_error_of" (defScope s__law_error_of) (He.ga K "_law_error_of") cdg A stack s H E').nox.tr pn xe) [.Expr (.Call (.Name "_law_call" p1) [] [] p2) p3] (Ex.tbE 5 f Pc tl W) := fun W pn xe p1 p2 p3 tk => by
    refine ⟨fun pins s' σ H' D I h' => ?_⟩
    obtain ⟨Ech, hW, h1, h2, h3⟩ := h'
    have hp := act (fun c d σ H => σ.length = 5 → W c d σ H) pn xe Ech p1 p2 (Ex.takes_len tk) (fun cls d σ' H' e l => hW _ _ _ _ l e)
    exact (pss_one (ps_expr (pos := p3) hp)).run pins s' σ H' D I ⟨h1, h2, h3⟩
  refine ⟨_, (pss_cons (ps_try_as (tb := Ex.tbE 5 f Pc tl) (i := 1) rfl rfl sc__law_error_of.nd rfl rfl ⟨rfl, by decide, .inl T.g_HallError⟩ takes0 (fun W pn xe tk _ => bd _ _ _ _ _ _ tk) (fun a oe cls d pn hz hf => (pss_cons (ps_set (i := 2) sc__law_error_of.nd rfl (Or.inl rfl) (pe_lst (pa_cons (pe_callB (Ex.call_isX (K := K) (a := a) hz hf) (by rfl) T.g_isinstance (by decide +kernel) (pa_cons (pv 1) (pa_cons (pe_glob (v := .ref (He.ga K "InvalidTick")) (by rfl) T.g_InvalidTick rfl) pa_nil))) (pa_cons (pe_callB (Ex.call_isX (K := K) (a := a) hz hf) (by rfl) T.g_isinstance (by decide +kernel) (pa_cons (pv 1) (pa_cons (pe_glob (v := .ref (He.ga K "InvalidNumber")) (by rfl) T.g_InvalidNumber rfl) pa_nil))) (pa_cons (pe_callB (Ex.call_isX (K := K) (a := a) hz hf) (by rfl) T.g_isinstance (by decide +kernel) (pa_cons (pv 1) (pa_cons (pe_glob (v := .ref (He.ga K "InvalidDigits")) (by rfl) T.g_InvalidDigits rfl) pa_nil))) pa_nil)))))
    (pss_cons (ps_set (i := 2) sc__law_error_of.nd rfl (Or.inl rfl) (pe_op op_cat (pv 2) (pe_lst (pa_cons (pe_callB (Ex.call_isX (K := K) (a := a) hz hf) (by rfl) T.g_isinstance (by decide +kernel) (pa_cons (pv 1) (pa_cons (pe_glob (v := .ref (He.ga K "TooMany")) (by rfl) T.g_TooMany rfl) pa_nil))) (pa_cons (pe_callB (Ex.call_isX (K := K) (a := a) hz hf) (by rfl) T.g_isinstance (by decide +kernel) (pa_cons (pv 1) (pa_cons (pe_glob (v := .ref (He.ga K "InvalidLimit")) (by rfl) T.g_InvalidLimit rfl) pa_nil))) (pa_cons (pe_callB (Ex.call_isX (K := K) (a := a) hz hf) (by rfl) T.g_isinstance (by decide +kernel) (pa_cons (pv 1) (pa_cons (pe_glob (v := .ref (He.ga K "Contradiction")) (by rfl) T.g_Contradiction rfl) pa_nil))) pa_nil))))))
    (pss_cons (ps_set (i := 2) sc__law_error_of.nd rfl (Or.inl rfl) (pe_op op_cat (pv 2) (pe_lst (pa_cons (pe_callB (Ex.call_isX (K := K) (a := a) hz hf) (by rfl) T.g_isinstance (by decide +kernel) (pa_cons (pv 1) (pa_cons (pe_glob (v := .ref (He.ga K "InvalidName")) (by rfl) T.g_InvalidName rfl) pa_nil))) (pa_cons (pe_callB (Ex.call_isX (K := K) (a := a) hz hf) (by rfl) T.g_isinstance (by decide +kernel) (pa_cons (pv 1) (pa_cons (pe_glob (v := .ref (He.ga K "UnknownName")) (by rfl) T.g_UnknownName rfl) pa_nil))) (pa_cons (pe_callB (Ex.call_isX (K := K) (a := a) hz hf) (by rfl) T.g_isinstance (by decide +kernel) (pa_cons (pv 1) (pa_cons (pe_glob (v := .ref (He.ga K "InvalidHall")) (by rfl) T.g_InvalidHall rfl) pa_nil))) pa_nil))))))
    (pss_cons (ps_set (i := 2) sc__law_error_of.nd rfl (Or.inl rfl) (pe_op op_cat (pv 2) (pe_lst (pa_cons (pe_callB (Ex.call_isX (K := K) (a := a) hz hf) (by rfl) T.g_isinstance (by decide +kernel) (pa_cons (pv 1) (pa_cons (pe_glob (v := .ref (He.ga K "TextFault")) (by rfl) T.g_TextFault rfl) pa_nil))) (pa_cons (pe_callB (Ex.call_isX (K := K) (a := a) hz hf) (by rfl) T.g_isinstance (by decide +kernel) (pa_cons (pv 1) (pa_cons (pe_glob (v := .ref (He.ga K "InvalidCode")) (by rfl) T.g_InvalidCode rfl) pa_nil))) (pa_cons (pe_callB (Ex.call_isX (K := K) (a := a) hz hf) (by rfl) T.g_isinstance (by decide +kernel) (pa_cons (pv 1) (pa_cons (pe_glob (v := .ref (He.ga K "InvalidOperation")) (by rfl) T.g_InvalidOperation rfl) pa_nil))) pa_nil))))))
    (pss_cons (ps_if (PW.pt (pw_or (pt_cmpR op_ne (Ex.pe_bmK (K := K) PySem.F.plainAttrs_list PySem.F.slot_list_count PySem.F.type_list_count (Ex.mt_countF (K := K)) (pv 2) (pa_cons pe_bl pa_nil)) pe_int (nomark _)) (pw_or1 (pt_not (pt_val (pe_callB (Ex.call_isX (K := K) (a := a) hz hf) (by rfl) T.g_isinstance (by decide +kernel) (pa_cons (pv 1) (pa_cons (pe_bltn (v := .ty "ValueError") (by rfl) T.g_ValueError boot_ty_ValueError rfl) pa_nil)))))))) (pss_one (ps_ret (pe_tup (pa_cons pe_str (pa_cons pe_int pa_nil))))) pss_nil)
    (pss_cons (ps_set (i := 3) sc__law_error_of.nd rfl (Or.inl rfl) (pe_lst (pa_cons pe_str (pa_cons pe_str (pa_cons pe_str (pa_cons pe_str (pa_cons pe_str (pa_cons pe_str (pa_cons pe_str (pa_cons pe_str (pa_cons pe_str (pa_cons pe_str pa_nil))))))))))))
    (pss_cons (ps_set (i := 4) sc__law_error_of.nd rfl (Or.inl rfl) (pe_ix (ixLK (K := K)) (pe_op op_cat (pv 3) (pe_lst (pa_cons pe_str (pa_cons pe_str pa_nil)))) (Ex.pe_bmK (K := K) PySem.F.plainAttrs_list PySem.F.slot_list_index PySem.F.type_list_index (Ex.mt_indexK (K := K)) (pv 2) (pa_cons pe_bl pa_nil)) (fun _ _ => rfl)))
    (pss_cons (ps_if (pt_cmpR op_eq (pv 4) pe_str (nomark _)) (pss_one (ps_ret (pe_tup (pa_cons (pv 4) (pa_cons (pe_tup (pa_cons (Ex.pe_xfE (K := K) (a := a) (pv 1) hz hf) (pa_cons (Ex.pe_xfE (K := K) (a := a) (pv 1) hz hf) pa_nil))) pa_nil))))) pss_nil)
    (pss_cons (ps_if (pt_cmpR op_eq (pv 4) pe_str (nomark _)) (pss_one (ps_ret (pe_tup (pa_cons (pv 4) (pa_cons (Ex.pe_xfE (K := K) (a := a) (pv 1) hz hf) pa_nil))))) pss_nil)
    (pss_one (ps_ret (pe_tup (pa_cons (pv 4) (pa_cons (pe_ifExp (pt_cmpR (inK (K := K)) (pv 4) (pe_lst (pa_cons pe_str (pa_cons pe_str pa_nil))) (by rfl)) (Ex.pe_xfE (K := K) (a := a) (pv 1) hz hf) pe_int) pa_nil))))))))))))))))
    (pss_one (ps_ret pe_non))), ?_⟩
  refine ⟨_, fun cls d σ' H' hl ⟨e, he, k⟩ => ?_, rfl, hc, h⟩
  obtain ⟨v0, v1, v2, v3, v4, rfl⟩ : ∃ v0 v1 v2 v3 v4, σ' = [v0, v1, v2, v3, v4] := by
    match σ', hl with
    | [_, _, _, _, _], _ => exact ⟨_, _, _, _, _, rfl⟩
  have kt : Ex.KitX XS K := T.kit
  have facts : ∀ x ∈ XS, Ex.IsX K (He.ga K x) ∧ PySem.W.exmOne K (.ref (He.ga K x)) (.ref (He.ga K "HallError")) = some true := by
    intro x hx
    simp only [XS, List.mem_cons, List.not_mem_nil, or_false] at hx
    rcases hx with rfl | rfl | rfl | rfl | rfl | rfl | rfl | rfl | rfl | rfl | rfl | rfl
    · exact ⟨T.i_InvalidHall, T.e_InvalidHall⟩
    · exact ⟨T.i_InvalidTick, T.e_InvalidTick⟩
    · exact ⟨T.i_InvalidNumber, T.e_InvalidNumber⟩
    · exact ⟨T.i_InvalidDigits, T.e_InvalidDigits⟩
    · exact ⟨T.i_TooMany, T.e_TooMany⟩
    · exact ⟨T.i_InvalidLimit, T.e_InvalidLimit⟩
    · exact ⟨T.i_Contradiction, T.e_Contradiction⟩
    · exact ⟨T.i_TextFault, T.e_TextFault⟩
    · exact ⟨T.i_InvalidCode, T.e_InvalidCode⟩
    · exact ⟨T.i_InvalidName, T.e_InvalidName⟩
    · exact ⟨T.i_UnknownName, T.e_UnknownName⟩
    · exact ⟨T.i_InvalidOperation, T.e_InvalidOperation⟩
  obtain ⟨x, n, hx, rfl, hD, hn, kind⟩ : ∃ x n, x ∈ XS ∧ cls = .ref (He.ga K x) ∧ Ex.HasD H' d ∧ Ex.lbV[Ex.ix x]? = some (.str n) ∧
      ((e = .one n ∧ n ≠ "hall" ∧ n ≠ "text" ∧ inV (.str n) [.str "code", .str "operation"] = false) ∨ (∃ y i dd, e = .hall y i ∧ n = "hall" ∧ x = "InvalidHall" ∧ d = some dd ∧ H' dd = some (.xd [("index", .int i), ("part", .str y)])) ∨
        (∃ i dd, e = .at_ n i ∧ n = "text" ∧ x = "TextFault" ∧ d = some dd ∧ H' dd = some (.xd [("line", .int i)])) ∨
        (∃ i dd, e = .at_ n i ∧ n ≠ "hall" ∧ n ≠ "text" ∧ inV (.str n) [.str "code", .str "operation"] = true ∧ PySem.W.findIn K (.ref (He.ga K x)) "place" = some none ∧ d = some dd ∧ H' dd = some (.xd [("place", .int i)]))) := by
    cases e with
    | one n =>
      obtain ⟨x, hx, rfl, rfl⟩ := he
      obtain ⟨a1, a2, a3, a4, a5⟩ := Ex.ones_ok _ hx
      exact ⟨x, n, a1, rfl, trivial, a2, .inl ⟨rfl, a3, a4, a5⟩⟩
    | hall y i =>
      obtain ⟨rfl, dd, rfl, hdd⟩ := he
      exact ⟨_, _, Ex.hall_ok.1, rfl, ⟨_, hdd⟩, Ex.hall_ok.2, .inr (.inl ⟨y, i, dd, rfl, rfl, rfl, rfl, hdd⟩)⟩
    | at_ n i =>
      obtain ⟨x, f, hx, rfl, dd, rfl, hdd⟩ := he
      obtain ⟨a1, a2, a3⟩ := Ex.ats_ok _ hx
      refine ⟨x, n, a1, rfl, ⟨_, hdd⟩, a2, ?_⟩
      have hx : (x, n, f) ∈ Ex.ats := hx
      simp only [Ex.ats, List.mem_cons, Prod.mk.injEq, List.not_mem_nil, or_false] at hx
      rcases hx with ⟨rfl, rfl, rfl⟩ | ⟨rfl, rfl, rfl⟩ | ⟨rfl, rfl, rfl⟩
      · exact .inr (.inr (.inl ⟨i, dd, rfl, rfl, rfl, rfl, hdd⟩))
      · exact .inr (.inr (.inr ⟨i, dd, rfl, a3, by decide, by decide +kernel, T.x_InvalidCode.no "place" (by decide), rfl, hdd⟩))
      · exact .inr (.inr (.inr ⟨i, dd, rfl, a3, by decide, by decide +kernel, T.x_InvalidOperation.no "place" (by decide), rfl, hdd⟩))
  obtain ⟨is, exm⟩ := facts x hx
  have m1 : ("InvalidTick" : Str) ∈ XS := by decide +kernel
  have m2 : ("InvalidNumber" : Str) ∈ XS := by decide +kernel
  have m3 : ("InvalidDigits" : Str) ∈ XS := by decide +kernel
  have m4 : ("TooMany" : Str) ∈ XS := by decide +kernel
  have m5 : ("InvalidLimit" : Str) ∈ XS := by decide +kernel
  have m6 : ("Contradiction" : Str) ∈ XS := by decide +kernel
  have m7 : ("InvalidName" : Str) ∈ XS := by decide +kernel
  have m8 : ("UnknownName" : Str) ∈ XS := by decide +kernel
  have m9 : ("InvalidHall" : Str) ∈ XS := by decide +kernel
  have m10 : ("TextFault" : Str) ∈ XS := by decide +kernel
  have m11 : ("InvalidCode" : Str) ∈ XS := by decide +kernel
  have m12 : ("InvalidOperation" : Str) ∈ XS := by decide +kernel
  obtain ⟨c1, c2, c3, c4, c5⟩ := Ex.kds_one x hx
  refine ⟨true, exm, fun _ a ha => ?_, fun q => by cases q⟩
  walk_at "rd"
  rename_i p5 H5 n5 S5 hp5
  have hp5 : H5 p5 = some (.lst (Ex.kds x)) := hp5
  refine Rd.cntFe (n := 1) (SqL.of hp5) rfl c2 c1 ?_
  walk_at "rd"
  refine Rd.nT rfl ?_
  walk_at "rd"
  refine Rd.idxF (j := Ex.ix x) (z := .bl true) (ys := Ex.kds x) ?_ rfl c2 c3 rfl c4 ?_
  · exact (by walk_at "sql")
  walk_at "rd"
  have vs : ∀ {a b : Str}, a ≠ b → ¬ V.str a = V.str b := fun h q => h (by injection q)
  refine Rd.ixL (xs := Ex.lbV) ?_ (atn hn) ?_
  · exact (by walk_at "sql")
  rcases kind with ⟨rfl, k1, k2, k3⟩ | ⟨y, i, dd, rfl, rfl, rfl, rfl, hdd⟩ | ⟨i, dd, rfl, rfl, rfl, rfl, hdd⟩ | ⟨i, dd, rfl, k1, k2, k3, hno, rfl, hdd⟩
  · walk_at "rd"
    refine Rd.dF (vs k1) ?_
    walk_at "rd"
    refine Rd.dF (vs k2) ?_
    walk_at "rd"
    refine Rd.inS (xs := [.str "code", .str "operation"]) (.inl (by walk_at "sql")) rfl rfl ?_
    rw [k3]
    refine Rd.toB_i (Rd.iff ?_)
    walk_at "rd"
    rename_i r H9 n9 S9 hr
    exact k r _ (by walk_at "same") (.tup (by walk_at "sqt") (.cons (.str _) (.cons (.int _) .nil)))
  · walk_at "rd"
    refine Rd.xfE1 (fs := [("index", .int i), ("part", .str y)]) is (T.x_InvalidHall.no "part" (by decide)) rfl ?_ rfl ?_
    · exact (by walk_at "hp")
    refine Rd.xfE1 (fs := [("index", .int i), ("part", .str y)]) is (T.x_InvalidHall.no "index" (by decide)) rfl ?_ rfl ?_
    · exact (by walk_at "hp")
    walk_at "rd"
    rename_i t H9 n9 S9 ht r H10 n10 S10 hr
    exact k r _ (by walk_at "same") (.tup (by walk_at "sqt") (.cons (.str _) (.cons (.tup (by walk_at "sqt") (.cons (.str _) (.cons (.int _) .nil))) .nil)))
  · walk_at "rd"
    refine Rd.dF (by decide) ?_
    walk_at "rd"
    refine Rd.xfE1 (fs := [("line", .int i)]) is (T.x_TextFault.no "line" (by decide)) rfl ?_ rfl ?_
    · exact (by walk_at "hp")
    walk_at "rd"
    rename_i r H10 n10 S10 hr
    exact k r _ (by walk_at "same") (.tup (by walk_at "sqt") (.cons (.str _) (.cons (.int _) .nil)))
  · walk_at "rd"
    refine Rd.dF (vs k1) ?_
    walk_at "rd"
    refine Rd.dF (vs k2) ?_
    walk_at "rd"
    refine Rd.inS (xs := [.str "code", .str "operation"]) (.inl (by walk_at "sql")) rfl rfl ?_
    rw [k3]
    refine Rd.toB_i (Rd.ift ?_)
    refine Rd.xfE1 (fs := [("place", .int i)]) is hno rfl ?_ rfl ?_
    · exact (by walk_at "hp")
    walk_at "rd"
    rename_i r H10 n10 S10 hr
    exact k r _ (by walk_at "same") (.tup (by walk_at "sqt") (.cons (.str _) (.cons (.int _) .nil)))
theorem gv__law_error_of {X : Cx} (T : Txt X.K X.mg) {q : Str} : ∀ cdg : Value, LamX.GivesTo X N__law_error_of "_law_error_of" (defScope s__law_error_of) (He.ga X.K "_law_error_of") cdg (defBody s__law_error_of) "_law_call" q (Ex.TTerr X.K) := fun cdg f c' s H Q tl act hc h =>
  ev__law_error_of T cdg f (fun H => H c' = some (LamX.CodeO c' q)) s H Q tl act hc h
end Tk

end

/-! ### list(range(a, b, c)) -/
namespace Tk
open PySem PySem.Spec PyProof.Rows L2 Mm
def tLstRg3 (ta : TA) : TE := fun σ H Q => ta σ H fun vs H1 => ∃ (i j c : Int) (n : Nat), vs = [.int i, .int j, .int c] ∧ RgC i j c n ∧ n ≤ 2 ^ 24 ∧ ∀ q, H1 q = none → Q (.ref q) (upd H1 q (.lst ((List.range n).map fun k => V.int (i + (k : Nat) * c))))
section
variable {X : Cx} {a b c : Expr} {ta : TA}
theorem pe_listRg3 {p pos p2 pos2 : Pos} (hc : X.calm = true) (hgl : Gl X "list") (hml : X.mg "list" = none) (hg : Gl X "range") (hm : X.mg "range" = none) (ha : PA X [a, b, c] ta)
    (hs : starEach [a, b, c] X.env = (false, eval a X.env) :: starEach [b, c] X.env := by rfl) (hpl : (backTo pos2 (starEach [b, c] X.env)).any (·.1) = false := by rfl)
    (na : starEach [.Call (.Name "range" p2) [a, b, c] [] pos2] X.env = (false, eval (.Call (.Name "range" p2) [a, b, c] [] pos2) X.env) :: starEach [] X.env := by rfl) :
    PE X (.Call (.Name "list" p) [.Call (.Name "range" p2) [a, b, c] [] pos2] [] pos) (tLstRg3 ta) := by
  refine ⟨fun pins s σ H Q I h => ?_⟩
  have inner : wpAny (model X.prog X.w) X.A (eval (.Call (.Name "range" p2) [a, b, c] [] pos2) X.env) (fun x s' => ∃ r i j k n t u v H', x = Value.ref r ∧ IsRange s'.heap r i j k t u v ∧ Inv X pins σ H' s' ∧ RgC i j k n ∧ n ≤ 2 ^ 24 ∧
      ∀ q, H' q = none → Q (.ref q) (upd H' q (.lst ((List.range n).map fun m => V.int (i + (m : Nat) * k))))) X.xe s := by
    refine Call_ (ld_blt I hg hm boot_range (PyProof.Rows.callWith_type1 (thn (ha.run pos2 pins s σ H _ I h) fun us s1 ⟨vs, H1, I1, r1, q1⟩ => ?_) hs hpl))
    obtain ⟨i, j, k, n, e, hR, hz, q⟩ := q1
    subst e
    cases r1 with
    | cons r rr =>
      cases rr with
      | cons r' rr =>
        cases rr with
        | cons r'' rr =>
          cases rr
          obtain ⟨t, rfl⟩ := r
          obtain ⟨t', rfl⟩ := r'
          obtain ⟨t'', rfl⟩ := r''
          refine call_range_3 hR.1 ?_ (.inl (PyProof.noPylong_small hR.2.1))
          exact ⟨_, i, j, k, n, _, _, _, H1, rfl, IsRange.new _ _ _ _ _ _ _, I1.kept fun b u e => Heap.get?_push_of_some _ e, hR, hz, q⟩
  refine Call_ (ld_blt I hgl hml boot_list (PyProof.Rows.callWith_type1 (args_cons (thn inner fun x s1 ⟨r, i, j, k, n, t, u, v, H1, ex, hr, I1, hR, hz, q⟩ => args_nil ?_) na) na))
  subst ex
  obtain ⟨c0, c1, c2, c3⟩ := hR
  refine call_list_range (n := n) (I1.ok.hd hc) hr c2 c3 hz fun h' tk acc c' hk e' hi => ?_
  have vals : Vals ((List.range n).map fun m => V.int (i + (m : Nat) * k)) acc.toList := by
    have e : acc.toList.length = n := by rw [Array.length_toList]; exact hi.1
    rw [← e]
    refine vals_of_get acc.toList _ fun m u hm => ?_
    obtain ⟨t, rfl⟩ := hi.2 m u (by rw [← hm, Array.getElem?_toList])
    exact ⟨t, rfl⟩
  refine ⟨.ref s1.heap.objs.size, upd H1 s1.heap.objs.size (.lst _), I1.laid hk (Nat.le_refl _) (show ObjOk X.prog X.w _ _ _ (.lst _) from ⟨?_, acc.toList, c', vals, ?_⟩), rfl, q _ (I1.hok.fresh (Nat.le_refl _))⟩
  · rw [List.length_map, List.length_range, sizeLine_eq]; omega
  · rw [Array.toArray_toList]; exact e'
end
/-- the numbers from a on and below b that leave the rest d -/
def resL (a b d m : Nat) : List Nat := ((List.range (b - a)).map fun i => a + i).filter fun n => decide (n % m = d)
/-- how the steps tell them -/
theorem res_steps {a d m : Nat} (hm : 0 < m) (hd : d < m) : ∀ b, resL a b d m = (List.range ((b - (a + (d + (m - a % m)) % m) + m - 1) / m)).map fun k => (a + (d + (m - a % m)) % m) + k * m
  | 0 => by
    unfold resL
    rw [Nat.zero_sub, Nat.zero_sub, Nat.zero_add, Nat.div_eq_of_lt (by omega)]
    rfl
  | b + 1 => by
    have ih := res_steps (a := a) hm hd b
    generalize hs : a + (d + (m - a % m)) % m = s at *
    have am := Nat.mod_lt a hm
    have sm : s % m = d := by
      rw [← hs, Nat.add_mod_mod, show a + (d + (m - a % m)) = d + (a - a % m + m) by have := Nat.mod_le a m; omega]
      have : (a - a % m + m) % m = 0 := by
        rw [Nat.add_mod_right]
        have := Nat.div_add_mod a m
        rw [show a - a % m = m * (a / m) by omega, Nat.mul_mod_right]
      rw [Nat.add_mod, this, Nat.add_zero, Nat.mod_mod, Nat.mod_eq_of_lt hd]
    have sa : a ≤ s := by omega
    have sb : s < a + m := by
      have := Nat.mod_lt (d + (m - a % m)) hm
      omega
    -- is b the next one?
    by_cases hab : a ≤ b
    · have e1 : resL a (b + 1) d m = resL a b d m ++ if b % m = d then [b] else [] := by
        unfold resL
        rw [show b + 1 - a = (b - a) + 1 by omega, List.range_succ, List.map_append, List.filter_append]
        congr 1
        rw [List.map_singleton, show a + (b - a) = b by omega]
        by_cases c : b % m = d <;> simp [c]
      rw [e1, ih]
      by_cases c : b % m = d
      · rw [if_pos c]
        have ge : s ≤ b := by
          refine Nat.le_of_not_lt fun lt => ?_
          have e : (s - b) % m = 0 := Nat.sub_mod_eq_zero_of_mod_eq (by rw [sm, c])
          have := Nat.mod_eq_of_lt (show s - b < m by omega)
          omega
        obtain ⟨k, hk⟩ : ∃ k, b = s + k * m := by
          have e : (b - s) % m = 0 := Nat.sub_mod_eq_zero_of_mod_eq (by rw [sm, c])
          have := Nat.div_add_mod (b - s) m
          refine ⟨(b - s) / m, ?_⟩
          rw [Nat.mul_comm]
          omega
        have q1 : (b - s + m - 1) / m = k := by
          rw [show b - s + m - 1 = (m - 1) + k * m by omega, Nat.add_mul_div_right _ _ hm, Nat.div_eq_of_lt (by omega), Nat.zero_add]
        have q2 : (b + 1 - s + m - 1) / m = k + 1 := by
          rw [show b + 1 - s + m - 1 = (k + 1) * m by rw [Nat.add_mul]; omega, Nat.mul_div_cancel _ hm]
        rw [q1, q2, List.range_succ, List.map_append, List.map_singleton, ← hk]
      · rw [if_neg c, List.append_nil]
        congr 2
        rcases Nat.lt_or_ge b s with lt | ge
        · rw [show b - s = 0 by omega, show b + 1 - s = 0 by omega]
        · have e2 : b + 1 - s + m - 1 = (b - s + m - 1) + 1 := by omega
          rw [e2, Nat.succ_div, if_neg]
          · rfl
          · intro dv
            refine c ?_
            have : (b - s) % m = 0 := by
              rw [show b - s + m - 1 + 1 = (b - s) + m by omega] at dv
              have := Nat.mod_eq_zero_of_dvd dv
              rwa [Nat.add_mod_right] at this
            have dm := Nat.div_add_mod (b - s) m
            rw [show b = s + m * ((b - s) / m) by omega, Nat.add_mul_mod_self_left, sm]
    · unfold resL
      rw [show b + 1 - a = 0 by omega, show b + 1 - s = 0 by omega, Nat.zero_add, Nat.div_eq_of_lt (by omega)]
      rfl
namespace Rd
variable {σ : L2.St} {H : Hp} {Q : VK} {ta : TA}
def rg3K (Q : VK) : List V → Hp → Prop := fun vs H1 => ∃ (i j c : Int) (n : Nat), vs = [.int i, .int j, .int c] ∧ RgC i j c n ∧ n ≤ 2 ^ 24 ∧ ∀ q, H1 q = none → Q (.ref q) (upd H1 q (.lst ((List.range n).map fun k => V.int (i + (k : Nat) * c))))
theorem lrg3 (k : ta σ H (rg3K Q)) : tLstRg3 ta σ H Q := k
end Rd
theorem rgC_up {s b m : Nat} (hm : 0 < m) (h1 : m ≤ 1000000) (hs : s ≤ 4500000000000000000) (hb : b ≤ 4500000000000000000) : RgC (s : Int) (b : Int) (m : Int) ((b - s + m - 1) / m) := by
  have rz : Builtin.Range.rangeSize (s : Int) (b : Int) (m : Int) = (((b - s + m - 1) / m : Nat) : Int) := by
    unfold Builtin.Range.rangeSize
    rw [if_pos (by omega)]
    by_cases lt : s < b
    · rw [if_pos (by omega), show (b : Int) - (s : Int) - 1 = ((b - s - 1 : Nat) : Int) by omega, show b - s + m - 1 = (b - s - 1) + m by omega, Nat.add_div_right _ hm, ← Int.natCast_ediv]
      rfl
    · rw [if_neg (by omega), show b - s = 0 by omega, Nat.zero_add, Nat.div_eq_of_lt (by omega)]
      rfl
  have hq : (b - s + m - 1) / m ≤ b - s + m - 1 := Nat.div_le_self _ _
  refine ⟨by omega, by omega, ?_, rz⟩
  unfold Builtin.Range.small
  rw [rz]
  generalize (b - s + m - 1) / m = q at *
  simp only [Builtin.Range.rangeFitsLong, Bool.and_eq_true, Bool.or_eq_true, decide_eq_true_eq, beq_iff_eq]
  rw [if_pos (by omega)]
  simp only [Bool.and_eq_true, decide_eq_true_eq]
  omega
end Tk

/-! ### Comprehensions by two walks; items told by their data -/
namespace Tk
open PySem PySem.Spec PyProof.Rows L2 Mm
namespace Rd
variable {K : PySem.W.Frag} {σ : L2.St} {H : Hp} {Q : VK} {te : TE} {tt tt1 : L2.TT}
def lc2K (g : TG) (tt : L2.TT) (wi1 : TI) (g1 : TG) (tt1 : L2.TT) (te : TE) (vs vs1 : List Nat) (σ : L2.St) (Q : VK) (J : It) (H1 : Hp) : Prop := ∀ D, H1 D = none → ∃ W : Nat → Nat → Hp → Prop, (∃ m, W 0 m (upd H1 D (.lst []))) ∧ ∀ i m H, W i m H →
  (J.stop i H ∧ Q (.ref D) H) ∨ (J.go i H ∧ ∃ Nx : Hp → Prop, (∀ H', Nx H' → ∃ m', m' < m ∧ W (i + 1) m' H') ∧ ∀ x H', J.yld i H x H' → g x (wipe σ vs) H' fun σ2 H2 => wipe σ2 vs = wipe σ vs ∧ tt σ2 H2 fun b H3 =>
    if b = true then wi1 σ2 H3 fun J1 H4 => ∃ W1 : Nat → Nat → Hp → Prop, (∃ m, W1 0 m H4) ∧ ∀ j k H, W1 j k H →
      (J1.stop j H ∧ Nx H) ∨ (J1.go j H ∧ ∃ Nx1 : Hp → Prop, (∀ H', Nx1 H' → ∃ k', k' < k ∧ W1 (j + 1) k' H') ∧ ∀ x H', J1.yld j H x H' → g1 x (wipe σ2 vs1) H' fun σ3 H5 => wipe σ3 vs1 = wipe σ2 vs1 ∧ tt1 σ3 H5 fun b H6 =>
        if b = true then te σ3 H6 fun y H7 => ∃ acc, H7 D = some (.lst acc) ∧ acc.length < sizeLine ∧ Nx1 (upd H7 D (.lst (acc ++ [y]))) else Nx1 H6)
    else Nx H3)
theorem tlc2 {wi wi1 : TI} {g g1 : TG} {vs vs1 : List Nat} (k : wi σ H (lc2K g tt wi1 g1 tt1 te vs vs1 σ Q)) : tLc2 wi g tt wi1 g1 tt1 te vs vs1 σ H Q := k
/-- [e for i in range(lo, lo + n) for x in a list of numbers] -/
theorem lc2_rng {lo : Int} {n i1 i2 N : Nat} {wi1 : TI} {vs vs1 : List Nat} (L : Nat → List Nat) (f : Nat → Nat → PyData) (hN : ((List.range n).flatMap fun i => (L i).map (f i)).length ≤ N) (hN2 : N ≤ 100000)
    (hw1 : ∀ v : V, wipe ((wipe σ vs).set i1 (some v)) vs = wipe σ vs) (hw2 : ∀ v u : V, wipe ((wipe ((wipe σ vs).set i1 (some v)) vs1).set i2 (some u)) vs1 = wipe ((wipe σ vs).set i1 (some v)) vs1)
    (hi : ∀ i : Nat, i < n → ∀ H', Same H H' → ∀ R : It → Hp → Prop, (∀ l H'', H' l = none → Same H' H'' → H'' l = some (.lst ((L i).map vn)) → R (Itl K l) H'') → wi1 ((wipe σ vs).set i1 (some (.int (lo + i)))) H' R)
    (he : ∀ i x : Nat, i < n → x ∈ L i → ∀ H' D, H D = none → Same H H' → H' D ≠ none → ∀ Q' : VK, (∀ y H'', Same H' H'' → (∀ Hx, But D H'' Hx → L2.Dp K Hx y (f i x)) → Q' y H'') → te ((wipe ((wipe σ vs).set i1 (some (.int (lo + i)))) vs1).set i2 (some (vn x))) H' Q')
    (k : ∀ D ys H', H D = none → Same H H' → H' D = some (.lst ys) → DpAll K H' ys ((List.range n).flatMap fun i => (L i).map (f i)) → Q (.ref D) H') :
    lc2K (gName i1) tYes wi1 (gName i2) tYes te vs vs1 σ Q (Itr lo n) H := fun D hD => by
  have key : ∀ (ds : List PyData) (H2 : Hp) (ys : List V), (∀ Hx, But D H2 Hx → DpAll K Hx ys ds) → ys.length = ds.length := fun ds H2 ys h => dpA_len (h H2 fun _ _ _ e => e)
  let P : List PyData → Hp → Prop := fun ds H2 => ∃ ys : List V, Same H H2 ∧ H2 D = some (.lst ys) ∧ ∀ Hx, But D H2 Hx → DpAll K Hx ys ds
  refine ⟨fun i m H2 => m = n - i ∧ i ≤ n ∧ P ((List.range i).flatMap fun i => (L i).map (f i)) H2, ⟨n, by simp, Nat.zero_le _, [], Same.nw hD (Same.refl H), upd_same, fun _ _ => .nil⟩, ?_⟩
  rintro i m H2 ⟨rfl, hin, ys, S2, h2, d2⟩
  by_cases hlt : i < n
  · refine .inr ⟨hlt, P ((List.range (i + 1)).flatMap fun i => (L i).map (f i)), fun H' p' => ⟨n - (i + 1), by omega, rfl, hlt, p'⟩, fun x H' y => ?_⟩
    obtain ⟨e, y⟩ := y
    subst e y
    refine ⟨hw1 _, yes (ift (hi i hlt _ S2 _ fun l H3 nl S3 hl => ?_))⟩
    have nDl : l ≠ D := fun q => by
      rw [q, h2] at nl
      cases nl
    have step : ∀ {Ha Hb : Hp}, Same Ha Hb → ∀ {Hx : Hp}, But D Hb Hx → But D Ha Hx := fun S _ b c o ne e => b c o ne (S _ _ e)
    refine ⟨fun j k H4 => k = (L i).length - j ∧ j ≤ (L i).length ∧ H4 l = some (.lst ((L i).map vn)) ∧ P (((List.range i).flatMap fun i => (L i).map (f i)) ++ ((L i).take j).map (f i)) H4, ⟨(L i).length, by simp, Nat.zero_le _, hl, ys, S2.trans S3, S3 _ _ h2, fun Hx b => by
      rw [List.take_zero, List.map_nil, List.append_nil]
      exact d2 Hx (step S3 b)⟩, ?_⟩
    rintro j k H4 ⟨rfl, hj, hl4, ys4, S4, h4, d4⟩
    by_cases hjl : j < (L i).length
    · have hx : (L i)[j]? = some ((L i)[j]) := List.getElem?_eq_getElem hjl
      refine .inr ⟨⟨_, vn ((L i)[j]), SqL.of hl4, by rw [List.getElem?_map, hx]; rfl⟩, fun H' => H' l = some (.lst ((L i).map vn)) ∧ P (((List.range i).flatMap fun i => (L i).map (f i)) ++ ((L i).take (j + 1)).map (f i)) H', fun H' p' => ⟨_, Nat.sub_lt_sub_left hjl (Nat.lt_succ_self j), rfl, hjl, p'⟩, fun x H' y => ?_⟩
      obtain ⟨e, y⟩ := y
      subst e
      obtain rfl : vn ((L i)[j]) = x := by
        have := y _ (SqL.of hl4)
        rw [List.getElem?_map, hx] at this
        exact Option.some.inj this
      refine ⟨hw2 _ _, yes (ift (he i _ hlt (List.getElem_mem hjl) _ D hD S4 (by rw [h4]; simp) _ fun y H5 S5 hy => ⟨ys4, S5 _ _ h4, ?_, ?_, ys4 ++ [y], fun b o e => ?_, upd_same, fun Hx b => ?_⟩))⟩
      · have e := key _ _ _ d4
        have le : (((List.range i).flatMap fun i => (L i).map (f i)) ++ ((L i).take j).map (f i)).length ≤ ((List.range n).flatMap fun i => (L i).map (f i)).length := by
          obtain ⟨r, hr⟩ : ∃ r, n = i + 1 + r := ⟨n - (i + 1), by omega⟩
          rw [hr, List.range_add, List.flatMap_append, List.range_succ, List.flatMap_append, List.length_append, List.length_append, List.length_append]
          simp only [List.flatMap_cons, List.flatMap_nil, List.append_nil, List.length_map, List.length_take]
          omega
        exact Nat.lt_of_le_of_lt (m := 100000) (by omega) (by decide)
      · rw [upd_ne nDl]
        exact S5 _ _ hl4
      · rw [upd_ne (ne_of_none e hD)]
        exact S5 _ _ (S4 _ _ e)
      · have b5 : But D H5 Hx := fun c o ne e => b c o ne (by rw [upd_ne ne]; exact e)
        have e : (L i).take (j + 1) = (L i).take j ++ [(L i)[j]] := by rw [List.take_succ, hx]; rfl
        rw [e, List.map_append, ← List.append_assoc]
        exact dpA_app (d4 Hx (step S5 b5)) (.cons (hy Hx b5) .nil)
    · have e : j = (L i).length := by omega
      subst e
      refine .inl ⟨⟨_, SqL.of hl4, by simp⟩, ys4, S4, h4, fun Hx b => ?_⟩
      have := d4 Hx b
      rw [List.take_length] at this
      rw [List.range_succ, List.flatMap_append]
      simpa using this
  · have e : i = n := by omega
    subst e
    exact .inl ⟨Nat.le_refl _, k D ys H2 hD S2 h2 (d2 _ fun _ _ _ e => e)⟩
/-- [e for x in range(lo, lo + n) if t], the items told by their data -/
theorem lc_rngD {lo : Int} {n i1 : Nat} {vs : List Nat} (c : Nat → Bool) (f : Nat → PyData) (hn : n ≤ 100000) (hw1 : ∀ v : V, wipe ((wipe σ vs).set i1 (some v)) vs = wipe σ vs)
    (ht : ∀ i : Nat, i < n → ∀ H', Same H H' → ∀ Q' : Bool → Hp → Prop, (∀ H'', Same H' H'' → Q' (c i) H'') → tt ((wipe σ vs).set i1 (some (.int (lo + i)))) H' Q')
    (he : ∀ i : Nat, i < n → c i = true → ∀ H' D, H D = none → Same H H' → H' D ≠ none → ∀ Q' : VK, (∀ y H'', Same H' H'' → (∀ Hx, But D H'' Hx → L2.Dp K Hx y (f i)) → Q' y H'') → te ((wipe σ vs).set i1 (some (.int (lo + i)))) H' Q')
    (k : ∀ D ys H', H D = none → Same H H' → H' D = some (.lst ys) → DpAll K H' ys (((List.range n).filter c).map f) → Q (.ref D) H') : lcK (gName i1) tt te vs σ Q (Itr lo n) H := fun D hD => by
  refine lc_range (lo := lo) (n := n) (fun i H2 => ∃ ys : List V, Same H H2 ∧ H2 D = some (.lst ys) ∧ ys.length ≤ i ∧ ∀ Hx, But D H2 Hx → DpAll K Hx ys (((List.range i).filter c).map f)) ⟨[], Same.nw hD (Same.refl H), upd_same, Nat.le_refl _, fun _ _ => .nil⟩ ?_ fun H2 ⟨ys, S2, h2, hl, hR⟩ => k D ys H2 hD S2 h2 (hR _ fun _ _ _ e => e)
  rintro i H2 hi ⟨ys, S2, h2, hl, hR⟩
  have e1 : (List.range (i + 1)).filter c = (List.range i).filter c ++ if c i = true then [i] else [] := by
    rw [List.range_succ, List.filter_append]
    congr 1
    by_cases h : c i = true <;> simp [h]
  have stp : ∀ {Ha Hb : Hp}, Same Ha Hb → ∀ {Hx : Hp}, But D Hb Hx → But D Ha Hx := fun S _ b c o ne e => b c o ne (S _ _ e)
  refine ⟨hw1 _, ht i hi H2 S2 _ fun H3 S3 => bb (fun hc => ?_) (fun hc => ?_)⟩
  · refine he i hi hc H3 D hD (S2.trans S3) (by rw [S3 _ _ h2]; simp) _ fun y H4 S4 hy => ⟨ys, S4 _ _ (S3 _ _ h2), Nat.lt_of_le_of_lt (m := 100000) (by omega) (by decide), ys ++ [y], fun b o e => ?_, upd_same, by rw [List.length_append]; exact Nat.succ_le_succ hl, fun Hx b => ?_⟩
    · rw [upd_ne (ne_of_none e hD)]
      exact S4 _ _ (S3 _ _ (S2 _ _ e))
    · have b4 : But D H4 Hx := fun c o ne e => b c o ne (by rw [upd_ne ne]; exact e)
      rw [e1, if_pos hc, List.map_append]
      exact dpA_app (hR Hx (stp (S3.trans S4) b4)) (.cons (hy Hx b4) .nil)
  · refine ⟨ys, S2.trans S3, S3 _ _ h2, by omega, fun Hx b => ?_⟩
    rw [e1, if_neg (by rw [hc]; decide), List.append_nil]
    exact hR Hx (stp S3 b)
/-- over a list -/
theorem lc_lstD {a : Addr} {xs : List V} {i1 : Nat} {vs : List Nat} (c : Nat → Bool) (f : Nat → PyData) (ha : SqL K H a xs) (hn : xs.length ≤ 100000) (hw1 : ∀ v : V, wipe ((wipe σ vs).set i1 (some v)) vs = wipe σ vs)
    (ht : ∀ (i : Nat) x, xs[i]? = some x → ∀ H', Same H H' → ∀ Q' : Bool → Hp → Prop, (∀ H'', Same H' H'' → Q' (c i) H'') → tt ((wipe σ vs).set i1 (some x)) H' Q')
    (he : ∀ (i : Nat) x, xs[i]? = some x → c i = true → ∀ H' D, H D = none → Same H H' → H' D ≠ none → ∀ Q' : VK, (∀ y H'', Same H' H'' → (∀ Hx, But D H'' Hx → L2.Dp K Hx y (f i)) → Q' y H'') → te ((wipe σ vs).set i1 (some x)) H' Q')
    (k : ∀ D ys H', H D = none → Same H H' → H' D = some (.lst ys) → DpAll K H' ys (((List.range xs.length).filter c).map f) → Q (.ref D) H') : lcK (gName i1) tt te vs σ Q (Itl K a) H := fun D hD => by
  refine lc_list (K := K) (a := a) (xs := xs) (fun i H2 => ∃ ys : List V, Same H H2 ∧ H2 D = some (.lst ys) ∧ ys.length ≤ i ∧ ∀ Hx, But D H2 Hx → DpAll K Hx ys (((List.range i).filter c).map f)) ⟨[], Same.nw hD (Same.refl H), upd_same, Nat.le_refl _, fun _ _ => .nil⟩ (fun i H2 _ ⟨_, S2, _⟩ => S2.seq ha) ?_ fun H2 ⟨ys, S2, h2, hl, hR⟩ => k D ys H2 hD S2 h2 (hR _ fun _ _ _ e => e)
  rintro i x H2 hx ⟨ys, S2, h2, hl, hR⟩
  have hi : i < xs.length := (List.getElem?_eq_some_iff.mp hx).1
  have e1 : (List.range (i + 1)).filter c = (List.range i).filter c ++ if c i = true then [i] else [] := by
    rw [List.range_succ, List.filter_append]
    congr 1
    by_cases h : c i = true <;> simp [h]
  have stp : ∀ {Ha Hb : Hp}, Same Ha Hb → ∀ {Hx : Hp}, But D Hb Hx → But D Ha Hx := fun S _ b c o ne e => b c o ne (S _ _ e)
  refine ⟨hw1 _, ht i x hx H2 S2 _ fun H3 S3 => bb (fun hc => ?_) (fun hc => ?_)⟩
  · refine he i x hx hc H3 D hD (S2.trans S3) (by rw [S3 _ _ h2]; simp) _ fun y H4 S4 hy => ⟨ys, S4 _ _ (S3 _ _ h2), Nat.lt_of_le_of_lt (m := 100000) (by omega) (by decide), ys ++ [y], fun b o e => ?_, upd_same, by rw [List.length_append]; exact Nat.succ_le_succ hl, fun Hx b => ?_⟩
    · rw [upd_ne (ne_of_none e hD)]
      exact S4 _ _ (S3 _ _ (S2 _ _ e))
    · have b4 : But D H4 Hx := fun c o ne e => b c o ne (by rw [upd_ne ne]; exact e)
      rw [e1, if_pos hc, List.map_append]
      exact dpA_app (hR Hx (stp (S3.trans S4) b4)) (.cons (hy Hx b4) .nil)
  · refine ⟨ys, S2.trans S3, S3 _ _ h2, by omega, fun Hx b => ?_⟩
    rw [e1, if_neg (by rw [hc]; decide), List.append_nil]
    exact hR Hx (stp S3 b)
end Rd
end Tk

/-! ### Lambdas that may raise, as tracked objects -/
namespace Tk
open PySem PySem.Spec PyProof.Rows L2 LamX
namespace Cz
/-- a lambda whose parameters all have defaults -/
structure LamD (sc scope : Scope) (as : List Str) : Prop where
  kd : scope.kind = .function
  co : scope.isCoroutine = false
  gen : scope.isGenerator = false
  par : ∀ a ∈ as, scope.names.lookup a = some .local
  own : ∀ y ∈ scope.names, (y.2 = .local → y.1 ∈ as) ∧ y.2 ≠ .cell
  fre : ∀ y ∈ scope.names, y.2 = .free → sc.names.lookup y.1 = some .cell ∨ sc.names.lookup y.1 = some .free
def lamDB (sc scope : Scope) (as : List Str) : Bool :=
  decide (scope.kind = .function) && (!scope.isCoroutine && (!scope.isGenerator && ((as.all fun a => decide (scope.names.lookup a = some .local)) && scope.names.all fun y => (!decide (y.2 = .local) || decide (y.1 ∈ as)) && (!decide (y.2 = .cell) && (!decide (y.2 = .free) || (decide (sc.names.lookup y.1 = some .cell) || decide (sc.names.lookup y.1 = some .free)))))))
theorem lamD_by {sc scope : Scope} {as : List Str} (h : lamDB sc scope as = true) : LamD sc scope as := by
  unfold lamDB at h
  simp only [Bool.and_eq_true, Bool.or_eq_true, Bool.not_eq_true', decide_eq_true_eq, decide_eq_false_iff_not, List.all_eq_true] at h
  obtain ⟨h1, h2, h3, h4, h5⟩ := h
  refine ⟨h1, h2, h3, h4, fun y hy => ⟨fun e => ?_, (h5 y hy).2.1⟩, fun y hy e => ?_⟩
  · rcases (h5 y hy).1 with z | z
    · exact absurd e z
    · exact z
  · rcases (h5 y hy).2.2 with z | z
    · exact absurd e z
    · exact z
/-- the context of its body -/
def lamCxD (X : Cx) (as : List Str) (A : Around) (outer : List Env) (s : Shared) (H : Hp) (E : XK) (scope : Scope) (f c' : Addr) : Cx := { lamCx X A outer s H E scope f c' with N := X.N ++ as }
/-- a function object keeps a promise: called with no argument it does what R says -/
def LamOkE (P : Program) (w : World) (K : PySem.W.Frag) (mg : Str → Option Value) (base : Heap) (k : Nat) (obj : Obj) (R : XK → Hp → VK → Prop) : Prop :=
  ∀ (A : Around) (outer : List Env) (s : Shared) (H : Hp) (f : Addr) (Q : VK) (E : XK), Room (k + 1) A → Env0 P w K mg base A outer s H → s.heap.get? f = some obj → R E H Q →
    codeAny (model P w) A (.call (.ref f) ⟨[], []⟩) (CR (L2.CX P w) outer P w H s Q E) s
section
variable {X : Cx} {scope : Scope} {as : List Str}
theorem clo_upD (ok : X.Ok) (L : LamD X.env.scope scope as) {q : Str} {c : Addr} (e : (cloFrom X.env.cells scope.names []).lookup q = some c) : X.env.cells.lookup q = some c ∧ (q, NameKind.free) ∈ scope.names := by
  rcases cloFrom_mem (PySem.mem_of_lookup e) with hm | ⟨z1, z2⟩
  · cases hm
  · obtain ⟨d, hd⟩ := (L.fre _ z1 rfl).elim (fun z => ok.has _ (.inl z)) fun z => ok.has _ (.inr z)
    have hd : X.env.cells.lookup q = some d := hd
    have e2 : c = d := by rw [z2, hd] <;> rfl
    rw [e2]
    exact ⟨hd, z1⟩
theorem capt_celsD {σ : L2.St} {H : Hp} (h : Capt X scope σ H) : Cels H (kap X scope) := fun c hc => by
  obtain ⟨⟨q, d⟩, hm, rfl⟩ := List.mem_map.mp hc
  rcases cloFrom_mem hm with m | ⟨z1, z2⟩
  · cases m
  · obtain ⟨i, v, o, _, _, e, r⟩ := h _ z1 rfl
    exact ⟨o, v, by rw [show d = kapA X q from z2]; exact e, r⟩
theorem lamD_start {σ : L2.St} {H : Hp} {s1 : Shared} {ys : List V} {us : List Value} {A : Around} {outer : List Env} {E : XK} {f c' : Addr} {h₁ : Heap} {tk : Nat} (ok : X.Ok) (L : LamD X.env.scope scope as) (hna : ∀ a ∈ as, a ∉ X.N) (hone : as.length ≤ 1) (hlen : σ.length = X.N.length) (hN : X.N.Nodup) (hC : Capt X scope σ H) (e0 : Env0 X.prog X.w X.K X.mg X.base A outer s1 H) (hd : A.handled = none)
    (ry : Vals ys us) (hl : ys.length = as.length) (hns : h₁.Ns s1.heap.objs.size fun x => (as.zip us).reverse.lookup x) (kp : ∀ b o, s1.heap.get? b = some o → h₁.get? b = some o) :
    Inv (lamCxD X as A outer s1 (remL H (kap X scope)) E scope f c') [] (σ ++ ys.map some) (remL H (kap X scope)) { s1 with heap := h₁, toks := tk } := by
  have hc := capt_celsD hC
  have hok2 : HOk X.prog X.w (remL H (kap X scope)) s1.heap := remL_hok hc e0.hok
  have cel : ∀ {q c}, (cloFrom X.env.cells scope.names []).lookup q = some c → ∃ u, h₁.IsCell c (some u) := fun {q c} e => by
    obtain ⟨o, x, z, u, _, d⟩ := hc c (kap_mem e)
    exact ⟨u, o, kp _ _ (fnO_get e0.hok z), d⟩
  have none0 : ∀ b : Addr, b ∉ (lamCxD X as A outer s1 (remL H (kap X scope)) E scope f c').ex := fun b z => by cases (show b ∈ ([] : List Addr) from z)
  refine ⟨⟨e0.mod, L.kd, rfl, rfl, Nat.le_refl _, fun p q c e1 e2 => ok.inj p q c (clo_upD ok L e1).1 (clo_upD ok L e2).1, fun q hq => ?_, fun q c z _ => ?_, fun _ => hd, Around.frames_deeper e0.frames, .inr ⟨rfl, rfl⟩, fun b z => absurd z (none0 b), fun b o e => ⟨(e0.bs b o e).1, remL_none (e0.bs b o e).2⟩, e0.bsz, fun b _ _ => none0 b,
      fun b z => absurd z (none0 b), e0.funs, fun b hb => remL_none (e0.frf b hb)⟩,
    rfl, e0.bare, Un.kept kp, ⟨_, hns, fun i q u e1 e2 e3 => ?_⟩, fun q c e => ?_, hok2.fresh (Nat.le_refl _), fun q c e => remL_in (kap_mem e), fun q hq => absurd (show q ∈ ([] : List (Addr × Obj)) ++ [] from hq) (by simp), hok2.kept kp, ?_⟩
  · rcases (show scope.names.lookup q = some .cell ∨ scope.names.lookup q = some .free from hq) with z | z
    · exact absurd rfl (L.own _ (PySem.mem_of_lookup z)).2
    · exact clo_has z
  · cases (show false = true from z)
  · have e1 : (X.N ++ as)[i]? = some q := e1
    have e3 : Vis scope q := e3
    rcases Nat.lt_or_ge i X.N.length with lt | ge
    · rw [List.getElem?_append_left lt] at e1
      rw [List.getElem?_append_left (by rw [hlen]; exact lt)] at e2
      have qn : q ∉ as := fun z => hna q z (List.mem_of_getElem? e1)
      have kf : scope.names.lookup q = some .free := by
        rcases e3 with z | z | z
        · exact absurd ((L.own _ (PySem.mem_of_lookup z)).1 rfl) qn
        · exact absurd rfl (L.own _ (PySem.mem_of_lookup z)).2
        · exact z
      obtain ⟨d, hd2⟩ := clo_has (X := X) kf
      have ka : kapA X q = d := by unfold kapA; rw [(clo_upD ok L hd2).1]; rfl
      obtain ⟨o, z, x, r, dd⟩ := capt_val hN hC e1 kf e2
      rw [ka] at z
      exact ⟨x, r, .inr ⟨.inr kf, d, hd2, o, kp _ _ (fnO_get e0.hok z), dd⟩⟩
    · have hi := (List.getElem?_eq_some_iff.mp e1).1
      rw [List.length_append] at hi
      rcases as with _ | ⟨a, _ | ⟨b, r⟩⟩
      · exact absurd ge (Nat.not_le.mpr hi)
      · have hi : i = X.N.length := by
          have : i < X.N.length + 1 := hi
          omega
        subst hi
        rw [List.getElem?_append_right (Nat.le_refl _), Nat.sub_self] at e1
        obtain rfl : a = q := Option.some.inj e1
        cases ry with
        | nil => cases hl
        | @cons y v _ _ ry rn =>
          cases rn with
          | cons _ _ => cases hl
          | nil =>
            rw [List.getElem?_append_right (by rw [hlen]; exact Nat.le_refl _), hlen, Nat.sub_self] at e2
            have eu : some y = some u := Option.some.inj e2
            cases eu
            refine ⟨v, ry, .inl ⟨L.par a List.mem_cons_self, ?_⟩⟩
            show (match a == a with | true => some v | false => _) = some v
            rw [beq_self_eq_true]
      · exact absurd hone (by simp)
  · obtain ⟨u, z⟩ := cel e
    exact ⟨_, z⟩
  · show (σ ++ ys.map some).length = (X.N ++ as).length
    rw [List.length_append, List.length_append, hlen, List.length_map, hl]
/-- an error behind the body: the cells as they were -/
theorem cx_put {P : Program} {w : World} {K : PySem.W.Frag} {mg : Str → Option Value} {base : Heap} {A : Around} {outer : List Env} {H : Hp} {s s' : Shared} {l : List Addr} {E : XK} {e : Value} (hc : Cels H l) (e0 : Env0 P w K mg base A outer s H) (h : L2.CX P w outer (remL H l) s (fun c d H' => (∀ b ∈ l, H' b = none) → E c d (putB H H' l)) e s') : L2.CX P w outer H s E e s' := by
  obtain ⟨a, B, H', cls, d, rfl, fl, hok, ub, na, os, ag, hE⟩ := h
  have keep : ∀ c ∈ l, ∀ o, s.heap.get? c = some o → B.get? c = some o := fun c m o e => by
    obtain ⟨_, x, z, _⟩ := hc c m
    refine ub.keep c o e (remL_in m) fun hb => ?_
    have := e0.frf c hb
    rw [z] at this
    cases this
  have out : ∀ c ∈ l, H' c = none := fun c m => by
    obtain ⟨o, x, z, _⟩ := hc c m
    exact ub.free c o (fnO_get e0.hok z) (remL_in m)
  have nl : ∀ {b : Addr}, H b = none → b ∉ l := fun {b} e q => by
    obtain ⟨_, v, z, _⟩ := hc b q
    rw [e] at z
    cases z
  refine ⟨a, B, putB H H' l, cls, d, rfl, fl, putB_hok hc e0.hok hok keep out, ⟨fun b o e n hb => ub.keep b o e (remL_none n) hb, ub.slot, fun b o e n => ?_, ub.there, fun b xs e => ?_, fun b o xs e => ?_, fun b ps e => ?_⟩, ?_, os, ag, hE out⟩
  · rw [putB_out (nl n)]
    exact ub.free b o e (remL_none n)
  · have q := remL_keep hc e fun φ z => by cases z
    rw [putB_out (remL_some q).1]
    exact ub.tups b xs q
  · have q := remL_keep hc e fun φ z => by cases z
    rw [putB_out (remL_some q).1]
    exact ub.frzs b o xs q
  · have q := remL_keep hc e fun φ z => by cases z
    obtain ⟨more, r⟩ := ub.tbls b ps q
    exact ⟨more, by rw [putB_out (remL_some q).1]; exact r⟩
  · by_cases m : a ∈ l
    · obtain ⟨o, x, z, _⟩ := hc a m
      have q := keep a m o (fnO_get e0.hok z)
      rw [fl.2.1] at q
      cases q
    · rw [putB_out m]
      exact na
/-- what its body makes, its cells tracked; T0: where its defaults lie -/
def LamRE (X : Cx) (scope : Scope) (c' T0 : Addr) (o0 : Obj) (ys : List V) (t : XK → TE) : XK → Hp → VK → Prop := fun E H Q => ∃ σ : L2.St, σ.length = X.N.length ∧ Capt X scope σ H ∧
  H c' = some (CodeO c' (X.env.qual ++ "<lambda>")) ∧ H T0 = some (FnO T0 o0) ∧ t (fun c d H' => (∀ b ∈ kap X scope, H' b = none) → E c d (putB H H' (kap X scope))) (σ ++ ys.map some) (remL H (kap X scope)) fun v H' => (∀ b ∈ kap X scope, H' b = none) → Q v (putB H H' (kap X scope))
theorem lamOkE_of {k : Nat} {c' T0 : Addr} {o0 : Obj} {fd : FuncData} {ys : List V} {us : List Value} {body : Expr} {t : XK → TE} {params : Arguments} {dV doc pm ctv : Value} (ok : X.Ok) (hN : X.N.Nodup) (L : LamD X.env.scope scope as) (hna : ∀ a ∈ as, a ∉ X.N) (hone : as.length ≤ 1) (ry : Vals ys us) (hl : ys.length = as.length)
    (hfd : fd = PySem.W.kdv_fn "<lambda>" (X.env.qual ++ "<lambda>") params (.expr body) scope (cloFrom X.env.cells scope.names []) dV doc pm (.ref c') ctv)
    (hbind : ∀ s : Shared, s.heap.get? T0 = some o0 → BindsTo s fd ⟨[], []⟩ (as.zip us))
    (hbody : ∀ (A : Around) (outer : List Env) (s : Shared) (H : Hp) (E : XK) (f : Addr), Room k (A.deeper (lamEnv X scope s.heap.objs.size f c')) → PE (lamCxD X as A outer s H E scope f c') body (t E)) :
    LamOkE X.prog X.w X.K X.mg X.base k { cls := .type "function", data := .func fd } (LamRE X scope c' T0 o0 ys t) := by
  intro A outer s H f Q E hr e0 hf hR
  obtain ⟨σ, hlen, hC, hcode, hT0, ht⟩ := hR
  have hc := capt_celsD hC
  have hB := hbind s (fnO_get e0.hok hT0)
  subst hfd
  obtain ⟨⟨oc, vs, tt, hoc, hdc, hvc⟩, _, _⟩ := e0.hok c' _ hcode
  have lim : s.heap.NoLimit := e0.mod.nolimit.keeps fun b o e => (e0.bs b o e).1
  refine PySem.W.kla_callFunE hr.depth hf rfl L.co L.gen rfl ⟨c', oc, vs, tt, rfl, hoc, hdc, hvc⟩ (hB _ _ _ _ ?_)
  refine wpAny_newFunctionEnv (fun q hq => (L.own q hq).2) (fun q hq => L.par _ (List.of_mem_zip hq).1) (fun h₁ hns hsb => ⟨lim.fresh _ hsb, ?_⟩) L.kd
  have kp : ∀ b o, s.heap.get? b = some o → h₁.get? b = some o := fun b o z => hsb.extBut b o (Nat.ne_of_lt (Heap.lt_size z)) (Heap.get?_push_of_some _ z)
  have J := lamD_start (E := fun c d H' => (∀ b ∈ kap X scope, H' b = none) → E c d (putB H H' (kap X scope))) (f := f) (c' := c') (tk := s.toks + (as.zip us).length) ok L hna hone hlen hN hC e0 hr.hd ry hl hns kp
  refine PySem.W.kla_codeExpr (wpAny_mono ((hbody A outer s _ _ f (hr.deeper _)).run [] _ _ _ _ J ht) (fun v s' z => ?_) fun er s' z => ?_)
  · obtain ⟨w', H', J', rv', q'⟩ := z
    have un : Un (frs outer) [] (remL H (kap X scope)) H' s.heap s'.heap := J'.base
    have out : ∀ c ∈ kap X scope, H' c = none := fun c m => by
      obtain ⟨o, x, z, _⟩ := hc c m
      exact un.free c o (fnO_get e0.hok z) (remL_in m) (by simp)
    have keep : ∀ c ∈ kap X scope, ∀ o, s.heap.get? c = some o → s'.heap.get? c = some o := fun c m o e => by
      obtain ⟨_, x, z, _⟩ := hc c m
      refine un.keep c o e (remL_in m) (fun hb => ?_) (by simp)
      have := e0.frf c hb
      rw [z] at this
      cases this
    exact ⟨w', putB H H' (kap X scope), J'.os, J'.bare, putB_un hc un out, putB_hok hc e0.hok J'.hok keep out, rv', q' out⟩
  · exact wpAny_mono z (fun _ s2 q => cx_put hc e0 q) fun _ s2 q => cx_put hc e0 q
end
/-! making them -/
abbrev lobD (X : Cx) (params : Arguments) (body : Expr) (scope : Scope) (dV doc pm cdv ctv : Value) : FuncData := PySem.W.kdv_fn "<lambda>" (lnm X) params (.expr body) scope (cloFrom X.env.cells scope.names []) dV doc pm cdv ctv
theorem lamD_new {X : Cx} {pins : List (Addr × Obj)} {σ : L2.St} {H : Hp} {s : Shared} {T : List (Addr × Str)} {e : Expr} {y : V} {params : Arguments} {body : Expr} {scope : Scope} {pos : Pos} {Rs : Value → Shared → Prop} (I : Inv X pins σ H s) (tx : TabX X T) (tabs : Tabs T H)
    (hd : params.defaults = [e]) (hk0 : params.kw_defaults = []) (he : PE X e (tC y)) (caps : ∀ y ∈ scope.names, y.2 = .free → ∃ c, X.env.cells.lookup y.1 = some c)
    (goal : ∀ (s1 : Shared) (f cd T0 : Addr) (u doc pm ctv : Value) (G : Hp) (t : Shared), Inv X pins σ H s1 → Inv X pins σ G t → ExtN H G → Tabs T G → RelV y u → t.heap.get? T0 = some (PySem.W.kdv_tup [u]) → t.heap.get? f = some { cls := .type "function", data := .func (lobD X params body scope (.ref T0) doc pm (.ref cd) ctv) } → s1.heap.objs.size ≤ T0 → T0 < f → G T0 = none → G f = none → G cd = some (CodeO cd (lnm X)) → Rs (.ref f) t) :
    wpAny (model X.prog X.w) X.A (eval (.Lambda params body scope pos) X.env) Rs X.xe s := by
  refine PySem.W.kdv_lam (by rw [hd]; rfl) hk0 ?_
  rw [hd]
  refine PySem.W.kdv_all1 (wpAny_mono (he.run pins s σ H (fun v H1 => v = y ∧ H1 = H) I ⟨rfl, rfl⟩) (fun u s1 z => ?_) fun _ _ z => z)
  obtain ⟨v, H1, I1, ru, rfl, rfl⟩ := z
  refine PySem.W.kdv_all0 ?_
  rw [makeFunction_eq]
  simp only [List.zip_nil_right, List.filterMap_nil, List.isEmpty_nil, List.isEmpty_cons, if_true, pure_bind, Bool.false_eq_true, if_false]
  refine wpAny_bind (wpAny_newTextTuple ?_)
  obtain ⟨s2, hs2⟩ : ∃ s2 : Shared, s2 = { s1 with heap := s1.heap.push (PySem.W.kdv_tup [u]) } := ⟨_, rfl⟩
  show wpAny _ _ _ _ _ { s1 with heap := s1.heap.push (PySem.W.kdv_tup [u]) }
  rw [← hs2]
  have g0 : s2.heap.get? s1.heap.objs.size = some (PySem.W.kdv_tup [u]) := by
    rw [hs2]
    show (s1.heap.push (PySem.W.kdv_tup [u])).get? s1.heap.objs.size = _
    exact Heap.get?_push_size _ rfl
  have sz : s1.heap.objs.size < s2.heap.objs.size := Heap.lt_size g0
  have I2 : Inv X pins σ H1 s2 := by
    rw [hs2]
    exact I1.kept fun b o e => Heap.get?_push_of_some _ e
  have n0 : H1 s1.heap.objs.size = none := I1.hok.fresh (Nat.le_refl _)
  clear hs2
  obtain ⟨c, TP, TB, hcode, hmem, honly⟩ := tx
  obtain ⟨tb, htb, htr, hknown⟩ := tabs _ hmem
  have atT : s2.heap.get? TP = some { cls := .none, data := .fields tb } := I2.hok TP _ htb
  have bTP := TB.bm.keeps I2.bk
  have gl := I2.mod.glob.keeps I2.bk
  have cd0 := TB.code.keeps I2.bk
  have n0T : s1.heap.objs.size ≠ TP := fun q => by
    rw [q, htb] at n0
    cases n0
  cases hh : codeAmong pos tb.toList with
  | some cv =>
    obtain ⟨cd, rfl, hco⟩ := hknown pos cv hh
    refine PySem.W.kdv_makeTailHit (mg := X.mg) (c := c) (P := TP) (ps := tb) (closure_ok caps) I2.ok.glob gl hcode cd0 atT htr hh bTP fun ctv doc h1 tk old big => ?_
    refine goal s1 h1.objs.size cd s1.heap.objs.size u doc ((X.mg "__name__").getD .none) ctv H1 _ I1 (I2.kept fun b o e => Heap.get?_push_of_some _ (old b o e)) (ExtN.refl H1) tabs ru (Heap.get?_push_of_some _ (old _ _ g0)) ?_ (Nat.le_refl _) (Nat.lt_of_lt_of_le sz big) n0 (I2.hok.fresh big) hco
    exact Heap.get?_push_size _ rfl
  | none =>
    refine PySem.W.kdv_makeTail (mg := X.mg) (c := c) (P := TP) (ps := tb) (closure_ok caps) I2.ok.glob gl hcode cd0 atT htr hh TB.gP bTP fun cd ctv doc h1 tk old ge lt rec_ nt => ?_
    obtain ⟨_, oc, vs, tt, er, hoc, hdt, hvs⟩ := rec_
    cases er
    have big : s2.heap.objs.size ≤ h1.objs.size := Nat.le_trans ge (Nat.le_of_lt lt)
    have free1 : H1 cd = none := I2.hok.fresh ge
    have J := inv_table (t' := tk) (more := #[rawInt pos.line, rawInt pos.col, .ref cd]) (h' := h1.push { cls := .type "function", data := .func (lobD X params body scope (.ref s1.heap.objs.size) doc ((X.mg "__name__").getD .none) (.ref cd) ctv) }) I2 htb
      (fun b o nb e => Heap.get?_push_of_some _ (old b o nb e)) (Heap.get?_push_of_some _ nt) ge ⟨oc, vs, tt, Heap.get?_push_of_some _ hoc, hdt, hvs⟩
    have ext : ExtN H1 (upd (upd H1 TP (.tbl (tb ++ #[rawInt pos.line, rawInt pos.col, .ref cd]))) cd (CodeO cd (lnm X))) := fun b o e n => by
      have n1 : b ≠ cd := ne_of_none e free1
      have n2 : b ≠ TP := fun z => by
        rw [z, htb] at e
        exact n tb (Option.some.inj e).symm
      rw [upd_ne n1, upd_ne n2]
      exact e
    refine goal s1 h1.objs.size cd s1.heap.objs.size u doc ((X.mg "__name__").getD .none) ctv _ _ I1 J ext (fun p hp => ?_) ru (Heap.get?_push_of_some _ (old _ _ n0T g0)) (Heap.get?_push_size _ rfl) (Nat.le_refl _) (Nat.lt_of_lt_of_le sz big) ?_ ?_ upd_same
    · have el : (tb ++ #[rawInt pos.line, rawInt pos.col, .ref cd]).toList = tb.toList ++ [rawInt pos.line, rawInt pos.col, .ref cd] := by simp
      by_cases isP : p.1 = TP
      · rw [honly p hp isP, isP]
        refine ⟨_, by rw [upd_ne (ne_of_none htb free1), upd_same], by rw [el]; exact PySem.TriplesOk_snoc _ _ _ _ htr, fun q cv hq => ?_⟩
        rw [el] at hq
        rcases among_app _ htr hq with z | z
        · obtain ⟨d, r1, r2⟩ := hknown q cv z
          exact ⟨d, r1, ext _ _ r2 codeO_ne⟩
        · exact ⟨cd, z, upd_same⟩
      · obtain ⟨tb2, r1, r2, r3⟩ := tabs p hp
        refine ⟨tb2, by rw [upd_ne (ne_of_none r1 free1), upd_ne isP]; exact r1, r2, fun q cv hq => ?_⟩
        obtain ⟨d, r4, r5⟩ := r3 q cv hq
        exact ⟨d, r4, ext _ _ r5 codeO_ne⟩
    · rw [upd_ne (Nat.ne_of_lt (Nat.lt_of_lt_of_le sz ge)), upd_ne n0T]
      exact n0
    · rw [upd_ne (Nat.ne_of_gt lt), upd_ne (Nat.ne_of_gt (Nat.lt_of_lt_of_le (Heap.lt_size atT) big))]
      exact I2.hok.fresh big
/-- a lambda as a value: a tracked function that keeps its promise -/
def tLamE (X : Cx) (T : List (Addr × Str)) (k : Nat) (scope : Scope) (ys : List V) (t : XK → TE) : TE := fun _ H Q => Tabs T H ∧ ∀ (f cd T0 : Addr) (o0 : Obj) (fd : FuncData) (H1 : Hp), H f = none → H T0 = none → ExtN H H1 → Tabs T H1 → H1 f = some (FnO f { cls := .type "function", data := .func fd }) → H1 T0 = some (FnO T0 o0) → H1 cd = some (CodeO cd (lnm X)) →
  LamOkE X.prog X.w X.K X.mg X.base k { cls := .type "function", data := .func fd } (LamRE X scope cd T0 o0 ys t) → Q (.ref f) H1
theorem ext_new {H G : Hp} {f : Addr} {o : HO} {T : List (Addr × Str)} (x : ExtN H G) (t : Tabs T G) (n : G f = none) : ExtN H (upd G f o) ∧ Tabs T (upd G f o) := by
  have e : ∀ b u, G b = some u → upd G f o b = some u := fun b u e => by
    rw [upd_ne (ne_of_none e n)]
    exact e
  exact ⟨fun b u h z => e _ _ (x b u h z), t.ext e⟩
theorem pe_lamD0 {X : Cx} {T : List (Addr × Str)} {k : Nat} {params : Arguments} {body : Expr} {scope : Scope} {pos : Pos} {t : XK → TE} (tx : TabX X T) (hN : X.N.Nodup) (L : LamD X.env.scope scope []) (_hna : ∀ a ∈ ([] : List Str), a ∉ X.N)
    (hbody : ∀ (A : Around) (outer : List Env) (s : Shared) (H : Hp) (E : XK) (f c' : Addr), Room k (A.deeper (lamEnv X scope s.heap.objs.size f c')) → PE (lamCxD X [] A outer s H E scope f c') body (t E)) (nodef : defaultsOf params X.env = ([], []) := by rfl)
    (hbind : ∀ (q : Str) (cl : List (Str × Addr)) (pm cv ctv : Value), bindArgs (PySem.W.kla_fn "<lambda>" q params body scope cl pm cv ctv) ⟨[], []⟩ = pure [] := by exact fun _ _ _ _ _ => rfl) :
    PE X (.Lambda params body scope pos) (tLamE X T k scope [] t) := by
  refine ⟨fun pins s σ H Q I h => ?_⟩
  obtain ⟨hT, h⟩ := h
  refine lam_new I tx hT nodef (fun y hy e => (L.fre y hy e).elim (fun z => I.ok.has _ (.inl z)) fun z => I.ok.has _ (.inr z)) fun f cd pm ctv G s' J ext hTG hf big hn hco => ?_
  have J2 := track I J hf big hn
  obtain ⟨x2, t2⟩ := ext_new (o := FnO f (lob X params body scope pm cd ctv)) ext hTG hn
  have hco2 : upd G f (FnO f (lob X params body scope pm cd ctv)) cd = some (CodeO cd (lnm X)) := by
    rw [upd_ne (ne_of_none hco hn)]
    exact hco
  refine ⟨.ref f, _, J2, rfl, h f cd f (lob X params body scope pm cd ctv) _ _ (I.hok.fresh big) (I.hok.fresh big) x2 t2 upd_same upd_same hco2 ?_⟩
  exact lamOkE_of (as := []) (us := []) (dV := .none) (doc := .none) I.ok hN L (fun _ z => nomatch z) (Nat.zero_le _) .nil rfl rfl (fun s' _ => BindsTo.of_eq (hbind _ _ _ _ _)) fun A outer s H E f' hr => hbody A outer s H E f' cd hr
theorem pe_lamD1 {X : Cx} {T : List (Addr × Str)} {k : Nat} {a : Str} {n : Int} {cp : Pos} {params : Arguments} {body : Expr} {scope : Scope} {pos : Pos} {t : XK → TE} (tx : TabX X T) (hN : X.N.Nodup) (L : LamD X.env.scope scope [a]) (hna : ∀ b ∈ [a], b ∉ X.N)
    (hbody : ∀ (A : Around) (outer : List Env) (s : Shared) (H : Hp) (E : XK) (f c' : Addr), Room k (A.deeper (lamEnv X scope s.heap.objs.size f c')) → PE (lamCxD X [a] A outer s H E scope f c') body (t E)) (hd : params.defaults = [.Constant (.int n) 0 cp] := by rfl) (hk0 : params.kw_defaults = [] := by rfl)
    (hbind : ∀ (q : Str) (cl : List (Str × Addr)) (T0 : Addr) (doc pm cv ctv : Value), ∃ k : Option (Array Value) → Sem (List (Str × Value)), bindArgs (PySem.W.kdv_fn "<lambda>" q params (.expr body) scope cl (.ref T0) doc pm cv ctv) ⟨[], []⟩ = seqItems? (.ref T0) >>= k ∧ ∀ u, k (some #[u]) = pure [(a, u)] := by exact fun _ _ _ _ _ _ _ => ⟨_, rfl, fun _ => rfl⟩) :
    PE X (.Lambda params body scope pos) (tLamE X T k scope [.int n] t) := by
  refine ⟨fun pins s σ H Q I h => ?_⟩
  obtain ⟨hT, h⟩ := h
  refine lamD_new (y := .int n) I tx hT hd hk0 pe_int (fun y hy e => (L.fre y hy e).elim (fun z => I.ok.has _ (.inl z)) fun z => I.ok.has _ (.inr z)) fun s1 f cd T0 u doc pm ctv G s' I1 J ext hTG ru h0 hf big lt n0 hn hco => ?_
  have J1 := track I1 J h0 big n0
  obtain ⟨x1, t1⟩ := ext_new (o := FnO T0 (PySem.W.kdv_tup [u])) ext hTG n0
  have hn1 : upd G T0 (FnO T0 (PySem.W.kdv_tup [u])) f = none := by
    rw [upd_ne (Nat.ne_of_gt lt)]
    exact hn
  have J2 := track I1 J1 hf (Nat.le_trans big (Nat.le_of_lt lt)) hn1
  obtain ⟨x2, t2⟩ := ext_new (o := FnO f { cls := .type "function", data := .func (lobD X params body scope (.ref T0) doc pm (.ref cd) ctv) }) x1 t1 hn1
  have hco2 : upd (upd G T0 (FnO T0 (PySem.W.kdv_tup [u]))) f (FnO f { cls := .type "function", data := .func (lobD X params body scope (.ref T0) doc pm (.ref cd) ctv) }) cd = some (CodeO cd (lnm X)) := by
    rw [upd_ne (ne_of_none hco hn), upd_ne (ne_of_none hco n0)]
    exact hco
  have h02 : upd (upd G T0 (FnO T0 (PySem.W.kdv_tup [u]))) f (FnO f { cls := .type "function", data := .func (lobD X params body scope (.ref T0) doc pm (.ref cd) ctv) }) T0 = some (FnO T0 (PySem.W.kdv_tup [u])) := by
    rw [upd_ne (Nat.ne_of_lt lt), upd_same]
  refine ⟨.ref f, _, J2, rfl, h f cd T0 (PySem.W.kdv_tup [u]) _ _ (I1.hok.fresh (Nat.le_trans big (Nat.le_of_lt lt))) (I1.hok.fresh big) x2 t2 upd_same h02 hco2 ?_⟩
  refine lamOkE_of (as := [a]) (us := [u]) (dV := .ref T0) I.ok hN L hna (Nat.le_refl _) (.cons ru .nil) rfl rfl (fun s' e => ?_) fun A outer s H E f' hr => hbody A outer s H E f' cd hr
  obtain ⟨k, k1, k2⟩ := hbind (lnm X) (cloFrom X.env.cells scope.names []) T0 doc pm (.ref cd) ctv
  exact BindsTo.of_defaults rfl e rfl k1 (k2 u)
end Cz
end Tk

section
local macro_rules | `(tactic| walk_at "hp") => `(tactic| first
  | assumption
  | with_reducible exact L2.upd_same
  | ((with_reducible refine' Tk.Same.get ?k0 ?k1); (case k0 => assumption); (case k1 => walk_at "hp"))
  | fail "hp")
local macro_rules | `(tactic| walk_at "same") => `(tactic| first
  | assumption
  | exact L2.Same.refl _
  | ((with_reducible refine' Tk.Same.nw ?k0 ?k1); (case k0 => assumption); (case k1 => walk_at "same"))
  | ((with_reducible refine' Tk.Same.tr ?k0 ?k1); (case k0 => assumption); (case k1 => walk_at "same")))
local macro_rules | `(tactic| walk_at "sql") => `(tactic| first
  | assumption
  | ((with_reducible refine' L2.SqL.of ?k0); (case k0 => walk_at "hp"))
  | ((with_reducible refine' L2.Same.seq ?k0 ?k1); (case k0 => assumption); (case k1 => walk_at "sql")))
local macro_rules | `(tactic| walk_at "sqt") => `(tactic| first
  | assumption
  | ((with_reducible refine' L2.SqT.of ?k0); (case k0 => walk_at "hp"))
  | ((with_reducible refine' Tk.sqt_sm ?k0 ?k1); (case k0 => assumption); (case k1 => walk_at "sqt")))
local macro_rules | `(tactic| walk_at "sz") => `(tactic| first
  | (show (_ : Nat) ≤ 1000; decide)
  | (simp; done)
  | (simp; omega))
local macro_rules | `(tactic| walk_at "szb") => `(tactic| first
  | assumption
  | (show (_ : Nat) ≤ 100000; decide)
  | (simp; done)
  | (simp; omega))
local macro_rules | `(tactic| walk_at "dp") => `(tactic| first
  | assumption
  | with_reducible exact L2.Dp.non
  | with_reducible exact L2.Dp.int _
  | with_reducible exact L2.Dp.str _
  | with_reducible exact L2.Dp.bl _
  | ((with_reducible refine' L2.Dp.lst ?k0 ?k1); (case k0 => walk_at "sql"); (case k1 => walk_at "dpa"))
  | ((with_reducible refine' L2.Dp.tup ?k0 ?k1); (case k0 => walk_at "sqt"); (case k1 => walk_at "dpa"))
  | ((with_reducible refine' Tk.dp_sm ?k0 ?k1); (case k0 => assumption); (case k1 => walk_at "dp"))
  | fail "dp")
local macro_rules | `(tactic| walk_at "dpa") => `(tactic| first
  | assumption
  | with_reducible exact L2.DpAll.nil
  | ((with_reducible refine' L2.DpAll.cons ?k0 ?k1); (case k0 => walk_at "dp"); (case k1 => walk_at "dpa"))
  | with_reducible exact Tk.dp_nats _
  | ((with_reducible refine' Tk.dpA_sm ?k0 ?k1); (case k0 => assumption); (case k1 => walk_at "dpa"))
  | fail "dpa")
local macro_rules | `(tactic| walk_at "ci") => `(tactic| first
  | exact .inl ⟨by decide, by decide⟩
  | exact .inr ⟨by decide, by decide⟩
  | exact .inl ⟨by omega, by omega⟩
  | exact .inr ⟨by omega, by omega⟩
  | exact ⟨by decide, by decide⟩
  | exact ⟨by omega, by omega⟩
  | (show (0 : Int) < _; decide)
  | (show (0 : Int) < _; omega))
local macro_rules | `(tactic| walk_at "rd1") => `(tactic| first
  | with_reducible refine Tk.Rd.seq ?_
  | with_reducible refine Tk.Rd.star ?_
  | with_reducible refine Tk.Rd.int1_i ?_
  | with_reducible refine Tk.Rd.int1_b ?_
  | with_reducible refine Tk.Rd.tlc2 ?_
  | with_reducible refine Tk.Rd.lrg3 ?_
  | with_reducible refine Tk.Rd.lrg ?_
  | with_reducible refine Tk.Rd.rg1 ?_
  | with_reducible refine Tk.Rd.rg1K_i ?_
  | with_reducible refine Tk.Rd.rg2 ?_
  | with_reducible refine Tk.Rd.rg2K_i ?_
  | ((with_reducible refine' Tk.Rd.catL ?k0 ?k1 ?k2 fun p H' np S hp => ?_); (case k0 => walk_at "hp"); (case k1 => walk_at "hp"); (case k2 => walk_at "szb"))
  | ((with_reducible refine' Tk.Rd.starK_t ?k0 ?_); (case k0 => walk_at "sqt"))
  | ((with_reducible refine' Tk.Rd.starK_l ?k0 ?_); (case k0 => walk_at "sql"))
  | ((with_reducible refine' Tk.Rd.var ?k0 ?_); (case k0 => exact rfl))
  | with_reducible refine Tk.Rd.c ?_
  | with_reducible refine Tk.Rd.op ?_
  | with_reducible refine Tk.Rd.i0 ?_
  | with_reducible refine Tk.Rd.asg ?_
  | with_reducible refine Tk.Rd.name ?_
  | with_reducible refine Tk.Rd.cons ?_
  | with_reducible refine Tk.Rd.nil ?_
  | with_reducible refine Tk.Rd.call ?_
  | with_reducible refine Tk.Rd.callK_i ?_
  | with_reducible refine Tk.Rd.tst ?_
  | with_reducible refine Tk.Rd.bv ?_
  | with_reducible refine Tk.Rd.toB_i ?_
  | with_reducible refine Tk.Rd.ift ?_
  | with_reducible refine Tk.Rd.iff ?_
  | with_reducible refine Tk.Rd.ifnt ?_
  | with_reducible refine Tk.Rd.ifnf ?_
  | with_reducible refine Tk.Rd.not ?_
  | with_reducible refine Tk.Rd.and ?_
  | with_reducible refine Tk.Rd.or ?_
  | with_reducible refine Tk.Rd.andV ?_
  | with_reducible refine Tk.Rd.andK_i ?_
  | with_reducible refine Tk.Rd.orV ?_
  | with_reducible refine Tk.Rd.orK_i ?_
  | with_reducible refine Tk.Rd.notV ?_
  | with_reducible refine Tk.Rd.notK_i ?_
  | with_reducible refine Tk.Rd.tif ?_
  | with_reducible refine Tk.Rd.yes ?_
  | with_reducible refine Tk.Rd.tfor ?_
  | with_reducible refine Tk.Rd.tlc ?_
  | with_reducible refine Tk.Rd.rng ?_
  | ((with_reducible refine' Tk.Rd.rngK_n ?k0 ?_); (case k0 => first | decide | omega))
  | ((with_reducible refine' Tk.Rd.rngK_lit ?k0 ?_); (case k0 => decide))
  | with_reducible refine Tk.Rd.rng2 ?_
  | with_reducible refine Tk.Rd.rng3 ?_
  | with_reducible refine Tk.Rd.ilist ?_
  | with_reducible refine Tk.Rd.zip ?_
  | with_reducible refine Tk.Rd.itup ?_
  | ((with_reducible refine' Tk.Rd.listK_i ?k0 ?_); (case k0 => walk_at "sql"))
  | ((with_reducible refine' Tk.Rd.ituK_i ?k0 ?_); (case k0 => walk_at "sqt"))
  | with_reducible refine Tk.Rd.chain ?_
  | with_reducible refine Tk.Rd.chainL_i ?_
  | with_reducible refine Tk.Rd.un ?_
  | with_reducible refine Tk.Rd.u1 ?_
  | ((with_reducible refine' Tk.Rd.i1 ?k0 ?_); (case k0 => walk_at "ci"))
  | ((with_reducible refine' Tk.Rd.eq ?k0 ?_); (case k0 => exact rfl))
  | ((with_reducible refine' Tk.Rd.ne ?k0 ?_); (case k0 => exact rfl))
  | with_reducible refine Tk.Rd.isN ?_
  | with_reducible refine Tk.Rd.notN ?_
  | with_reducible refine Tk.Rd.fld ?_
  | with_reducible refine Tk.Rd.meth ?_
  | with_reducible refine Tk.Rd.methR ?_
  | with_reducible refine Tk.Rd.prop ?_
  | with_reducible refine Tk.Rd.cb ?_
  | with_reducible refine Tk.Rd.bm ?_
  | with_reducible refine Tk.Rd.m0 ?_
  | with_reducible refine Tk.Rd.m0K_i ?_
  | with_reducible refine Tk.Rd.m1 ?_
  | with_reducible refine Tk.Rd.m1K_i ?_
  | with_reducible refine Tk.Rd.tup ?_
  | ((with_reducible refine' Tk.Rd.tupK_i ?k0 fun p H' np S hp => ?_); (case k0 => walk_at "sz"))
  | with_reducible refine Tk.Rd.lst ?_
  | ((with_reducible refine' Tk.Rd.lstK_i ?k0 fun p H' np S hp => ?_); (case k0 => walk_at "sz"))
  | ((with_reducible refine' Tk.Rd.ixF ?k0 ?k1 ?_); (case k0 => walk_at "hp"); (case k1 => omega))
  | ((with_reducible refine' Tk.Rd.ixF1 ?k0 ?k1 ?_); (case k0 => walk_at "hp"); (case k1 => omega))
  | ((with_reducible refine' Tk.Rd.ixT ?k0 ?k1 ?_); (case k0 => walk_at "sqt"); (case k1 => exact rfl))
  | ((with_reducible refine' Tk.Rd.ixL ?k0 ?k1 ?_); (case k0 => walk_at "sql"); (case k1 => exact rfl))
  | ((with_reducible refine' Tk.Rd.lenL ?k0 ?_); (case k0 => walk_at "sql"))
  | ((with_reducible refine' Tk.Rd.lenT ?k0 ?_); (case k0 => walk_at "sqt"))
  | ((with_reducible refine' Tk.Rd.lenS ?k0 ?_); (case k0 => first | assumption | omega | (simp; omega)))
  | ((with_reducible refine' Tk.Rd.slTr ?k0 fun p H' S hp => ?_); (case k0 => walk_at "hp"))
  | ((with_reducible refine' Tk.Rd.slT ?k0 fun p H' S hq => ?_); (case k0 => walk_at "sqt"))
  | ((with_reducible refine' Tk.Rd.catTr ?k0 ?k1 ?k2 fun p H' S hp => ?_); (case k0 => walk_at "hp"); (case k1 => walk_at "hp"); (case k2 => walk_at "sz"))
  | ((with_reducible refine' Tk.Rd.catA ?k0 ?k1 ?k2 ?k3 ?k4 fun p H' np S hp => ?_); (case k0 => walk_at "sqt"); (case k1 => walk_at "sqt"); (case k2 => simp); (case k3 => simp); (case k4 => first | (simp; done) | (simp; omega)))
  | with_reducible refine Tk.Rd.make ?_
  | ((with_reducible refine' Tk.Rd.tplL ?k0 fun q H' nq S hq => ?_); (case k0 => walk_at "sql"))
  | ((with_reducible refine' Tk.Rd.lstL ?k0 fun q H' nq S hq => ?_); (case k0 => walk_at "sql"))
  | ((with_reducible refine' Tk.Rd.lstT ?k0 fun q H' nq S hq => ?_); (case k0 => walk_at "sqt"))
  | ((with_reducible refine' Tk.Rd.join ?k0 ?k1 ?_); (case k0 => walk_at "sql"); (case k1 => first | assumption | omega))
  | with_reducible refine Tk.Rd.mx ?_
  | with_reducible refine Tk.Rd.mn ?_
  | with_reducible refine Tk.Rd.noPart ?_
  | with_reducible refine Tk.Rd.part ?_
  | with_reducible refine Tk.Rd.partK_i ?_
  | with_reducible refine Tk.Rd.slc ?_
  | ((with_reducible refine' Tk.Rd.gtup ?k0 ?k1 ?_); (case k0 => walk_at "sqt"); (case k1 => exact rfl))
  | ((with_reducible refine' Tk.Rd.glst ?k0 ?k1 ?_); (case k0 => walk_at "sql"); (case k1 => exact rfl))
  | with_reducible refine Tk.Rd.gcons ?_
  | with_reducible refine Tk.Rd.gnil ?_
  | with_reducible refine Tk.Rd.next ?_
  | with_reducible refine Tk.Rd.drop ?_
  | with_reducible refine Tk.Rd.ret ?_
  | with_reducible refine Tk.Rd.retN ?_
  | with_reducible refine Tk.Rd.par ?_
  | with_reducible refine Tk.Rd.parK_i ?_
  | with_reducible refine Tk.Rd.par3 ?_
  | with_reducible refine Tk.Rd.par3K_i ?_
  | ((with_reducible refine' Tk.Rd.aug ?k0 ?_); (case k0 => exact rfl))
  | with_reducible refine Tk.Rd.ip ?_
  | ((with_reducible refine' Tk.Rd.bmK_l ?k0 ?_); (case k0 => walk_at "sql"))
  | ((with_reducible refine' Tk.Rd.addS ?k0 ?_); (case k0 => walk_at "sz"))
  | fail "rd1")
local macro_rules | `(tactic| walk_at "rd1i") => `(tactic| first
  | walk_at "rd1"
  | with_reducible refine Tk.Rd.ifS ?_
  | fail "rd1i")
local macro_rules | `(tactic| walk_at "rd") => `(tactic| (repeat' walk_at "rd1i"))
local macro_rules | `(tactic| walk_at "rs") => `(tactic| ((repeat' walk_at "rd1"); (try dsimp only)))
local macro_rules | `(tactic| walk_at "hall") => `(tactic| first
  | assumption
  | ((with_reducible refine' Tk.HallAt.sm ?k0 ?k1); (case k0 => assumption); (case k1 => walk_at "hall"))
  | fail "hall")
local macro_rules | `(tactic| walk_at "parts") => `(tactic| first
  | assumption
  | ((with_reducible refine' Tk.PartsAt.sm ?k0 ?k1); (case k0 => assumption); (case k1 => walk_at "parts"))
  | fail "parts")
local macro_rules | `(tactic| walk_at "sm") => `(tactic| first
  | assumption
  | exact Tk.Sm.int rfl
  | exact Tk.Sm.flat1 rfl
  | ((with_reducible refine' Tk.Sm.sm ?k0 ?k1); (case k0 => assumption); (case k1 => walk_at "sm"))
  | fail "sm")
local macro_rules | `(tactic| walk_at "rd1") => `(tactic| first
  | ((with_reducible refine' Tk.Rd.f_modulus ?k0 ?k1 ?_); (case k0 => assumption); (case k1 => walk_at "hall"))
  | ((with_reducible refine' Tk.Rd.f_lateness ?k0 ?k1 ?_); (case k0 => assumption); (case k1 => walk_at "hall"))
  | ((with_reducible refine' Tk.Rd.f_takes ?k0 ?k1 fun tp htp => ?_); (case k0 => assumption); (case k1 => walk_at "hall"))
  | ((with_reducible refine' Tk.Rd.f_calls ?k0 ?k1 fun cp hcp => ?_); (case k0 => assumption); (case k1 => walk_at "hall"))
  | ((with_reducible refine' Tk.Rd.h_meth ?k0 ?k1 ?_); (case k0 => walk_at "hall"); (case k1 => decide +kernel))
  | ((with_reducible refine' Tk.Rd.h_prop ?k0 ?_); (case k0 => walk_at "hall"))
  | ((with_reducible refine' Tk.Rd.h_taken0 ?k0 fun H' S => ?_); (case k0 => walk_at "hall"))
  | ((with_reducible refine' Tk.Rd.h_taken1 ?k0 fun H' S => ?_); (case k0 => walk_at "hall"))
  | ((with_reducible refine' Tk.Rd.h_takenL ?k0 fun H' S => ?_); (case k0 => walk_at "hall"))
  | ((with_reducible refine' Tk.Rd.h_called0 ?k0 ?_); (case k0 => walk_at "hall"))
  | ((with_reducible refine' Tk.Rd.h_called1 ?k0 ?_); (case k0 => walk_at "hall"))
  | ((with_reducible refine' Tk.Rd.h_calledL ?k0 ?_); (case k0 => walk_at "hall"))
  | ((with_reducible refine' Tk.Rd.h_waiting ?k0 ?k1 fun H' S => ?_); (case k0 => walk_at "hall"); (case k1 => omega))
  | ((with_reducible refine' Tk.Rd.h_growth ?k0 fun H' S => ?_); (case k0 => walk_at "hall"))
  | ((with_reducible refine' Tk.Rd.h_period ?k0 ?_); (case k0 => walk_at "hall"))
  | ((with_reducible refine' Tk.Rd.h_lhall ?k0 fun h lp H' nh nl S hA => ?_); (case k0 => walk_at "parts"))
  | ((with_reducible refine' Tk.Rd.h_length ?k0 ?_); (case k0 => walk_at "parts"))
  | ((with_reducible refine' Tk.Rd.h_counts ?k0 ?k1 fun r a b H' nr na nb nab S hr ha hb => ?_); (case k0 => walk_at "parts"); (case k1 => omega))
  | ((with_reducible refine' Tk.Rd.h_countsL ?k0 ?k1 fun r a b H' nr na nb nab S hr ha hb => ?_); (case k0 => walk_at "parts"); (case k1 => decide))
  | ((with_reducible refine' Tk.Rd.h_make ?k0 ?k1 ?k2 fun h lp H' nh nl S hA => ?_); (case k0 => assumption); (case k1 => walk_at "hp"); (case k2 => walk_at "hp"))
  | ((with_reducible refine' Tk.Rd.p_0 ?k0 ?_); (case k0 => walk_at "parts"))
  | ((with_reducible refine' Tk.Rd.p_1 ?k0 fun htp => ?_); (case k0 => walk_at "parts"))
  | ((with_reducible refine' Tk.Rd.p_2 ?k0 fun hcp => ?_); (case k0 => walk_at "parts"))
  | ((with_reducible refine' Tk.Rd.p_3 ?k0 ?_); (case k0 => walk_at "parts"))
  | fail "rd1")
local macro_rules | `(tactic| walk_at "sqt") => `(tactic| first | ((with_reducible refine' Tk.PartsAt.sq ?k0); (case k0 => walk_at "parts")) | fail "sqt")
local macro_rules | `(tactic| walk_at "free") => `(tactic| first
  | assumption
  | ((with_reducible refine' Tk.Same.fr ?k0 ?k1); (case k0 => assumption); (case k1 => walk_at "free")))
local macro_rules | `(tactic| walk_at "hp") => `(tactic| first
  | ((with_reducible refine' Tk.But.gt ?k0 ?k1 ?k2); (case k0 => assumption); (case k1 => assumption); (case k2 => walk_at "hp"))
  | ((with_reducible refine' Tk.But.gl ?k0 ?k1 ?k2); (case k0 => assumption); (case k1 => assumption); (case k2 => walk_at "hp"))
  | fail "hp")
local macro_rules | `(tactic| walk_at "hall") => `(tactic| first | ((with_reducible refine' Tk.HallAt.bt ?k0 ?k1 ?k2 ?k3); (case k0 => assumption); (case k1 => assumption); (case k2 => assumption); (case k3 => walk_at "hall")) | fail "hall")
local macro_rules | `(tactic| walk_at "parts") => `(tactic| first | ((with_reducible refine' Tk.PartsAt.bt ?k0 ?k1 ?k2); (case k0 => assumption); (case k1 => assumption); (case k2 => walk_at "parts")) | fail "parts")
local macro_rules | `(tactic| walk_at "rd1") => `(tactic| first
  | ((with_reducible refine' Tk.Rd.h_below ?k0 ?k1 ?k2 ?k3 fun r H' cs hr B hd hcs => ?_); (case k0 => walk_at "hp"); (case k1 => assumption); (case k2 => first | decide | omega); (case k3 => first | decide | omega))
  | ((with_reducible refine' Tk.Rd.h_parts ?k0 ?k1 ?k2 ?k3 fun t tp cp m lt tk cl H' cs nt B hd hcs hP l1 l2 => ?_); (case k0 => walk_at "hp"); (case k1 => assumption); (case k2 => first | decide | omega); (case k3 => first | decide | omega))
  | ((with_reducible refine' Tk.Rd.h_partsL ?k0 ?k1 ?k2 ?k3 fun t tp cp m lt tk cl H' cs nt B hd hcs hP l1 l2 => ?_); (case k0 => walk_at "hp"); (case k1 => assumption); (case k2 => first | decide | omega); (case k3 => first | decide | omega))
  | ((with_reducible refine' Tk.Rd.h_small ?k0 ?k1 fun t tp cp m lt tk cl H' cs nt B hd hcs hP m1 l1 l2 l3 => ?_); (case k0 => walk_at "hp"); (case k1 => assumption))
  | ((with_reducible refine' Tk.Rd.h_tick ?k0 ?k1 fun t H' cs ht B hd hcs => ?_); (case k0 => walk_at "hp"); (case k1 => assumption))
  | ((with_reducible refine' Tk.Rd.h_mo ?k0 fun v H' S hv => ?_); (case k0 => walk_at "hall"))
  | ((with_reducible refine' Tk.Rd.h_lc ?k0 fun v H' S hv => ?_); (case k0 => walk_at "hall"))
  | ((with_reducible refine' Tk.Rd.h_lm ?k0 fun v H' S hv => ?_); (case k0 => walk_at "hall"))
  | ((with_reducible refine' Tk.Rd.h_gl ?k0 fun v H' S hv => ?_); (case k0 => walk_at "hall"))
  | ((with_reducible refine' Tk.Rd.h_ot ?k0 ?k1 fun r H' nr S hr => ?_); (case k0 => walk_at "hall"); (case k1 => first | assumption | omega))
  | ((with_reducible refine' Tk.Rd.h_most2 ?k0 fun v H' S hv => ?_); (case k0 => walk_at "parts"))
  | ((with_reducible refine' Tk.Rd.h_opens2L ?k0 ?k1 fun l ys H' nl S hl hlen hR => ?_); (case k0 => walk_at "parts"); (case k1 => decide))
  | ((with_reducible refine' Tk.Rd.h_opens2 ?k0 ?k1 fun l ys H' nl S hl hlen hR => ?_); (case k0 => walk_at "parts"); (case k1 => first | decide | omega))
  | fail "rd1")
local macro_rules | `(tactic| walk_at "ok") => `(tactic| first
  | assumption
  | ((with_reducible refine' Tk.HallAt.ok ?k0); (case k0 => walk_at "hall"))
  | ((with_reducible refine' Tk.PartsAt.ok ?k0); (case k0 => walk_at "parts"))
  | fail "ok")
local macro_rules | `(tactic| walk_at "sml") => `(tactic| first
  | exact Tk.Sml.ints (by walk_at "szb")
  | exact Tk.Sml.intsT (by walk_at "szb")
  | trivial
  | (simp [Tk.Sml]; done)
  | (simp [Tk.Sml]; omega)
  | fail "sml")
local macro_rules | `(tactic| walk_at "rd1") => `(tactic| first
  | ((with_reducible refine' Tk.Rd.nT ?k0 ?_); (case k0 => with_reducible exact rfl))
  | ((with_reducible refine' Tk.Rd.dT ?k0 ?_); (case k0 => with_reducible exact rfl))
  | with_reducible refine Tk.Rd.nF Tk.Rd.int_non ?_
  | with_reducible refine Tk.Rd.nF Tk.Rd.ref_non ?_
  | with_reducible refine Tk.Rd.dF Tk.Rd.int_non ?_
  | with_reducible refine Tk.Rd.dF Tk.Rd.ref_non ?_
  | ((with_reducible refine' Tk.Rd.h_disp ?k0 ?k1 ?_); (case k0 => first | assumption | omega); (case k1 => walk_at "hall"))
  | ((with_reducible refine' Tk.Rd.h_hold ?k0 ?k1 ?k2 ?k3 fun l H' nl S hl => ?_); (case k0 => walk_at "hall"); (case k1 => first | assumption | omega); (case k2 => first | assumption | omega); (case k3 => first | assumption | omega))
  | ((with_reducible refine' Tk.Rd.h_mis ?k0 ?k1 ?k2 fun l ys H' nl S hl hd => ?_); (case k0 => walk_at "hall"); (case k1 => first | assumption | omega); (case k2 => first | assumption | omega))
  | ((with_reducible refine' Tk.Rd.h_enc ?k0 fun l H' nl S hl => ?_); (case k0 => walk_at "hall"))
  | ((with_reducible refine' Tk.Rd.h_dec ?k0 ?k1 fun h lp H' nh nl S hA => ?_); (case k0 => walk_at "hp"); (case k1 => walk_at "ok"))
  | ((with_reducible refine' Tk.Rd.h_text ?k0 fun H' S => ?_); (case k0 => walk_at "hall"))
  | ((with_reducible refine' Tk.Rd.h_eqd ?k0 ?k1 ?k2 fun H' S => ?_); (case k0 => walk_at "dp"); (case k1 => walk_at "dp"); (case k2 => walk_at "sml"))
  | ((with_reducible refine' Tk.Rd.eqd ?k0 ?k1 ?k2 ?k3 ?_); (case k0 => walk_at "dp"); (case k1 => walk_at "dp"); (case k2 => walk_at "sml"); (case k3 => walk_at "sml"))
  | ((with_reducible refine' Tk.Rd.ned ?k0 ?k1 ?k2 ?k3 ?_); (case k0 => walk_at "dp"); (case k1 => walk_at "dp"); (case k2 => walk_at "sml"); (case k3 => walk_at "sml"))
  | fail "rd1")
/-! ### _law_error_of of a tracked function; _law_all_raise -/
namespace Tk
open PySem PySem.Spec PyProof.Rows L2 LamX
namespace Cz
theorem pe_actE {Z : Cx} {P : Program} {w : World} {K : PySem.W.Frag} {mg : Str → Option Value} {base : Heap} {k i : Nat} {obj : Obj} {fd : FuncData} {R : XK → Hp → VK → Prop} {E : XK} {f : Addr} {b : Str} {p1 p2 : Pos} (LO : LamOkE P w K mg base k obj R) (hob : obj = { cls := .type "function", data := .func fd }) (hr : Room (k + 1) Z.A)
    (hN : Z.N[i]? = some b) (hv : Vis Z.env.scope b) (hx : Passes (L2.CX Z.prog Z.w) Z E) (hZ : Z.prog = P ∧ Z.w = w ∧ Z.K = K ∧ Z.mg = mg ∧ Z.base = base := by exact ⟨rfl, rfl, rfl, rfl, rfl⟩) (hd : (b == ("__debug__" : Str)) = false := by decide) (hcd : (b == ("__classdict__" : Str)) = false := by decide) :
    PE Z (.Call (.Name b p1) [] [] p2) (fun σ H Q => σ[i]? = some (some (.ref f)) ∧ H f = some (FnO f obj) ∧ R E H Q) := by
  obtain ⟨rfl, rfl, rfl, rfl, rfl⟩ := hZ
  subst hob
  refine ⟨fun pins s σ H Q I h => ?_⟩
  obtain ⟨hs, hf, hR⟩ := h
  refine wpAny_Call_Name_kw (thn ((pe_var (pos := p1) (i := i) hN hv hd hcd).run pins s σ H (fun v H1 => v = .ref f ∧ H1 = H) I ⟨.ref f, hs, rfl, rfl⟩) fun u0 s1 z => ?_)
  obtain ⟨v0, H1, I1, r1, rfl, rfl⟩ := z
  obtain rfl : u0 = Value.ref f := r1
  have of2 := fnO_get I1.hok hf
  refine PySem.W.callWith_F0 ⟨_, _, _, _, of2⟩ ?_
  have rc := LO Z.A Z.stack s1 H1 f Q E hr I1.env0 of2 hR
  refine wpAny_call (codeAny_mono rc fun r s' z => ?_)
  cases r with
  | error er => exact hx pins σ H1 s1 er s' I1 z
  | ok fl =>
    cases fl with
    | ret u' => exact I1.after z
    | next => exact False.elim z
    | brk => exact False.elim z
    | cont => exact False.elim z
section
variable {H1 H3 H' H4 : Hp} {l : List Addr}
/-- where the cells are hidden: the law's own heap stands -/
theorem same_rem (S : Same H1 H') (free : ∀ c ∈ l, H1 c = none) : Same H1 (remL H' l) := fun b o e => by
  rw [remL_out fun m => by rw [free b m] at e; cases e]
  exact S b o e
theorem same_put (S : Same H3 H') (S4 : Same (remL H' l) H4) : Same H3 (putB H' H4 l) := fun b o e => by
  by_cases m : b ∈ l
  · rw [putB_in m]
    exact S b o e
  · rw [putB_out m]
    refine S4 b o ?_
    rw [remL_out m]
    exact S b o e
theorem put_keep {D : Addr} {o : HO} (S4 : Same (remL H' l) H4) (e : H' D = some o) : putB H' H4 l D = some o := by
  by_cases m : D ∈ l
  · rw [putB_in m]
    exact e
  · rw [putB_out m]
    refine S4 D o ?_
    rw [remL_out m]
    exact e
/-- the captured names are cells of the law, with values -/
def CaptOk (X : Cx) (scope : Scope) (σ : L2.St) : Prop := ∀ q ∈ scope.names, q.2 = .free → ∃ (i : Nat) (v : V), X.N[i]? = some q.1 ∧ X.env.scope.names.lookup q.1 = some .cell ∧ σ[i]? = some (some v)
theorem capt_of {X : Cx} {scope : Scope} {σ : L2.St} (h : CaptOk X scope σ) (cells : ∀ (i : Nat) x v, X.N[i]? = some x → X.env.scope.names.lookup x = some .cell → σ[i]? = some (some v) → ∃ o, H3 (kapA X x) = some (FnO (kapA X x) o) ∧ IsCel o v)
    (S : ∀ b o, H3 b = some (FnO b o) → H' b = some (FnO b o)) : Capt X scope σ H' := fun q hq hf => by
  obtain ⟨i, v, h1, h2, h3⟩ := h q hq hf
  obtain ⟨o, e, c⟩ := cells i _ v h1 h2 h3
  exact ⟨i, v, o, h1, h3, S _ _ e, c⟩
theorem CaptOk.fre {X : Cx} {scope : Scope} {σ : L2.St} (h : CaptOk X scope σ) : ∀ y ∈ scope.names, y.2 = .free → X.env.scope.names.lookup y.1 = some .cell ∨ X.env.scope.names.lookup y.1 = some .free := fun y hy e => by
  obtain ⟨_, _, _, h2, _⟩ := h y hy e
  exact .inl h2
theorem put_new {d : Addr} {o : HO} (out : ∀ b ∈ l, H4 b = none) (e : H4 d = some o) : putB H' H4 l d = some o := by
  rw [putB_out fun m => by rw [out d m] at e; cases e]
  exact e
theorem Rd.callD {X : Cx} {sp : Sp} {t : TA} {σ : L2.St} {H : Hp} {Q : VK} (k : t σ H (callCD X sp σ Q)) : tCallD X sp t σ H Q := k
/-- a lambda is made -/
theorem Rd.lamE {X : Cx} {T : List (Addr × Str)} {k : Nat} {scope : Scope} {ys : List V} {t : XK → TE} {σ : L2.St} {H : Hp} {Q : VK} (hT : Tabs T H) (k' : ∀ (f cd T0 : Addr) (o0 : Obj) (fd : FuncData) (H1 : Hp), H f = none → H T0 = none → ExtN H H1 → Tabs T H1 → H1 f = some (FnO f { cls := .type "function", data := .func fd }) → H1 T0 = some (FnO T0 o0) → H1 cd = some (CodeO cd (lnm X)) →
  LamOkE X.prog X.w X.K X.mg X.base k { cls := .type "function", data := .func fd } (LamRE X scope cd T0 o0 ys t) → Q (.ref f) H1) : tLamE X T k scope ys t σ H Q := ⟨hT, k'⟩
end
def spEo (P : Program) (w : World) (K : PySem.W.Frag) (mg : Str → Option Value) (base : Heap) : Sp := fun vs H Q _ => ∃ (f : Addr) (fd : FuncData) (R : XK → Hp → VK → Prop), vs = [.ref f] ∧ H f = some (FnO f { cls := .type "function", data := .func fd }) ∧
  LamOkE P w K mg base 20 { cls := .type "function", data := .func fd } R ∧ Ex.TTerr K R H Q
def spAr (P : Program) (w : World) (K : PySem.W.Frag) (mg : Str → Option Value) (base : Heap) : Sp := fun vs H Q _ => ∃ (l : Addr) (v : V) (fs : List Addr) (e : Ex.Er) (I : Hp → Prop), vs = [.ref l, v] ∧ fs.length ≤ 1000 ∧ e.Ok ∧ I H ∧ (∀ H1 H2, I H1 → Same H1 H2 → I H2) ∧ (∀ H1, I H1 → H1 l = some (.lst (fs.map V.ref)) ∧ L2.Dp K H1 v e.data) ∧
  (∀ f ∈ fs, ∃ (fd : FuncData) (R : XK → Hp → VK → Prop), (∀ H1, I H1 → H1 f = some (FnO f { cls := .type "function", data := .func fd })) ∧ LamOkE P w K mg base 20 { cls := .type "function", data := .func fd } R ∧
    ∀ H1 E Q', I H1 → (∀ cls d H2, e.Is K cls d H2 → I H2 → (∀ D, H D = none → H1 D = some (.lst []) → H2 D = some (.lst [])) → E cls d H2) → R E H1 Q') ∧
  ∀ H1, I H1 → Q (.bl true) H1
end Cz
section
variable {P : Program} {w : World} {K : PySem.W.Frag} {mg : Str → Option Value} {base : Heap}
open Cz
theorem ok__law_error_ofO (T : Txt K mg) : OkF P w K mg base 23 (He.ga K "_law_error_of") ["_law_call"] (spEo P w K mg base) := by
  refine FnP.okF T.f__law_error_of sc__law_error_of (fun _ _ _ _ _ _ us hl => match us, hl with | [_], _ => rfl) (fun vs H Q E h => ?_) (fun cdv A outer s H vs Q E hr h => ?_)
  · obtain ⟨f, fd, R, rfl, _⟩ := h
    rfl
  obtain ⟨f, fd, R, rfl, hf, LO, h⟩ := h
  let X : Cx := { prog := P, w := w, K := K, mg := mg, base := base, A := A, N := [], s_0 := s, H_0 := H, env := envOfC "" (defScope s__law_error_of) 0 0 .none, outer := outer, stack := outer, ex := [], fn := fun _ => true, calm := true, pn := [], xe := fun _ _ => False }
  obtain ⟨t, h1, h2⟩ := ev__law_error_of (X := X) T (CX' := L2.CX P w) (E' := E) cdv f (fun H => H f = some (FnO f { cls := .type "function", data := .func fd })) s H Q R (fun W pn xe E1 p1 p2 tk hW => pe_actE (i := 0) LO rfl (hr.mono (by decide)) rfl (by first | exact .inl rfl | exact .inl (by decide +kernel)) (passes_call tk hW)) hf h
  exact ⟨t, h1.nox, h2⟩
theorem ok__law_all_raise (T : Txt K mg) : OkF P w K mg base 25 (He.ga K "_law_all_raise") ["_law_calls", "_law_expected"] (spAr P w K mg base) := by
  have G__law_error_of : OkF P w K mg base 23 (He.ga K "_law_error_of") ["_law_call"] (spEo P w K mg base) := ok__law_error_ofO T
  refine FnP.okF T.f__law_all_raise sc__law_all_raise (fun _ _ _ _ _ _ us hl => match us, hl with | [_, _], _ => rfl) (fun vs H Q E h => ?_) (fun cdv A outer s H vs Q E hr h => ?_)
  · obtain ⟨l, v, fs, e, I, rfl, _⟩ := h
    rfl
  obtain ⟨l, v, fs, e, I, rfl, hn, he, hI, hS, hD, hF, k⟩ := h
  refine ⟨_, (pss_one (ps_ret (pe_cmpR (eqDK (K := K) hr.units) (pe_lc (own := [("_law_call", 2)]) (g := gName 2) (tt := _) (by rfl) sc__law_all_raise.nd (pi_listK (K := K) (pv 0)) (blkOk_by (own := [("_law_call", 2)]) (N := N__law_all_raise) (sc := (defScope s__law_all_raise)) (by decide +kernel)) (fun _ _ _ _ _ => pg_name (i := 2) sc__law_all_raise.nd rfl (Or.inl rfl)) (fun _ _ _ _ _ => (pts_one (pt_cmpR (neDK (K := K) hr.units) (pe_call G__law_error_of.one (hr.mono (by decide)) (by rfl) T.g__law_error_of G__law_error_of.kp G__law_error_of.two .nil passL (pa_cons (pv 2) pa_nil)) (pv 1) (nomark _)))) (fun _ _ _ _ _ => (pv 2))) (pe_lst pa_nil) (nomark _)))), ?_⟩
  walk_at "rd"
  refine Rd.listK_i (SqL.of (hD H hI).1) fun D hDn => ?_
  refine lc_list (K := K) (a := l) (xs := fs.map V.ref) (fun i H2 => I H2 ∧ H2 D = some (.lst [])) ⟨hS _ _ hI (Same.nw hDn (Same.refl H)), upd_same⟩ (fun i H2 _ ⟨z, _⟩ => SqL.of (hD H2 z).1) ?_ ?_
  · rintro i x H2 hx ⟨z, zD⟩
    rw [List.getElem?_map] at hx
    obtain ⟨f, hf, rfl⟩ := Option.map_eq_some_iff.mp hx
    obtain ⟨fd, R, h1, LO, hR⟩ := hF f (List.mem_of_getElem? hf)
    refine ⟨rfl, ?_⟩
    walk_at "rd"
    refine ⟨f, fd, R, rfl, h1 H2 z, LO, hR H2 _ _ z fun cls d H3 hIs z3 kD => ⟨e, hIs, fun r H4 S4 D4 => ?_⟩⟩
    have z4 := hS _ _ z3 S4
    walk_at "rd"
    refine Rd.ned (d := e.data) (e := e.data) D4 (hD H4 z4).2 ((Ex.Er.sml (n := 5) he).up (by decide)) ((Ex.Er.sml (n := 5) he).up (by decide)) ?_
    simp only [decide_true, Bool.not_true]
    walk_at "rd"
    exact ⟨z4, S4 _ _ (kD D hDn zD)⟩
  · rintro H2 ⟨z, zD⟩
    walk_at "rd"
    rename_i p3 H3 n3 S3 h3
    simp only [decide_true]
    exact k _ (hS _ _ z S3)
end
end Tk

end

/-! ### tuple * int, from one on -/
namespace L2
open PySem PySem.Spec PyProof.Rows
theorem tuple_mulW1 (l : Addr) (items : Array Value) (n : Nat) (dd : Option Addr) (sl : Array (Option Value)) (u : Tok) :
    Meets (Builtin.«tuple.__mul__» ⟨[.ref l, .int 1 u], []⟩) (fun _ R s => s.heap.get? l = some { cls := .type "tuple", dict := dd, data := .seq items n, slots := sl } ∧ R (.ok (.ret (.ref l))) s) :=
  .of_wp fun prog w A R s h => by
    obtain ⟨hp, g, d, tk, os⟩ := s
    obtain ⟨hl, h⟩ := h
    have f1 := AutoSeq1.idx_int
    wp_walk using wpAny_loadPart' hl
    repeat (first
      | (refine wpAny_ite_false (decide_eq_false (by decide)) ?_; wp_walk using wpAny_loadPart' hl)
      | (refine wpAny_ite_true (decide_eq_true (by simp)) ?_; wp_walk using wpAny_loadPart' hl))
    exact ⟨_, rfl, h⟩
def rRepT1 (K : PySem.W.Frag) : R2 := fun x y H Q => ∃ l k xs, x = .ref l ∧ y = .int k ∧ SqT K H l xs ∧ xs ≠ [] ∧ 1 ≤ k ∧ k ≤ 1000 ∧ xs.length ≤ 1000 ∧ (k = 1 → Q (.ref l) H) ∧ (2 ≤ k → ∀ p, H p = none → Q (.ref p) (upd H p (.tup (List.replicate k.toNat xs).flatten)))
theorem op_repT1 {X : Cx} {K : PySem.W.Frag} (hK : X.K = K := by rfl) : OpR X (binaryOp .Mult) (rRepT1 K) := by
  subst hK
  intro pins s σ H x y v u Q I rx ry h
  obtain ⟨l, k, xs, rfl, rfl, hT, hne, h1, h2, hz, q1, q2⟩ := h
  by_cases c : 2 ≤ k
  · exact op_repT pins s σ H _ _ v u Q I rx ry ⟨l, k, xs, rfl, rfl, hT, hne, c, h2, hz, q2 c⟩
  obtain rfl : k = 1 := by omega
  cases rx
  obtain ⟨t, rfl⟩ := ry
  obtain ⟨its, r, ⟨⟨cls, dd, data, sl⟩, ho, hc, n, hd⟩, hs⟩ := I.tuple hT
  simp only at hc hd
  subst hc hd
  exact wpAny_binaryOp_repeat_ref (T := "tuple") (U := "int") (by decide) ⟨_, ho, rfl⟩ (fun s' => typeIs_int s' 1 t) noFill_tuple_mul F.fills_int_mul F.slot_int_rmul repeat_tuple F.slot_int_index.lookup
    (call_meets F.slot_int_rmul (typeIs_int s 1 t) F.entry_int_rmul (F.args_int_rmul_2 _ _) (int_rmul_tuple 1 t l its.toArray n dd sl)
      ⟨ho, rfl, ⟨_, ho, rfl⟩, call_meets F.slot_tuple_mul ⟨_, ho, rfl⟩ F.entry_tuple_mul (F.args_tuple_mul_2 _ _) (tuple_mulW1 l its.toArray n dd sl t) ⟨ho, ⟨.ref l, H, I, rfl, q1 rfl⟩⟩⟩)
end L2
namespace Tk
open PySem PySem.Spec PyProof.Rows L2
theorem Rd.rep1 {K : PySem.W.Frag} {H : Hp} {Q : VK} {l : Addr} {xs : List V} {k : Int} (hq : H l = some (.tup xs)) (hne : xs ≠ []) (h1 : 1 ≤ k) (hk : k ≤ 1000) (hl : xs.length ≤ 1000) (kk : ∀ p H', Same H H' → H' p = some (.tup (List.replicate k.toNat xs).flatten) → Q (.ref p) H') : rRepT1 K (.ref l) (.int k) H Q :=
  ⟨l, k, xs, rfl, rfl, SqT.of hq, hne, h1, hk, hl, fun e => kk l H (Same.refl H) (by subst e; simpa using hq), fun _ p hp => kk p _ (Same.nw hp (Same.refl H)) upd_same⟩
end Tk

namespace Tk
open PySem PySem.Spec PyProof.Rows L2
def spTickD : Sp := fun vs H Q _ => ∃ (d : Addr) (cs : List V), vs = [.ref d] ∧ H d = some (.lst cs) ∧ DSt cs ∧ ∀ (t : Nat) H', Src d H H' → t ≤ 1000000000000000000 → Q (vn t) H'
section
variable {P : Program} {w : World} {K : PySem.W.Frag} {mg : Str → Option Value} {base : Heap}
end
end Tk

/-! ### Draws -/
namespace Tk
open PySem PySem.Spec PyProof.Rows L2 Mm
theorem But.gt {d b : Addr} {H H' : Hp} {cs xs : List V} (B : But d H H') (hd : H d = some (.lst cs)) (h : H b = some (.tup xs)) : H' b = some (.tup xs) := B _ _ (ne_of h hd (fun q => by cases q)) h
theorem But.gl {d b : Addr} {H H' : Hp} {xs : List V} (B : But d H H') (n : b ≠ d) (h : H b = some (.lst xs)) : H' b = some (.lst xs) := B _ _ n h
theorem HallAt.bt {C d h lp : Addr} {H H' : Hp} {m lt : Nat} {tk cl : List Nat} {cs : List V} (B : But d H H') (hd : H d = some (.lst cs)) (n : lp ≠ d) (p : HallAt C H h m tk cl lt lp) : HallAt C H' h m tk cl lt lp := p.but B hd n
theorem PartsAt.bt {d t tp cp : Addr} {H H' : Hp} {m lt : Nat} {tk cl : List Nat} {cs : List V} (B : But d H H') (hd : H d = some (.lst cs)) (p : PartsAt H t m tp tk cp cl lt) : PartsAt H' t m tp tk cp cl lt := p.but B hd
/-- a new address is not an old one -/
theorem ne_new {a d : Addr} {H : Hp} {o : HO} (n : H a = none) (e : H d = some o) : a ≠ d := fun q => by rw [q, e] at n; cases n
namespace Rd
variable {K : PySem.W.Frag} {H : Hp} {Q : VK} {E : XK} {d : Addr} {cs : List V}
theorem h_below {lim : Int} (hd : H d = some (.lst cs)) (hcs : DSt cs) (h0 : 0 < lim) (h1 : lim < 1073741824) (k : ∀ (r : Nat) H' cs', (r : Int) < lim → But d H H' → H' d = some (.lst cs') → DSt cs' → Q (vn r) H') : spBelow [.ref d, .int lim] H Q E :=
  ⟨d, lim, cs, rfl, h0, h1, hd, hcs, fun r cs' r0 r1 hc => by
    obtain ⟨n, rfl⟩ : ∃ n : Nat, r = (n : Int) := ⟨r.toNat, by omega⟩
    exact k n _ cs' r1 But.at_d upd_same hc⟩
theorem h_parts {most : Nat} (hd : H d = some (.lst cs)) (hcs : DSt cs) (h0 : 0 < most) (h1 : most ≤ 12) (k : ∀ (t tp cp : Addr) (m lt : Nat) (tk cl : List Nat) H' cs', H t = none → But d H H' → H' d = some (.lst cs') → DSt cs' → PartsAt H' t m tp tk cp cl lt → tk.length ≤ most → cl.length ≤ most → Q (.ref t) H') : spParts [.ref d, vn most] H Q E :=
  ⟨d, most, cs, rfl, h0, h1, hd, hcs, fun t tp cp m lt tk cl H' n S hP l1 l2 => by
    obtain ⟨cs', hd', hc'⟩ := S.at_
    exact k t tp cp m lt tk cl H' cs' n S.but hd' hc' hP l1 l2⟩
theorem h_partsL {most : Nat} (hd : H d = some (.lst cs)) (hcs : DSt cs) (h0 : 0 < most) (h1 : most ≤ 12) (k : ∀ (t tp cp : Addr) (m lt : Nat) (tk cl : List Nat) H' cs', H t = none → But d H H' → H' d = some (.lst cs') → DSt cs' → PartsAt H' t m tp tk cp cl lt → tk.length ≤ (OfNat.ofNat most : Nat) → cl.length ≤ (OfNat.ofNat most : Nat) → Q (.ref t) H') : spParts [.ref d, .int (OfNat.ofNat most : Int)] H Q E := h_parts (most := most) hd hcs h0 h1 k
theorem h_small (hd : H d = some (.lst cs)) (hcs : DSt cs) (k : ∀ (t tp cp : Addr) (m lt : Nat) (tk cl : List Nat) H' cs', H t = none → But d H H' → H' d = some (.lst cs') → DSt cs' → PartsAt H' t m tp tk cp cl lt → m ≤ 10 → tk.length ≤ 3 → cl.length ≤ 3 → lt ≤ 5 → Q (.ref t) H') : spSmall [.ref d] H Q E :=
  ⟨d, cs, rfl, hd, hcs, fun t tp cp m lt tk cl H' n S hP m1 l1 l2 l3 => by
    obtain ⟨cs', hd', hc'⟩ := S.at_
    exact k t tp cp m lt tk cl H' cs' n S.but hd' hc' hP m1 l1 l2 l3⟩
theorem h_tick (hd : H d = some (.lst cs)) (hcs : DSt cs) (k : ∀ (t : Nat) H' cs', t ≤ 1000000000000000000 → But d H H' → H' d = some (.lst cs') → DSt cs' → Q (vn t) H') : spTickD [.ref d] H Q E :=
  ⟨d, cs, rfl, hd, hcs, fun t H' S ht => by
    obtain ⟨cs', hd', hc'⟩ := S.at_
    exact k t H' cs' ht S.but hd' hc'⟩
end Rd
end Tk

/-! ### Errors with attributes: their __init__ -/
namespace Tk
open PySem PySem.Spec PyProof.Rows L2
namespace Ex
theorem supFn_of {P : Program} {K : PySem.W.Frag} {mg : Str → Option Value} {C a : Addr} {qual : Str} {params : Arguments} {body : List Stmt} {scope : Scope} (hP : PF P) (I : InitAt K a C qual params body scope FILE) (S : SupC K C) (hm : mg "super" = none) : SupFn P K mg C a qual params body scope := by
  obtain ⟨kp, od, doc, pm, ctv, an, osl, c, cc, oc, ocl, vs, tf, h1, h2, h3, h4, h5, h6, h7⟩ := I
  exact ⟨⟨od, doc, pm, ctv, an, osl, c, cc, oc, ocl, vs, tf, h1, h2, h3, h4, by rw [hP.file]; exact h5, h6, h7⟩, kp, S, hm, hP.top⟩
end Ex
end Tk

/-! ### InvalidHall: its __init__ -/
namespace Tk
open PySem PySem.Spec PyProof.Rows L2
section
variable {P : Program} {w : World} {K : PySem.W.Frag} {mg : Str → Option Value} {base : Heap}
theorem ok_xi_InvalidHall (T : Txt K mg) (hP : Ex.PF P) : OkF P w K mg base 2 (He.ma K (He.ga K "InvalidHall") "__init__") ["self", "part", "index"] (Ex.spIni2 (He.ga K "InvalidHall") "part" "index") := by
  refine Ex.ok_sup (n := 2) (Ex.supFn_of hP T.f_xi_InvalidHall T.x_InvalidHall.sup T.g_super) sc_xi_InvalidHall rfl rfl rfl (by decide +kernel) (by decide +kernel) rfl rfl rfl (fun doc pm ctv an c cc us hl => ?_) (fun vs H Q E h => ?_) (fun c cc A outer s H vs Q E hr h => ?_) (fun c cc A outer s H E => ⟨_, rfl⟩) (fun _ => rfl)
  · match us, hl with
    | [_, _, _], _ => rfl
  · obtain ⟨x, y, i, rfl, _⟩ := h
    rfl
  obtain ⟨x, y, i, rfl, hx, hy, hi, hl, k⟩ := h
  refine ⟨x, [.str y, .int i], _, _, rfl, hx, (pe_joined (.cons pe_str (.cons (pe_fmt (pv 1)) (.cons pe_str (.cons (pe_fmt (pv 2)) .nil))))), (pss_cons (ps_ost (pv 0) (pv 1)) (pss_cons (ps_ost (pv 0) (pv 2)) pss_nil)), ?_⟩
  have l1 : (Str.empty ++ ("invalid " : Str)).length ≤ 1000 := by decide +kernel
  have l2 : (", at item " : Str).length ≤ 1000 := by decide +kernel
  refine ⟨_, rfl, Nat.le_trans l1 (by decide), .str y, rfl, .inl ⟨y, rfl, Nat.le_trans hy (by decide), ?_⟩⟩
  refine ⟨_, rfl, ?_, ?_⟩
  · rw [PySem.Str.length_append, sizeLine_eq]
    omega
  refine ⟨_, rfl, ?_, .int i, rfl, .inr ⟨i, rfl, hi, ?_⟩⟩
  · rw [PySem.Str.length_append, PySem.Str.length_append, sizeLine_eq]
    omega
  refine ⟨_, rfl, ?_, ?_⟩
  · rw [PySem.Str.length_append, PySem.Str.length_append, PySem.Str.length_append, sizeLine_eq]
    omega
  refine ⟨by show 1 ≤ 1000; decide, hx, ?_⟩
  refine ⟨.str y, rfl, .ref x, rfl, x, _, rfl, T.x_InvalidHall.sup.oex, T.x_InvalidHall.no "part" (by decide), .inl ⟨hx, fun dx n ne => ?_⟩⟩
  exact ⟨.int i, rfl, .ref x, rfl, x, _, rfl, T.x_InvalidHall.sup.oex, T.x_InvalidHall.no "index" (by decide), .inr ⟨dx, [("part", .str y)], upd_same, by rw [upd_ne ne, upd_same], by show 1 ≤ 900; decide, k dx n ne⟩⟩
end
end Tk

/-! ### Counts that repeat -/
namespace Tk
open PySem PySem.Spec PyProof.Rows L2 Mm
structure Per (p : Nat) (f : Nat → Nat) : Prop where
  p0 : 0 < p
  p144 : p ≤ 144
  step : ∀ t, p ≤ t → f (t + p) + f p = f t + f (2 * p)
  up : f p ≤ f (2 * p)
  bd : f (2 * p) ≤ 100000
theorem Per.far {p : Nat} {f : Nat → Nat} (h : Per p f) {t : Nat} (ht : p ≤ t) : ∀ k, f (t + k * p) = f t + k * (f (2 * p) - f p)
  | 0 => by simp
  | k + 1 => by
    have ih := h.far ht k
    have q := h.step (t + k * p) (by omega)
    have u := h.up
    rw [Nat.succ_mul, Nat.succ_mul, ← Nat.add_assoc]
    omega
theorem tak_per (p : Nat) {tk : List Nat} (h : tk.length ∣ p) (h0 : 0 < p) (h144 : p ≤ 144) (h9 : ∀ x ∈ tk, x ≤ 9) : Per p (tak tk) where
  p0 := h0
  p144 := h144
  step := fun t ht => by
    have h1 := tak_add (tk := tk) p h t
    have h2 := tak_add (tk := tk) p h p
    rw [show p + p = 2 * p by omega] at h2
    omega
  up := tak_mono (by omega)
  bd := by
    have := tak_le h9 (2 * p)
    omega
theorem cal_Per {tk cl : List Nat} (h1 : Pat tk) (h2 : Pat cl) : Per (per tk cl) (cal tk cl) where
  p0 := per_pos h1.pos h2.pos
  p144 := per_144 h1 h2
  step := fun t ht => cal_per (per_pos h1.pos h2.pos) per_tk per_cl ht
  up := cal_mono (by omega)
  bd := by
    have a := tak_le h1.nine (2 * per tk cl)
    have b := cal_le (tk := tk) (cl := cl) (2 * per tk cl)
    have c := per_144 h1 h2
    omega
end Tk

/-! ### tick_of, by what its function counts -/
namespace Tk
open PySem PySem.Spec PyProof.Rows L2 Mm LamX
/-- what tick_of answers: F counts, p is the period -/
inductive TickIs (F : Nat → Nat) (p n : Nat) : V → Prop where
  | no (h1 : F p ≤ n) (h2 : F (2 * p) = F p) : TickIs F p n .non
  | at_ (T : Nat) (h1 : F T ≤ n) (h2 : n < F (T + 1)) (h3 : n < F p ∨ F (2 * p) ≠ F p) : TickIs F p n (vn T)
section
variable {X : Cx}
def TTick (c' : Addr) (q : Str) (tl : V → Hp → VK → Prop) (ys : List V) (H : Hp) (Q : VK) : Prop := ∃ (p n : Nat) (F : Nat → Nat), ys = [vn p, vn n] ∧ H c' = some (CodeO c' q) ∧ Per p F ∧ (∀ t, F t ≤ F (t + 1)) ∧ F 0 = 0 ∧
  (∀ (z : Nat) H1 Q1, Same H H1 → (∀ H', Same H1 H' → Q1 (vn (F z)) H') → tl (vn z) H1 Q1) ∧ ∀ v H', Same H H' → TickIs F p n v → Q v H'
end
end Tk

/-! ### tick_of_take, tick_of_call, ticket_times, display -/
namespace Tk
open PySem PySem.Spec PyProof.Rows L2 Mm LamX
def spTickOf (K : PySem.W.Frag) (C : Addr) (F : List Nat → List Nat → Nat → Nat) : Sp := fun vs H Q _ => ∃ (h lp : Addr) (n m lt : Nat) (tk cl : List Nat), vs = [.ref h, vn n] ∧ HallAt C H h m tk cl lt lp ∧ Tabs (TT K) H ∧
  ∀ v H', Ext K H H' → TickIs (F tk cl) (per tk cl) n v → Q v H'
section
variable {P : Program} {w : World} {K : PySem.W.Frag} {mg : Str → Option Value} {base : Heap}
/-- what ticket_times answers -/
inductive TimesIs (tk cl : List Nat) (n : Nat) (H : Hp) : V → Prop where
  | no (h : TickIs (tak tk) (per tk cl) n .non) : TimesIs tk cl n H .non
  | at_ (T : Nat) (v : V) (r : Addr) (hr : H r = some (.tup [vn T, v])) (h1 : TickIs (tak tk) (per tk cl) n (vn T)) (h2 : TickIs (cal tk cl) (per tk cl) n v) : TimesIs tk cl n H (.ref r)
def spTimes (K : PySem.W.Frag) (C : Addr) : Sp := fun vs H Q _ => ∃ (h lp : Addr) (n m lt : Nat) (tk cl : List Nat), vs = [.ref h, vn n] ∧ n ≤ 1000000000000000000 ∧ HallAt C H h m tk cl lt lp ∧ Tabs (TT K) H ∧
  ∀ v H', Ext K H H' → TimesIs tk cl n H' v → Q v H'
def dispV (m : Nat) (tk cl : List Nat) (t : Nat) : V := if cal tk cl (t + 1) = 0 then .non else vn ((cal tk cl (t + 1) - 1) % m)
def spDisplay (C : Addr) : Sp := fun vs H Q _ => ∃ (h lp : Addr) (t m lt : Nat) (tk cl : List Nat), vs = [.ref h, vn t] ∧ t ≤ 1000000000000000000 ∧ HallAt C H h m tk cl lt lp ∧ Q (dispV m tk cl t) H
end
end Tk

/-! ### tells, first_error -/
namespace Tk
open PySem PySem.Spec PyProof.Rows L2 Mm
/-- a loop over enumerate(a list) -/
theorem for_enumL {K : PySem.W.Frag} {a : Addr} {xs : List V} {g : TG} {tb : TS} {D : Ends} {σ : L2.St} {H : Hp} (Pv : Nat → L2.St → Hp → Prop) (h0 : Pv 0 σ H) (hl : ∀ i σ H, i ≤ xs.length → Pv i σ H → SqL K H a xs)
    (hs : ∀ i x σ H, xs[i]? = some x → Pv i σ H → ∀ T, H T = none → g (.ref T) σ (upd H T (.tup [vn i, x])) fun σ2 H2 => tb { D with nx := Pv (i + 1), ct := Pv (i + 1), bk := D.nx } σ2 H2) (hd : ∀ σ H, Pv xs.length σ H → D.nx σ H) :
    ∃ W : Nat → Nat → L2.St → Hp → Prop, (∃ m, W 0 m σ H) ∧ ∀ i m σ H, W i m σ H →
      ((Ite K a).stop i H ∧ D.nx σ H) ∨ ((Ite K a).go i H ∧ ∃ N : L2.St → Hp → Prop, (∀ σ' H', N σ' H' → ∃ m', m' < m ∧ W (i + 1) m' σ' H') ∧ ∀ x H', (Ite K a).yld i H x H' → g x σ H' fun σ2 H2 => tb { D with nx := N, ct := N, bk := D.nx } σ2 H2) := by
  refine ⟨fun i m σ H => m = xs.length - i ∧ i ≤ xs.length ∧ Pv i σ H, ⟨_, rfl, Nat.zero_le _, h0⟩, fun i m σ H w => ?_⟩
  obtain ⟨rfl, hi, p⟩ := w
  have sq := hl i σ H hi p
  rcases Nat.lt_or_ge i xs.length with lt | ge
  · have at_ : xs[i]? = some xs[i] := by simp [lt]
    refine .inr ⟨⟨xs, xs[i], sq, at_⟩, Pv (i + 1), fun σ' H' p' => ⟨_, (by omega : xs.length - (i + 1) < xs.length - i), rfl, lt, p'⟩, fun x H' y => ?_⟩
    obtain ⟨T, x', rfl, hT, rfl, hx⟩ := y
    exact hs i x' σ H (hx xs sq) p T hT
  · obtain rfl : i = xs.length := by omega
    exact .inl ⟨⟨xs, sq, Nat.le_refl _⟩, hd σ H p⟩
/-- an item of a log -/
def Itm (x : V) : Prop := x = .non ∨ ∃ i : Int, x = .int i
theorem itm_disp {m : Nat} {tk cl : List Nat} {t : Nat} : dispV m tk cl t = .non ∨ ∃ n : Nat, dispV m tk cl t = vn n := by
  unfold dispV
  by_cases h : cal tk cl (t + 1) = 0
  · rw [if_pos h]
    exact .inl rfl
  · rw [if_neg h]
    exact .inr ⟨_, rfl⟩
theorem disp_itm {m : Nat} {tk cl : List Nat} {t : Nat} : Itm (dispV m tk cl t) := by
  rcases itm_disp (m := m) (tk := tk) (cl := cl) (t := t) with h | ⟨n, h⟩
  · exact .inl h
  · exact .inr ⟨_, h⟩
def spTells : Sp := fun vs H Q _ => ∃ x y : V, vs = [x, y] ∧ Itm x ∧ (y = .non ∨ ∃ n : Nat, y = vn n) ∧ Q (.bl (decide (x = y))) H
/-- what first_error answers -/
inductive ErrV (m : Nat) (tk cl : List Nat) (xs : List V) : V → Prop where
  | no (h : ∀ (i : Nat) x, xs[i]? = some x → x = dispV m tk cl i) : ErrV m tk cl xs .non
  | at_ (i : Nat) (x : V) (hx : xs[i]? = some x) (hn : x ≠ dispV m tk cl i) (h : ∀ (j : Nat) y, j < i → xs[j]? = some y → y = dispV m tk cl j) : ErrV m tk cl xs (vn i)
def spErr (C : Addr) : Sp := fun vs H Q _ => ∃ (h lp l : Addr) (m lt : Nat) (tk cl : List Nat) (xs : List V), vs = [.ref h, .ref l] ∧ HallAt C H h m tk cl lt lp ∧ H l = some (.lst xs) ∧ xs.length ≤ 100000 ∧ (∀ x ∈ xs, Itm x) ∧ ∀ v H', Same H H' → ErrV m tk cl xs v → Q v H'
section
variable {P : Program} {w : World} {K : PySem.W.Frag} {mg : Str → Option Value} {base : Heap}
end
namespace Rd
variable {K : PySem.W.Frag} {H : Hp} {Q : VK} {E : XK} {C h lp : Addr} {m lt : Nat} {tk cl : List Nat}
theorem h_disp {n : Nat} (hn : n ≤ 1000000000000000000) (hA : HallAt C H h m tk cl lt lp) (k : Q (dispV m tk cl n) H) : spDisplay C [.ref h, .int (n : Int)] H Q E := ⟨h, lp, n, m, lt, tk, cl, rfl, hn, hA, k⟩
theorem h_err {l : Addr} {xs : List V} (hA : HallAt C H h m tk cl lt lp) (hl : H l = some (.lst xs)) (hn : xs.length ≤ 100000) (hi : ∀ x ∈ xs, Itm x) (k : ∀ v H', Same H H' → ErrV m tk cl xs v → Q v H') : spErr C [.ref h, .ref l] H Q E := ⟨h, lp, l, m, lt, tk, cl, xs, rfl, hA, hl, hn, hi, k⟩
end Rd
end Tk

/-! ### Texts of numbers -/
namespace Tx
open PySem PySem.Spec PyProof.Rows L2 TL
/-- a number's text -/
abbrev nS (n : Nat) : Str := Str.ofString (toString ((n : Nat) : Int))
theorem digit_c : ∀ c : Nat, 48 ≤ c → c ≤ 57 → Unicode.isDigit c = true := by
  intro c h1 h2
  have : c = 48 ∨ c = 49 ∨ c = 50 ∨ c = 51 ∨ c = 52 ∨ c = 53 ∨ c = 54 ∨ c = 55 ∨ c = 56 ∨ c = 57 := by omega
  rcases this with h | h | h | h | h | h | h | h | h | h <;> subst h <;> decide +kernel
theorem num_digit (n : Nat) : Txt.isdigit (nS n) = true := by
  unfold Txt.isdigit
  have l : (nS n).length > 0 := by
    rw [len_tl, tl_num]
    exact List.length_pos_iff.mpr (numL_ne n)
  rw [Bool.and_eq_true]
  refine ⟨decide_eq_true l, ?_⟩
  rw [← Array.all_toList]
  refine List.all_eq_true.mpr fun c hc => ?_
  have r := numL_digits n c (by rw [← tl_num]; exact hc)
  exact digit_c c r.1 r.2
theorem num_ascii (n : Nat) : Txt.isascii (nS n) = true := by
  unfold Txt.isascii
  rw [← Array.all_toList]
  refine List.all_eq_true.mpr fun c hc => ?_
  have r := numL_digits n c (by rw [← tl_num]; exact hc)
  exact decide_eq_true (by omega)
theorem num_len {n : Nat} (h : n ≤ 10000) : (nS n).length ≤ 5 := by
  rw [len_tl, tl_num]
  exact numL_len (by omega) (by omega)
/-- the first sign of a number that is not 0 -/
theorem head_num : ∀ {n : Nat}, 0 < n → ∃ c r, numL n = c :: r ∧ c ≠ 48 := by
  intro n
  induction n using Nat.strongRecOn with
  | _ n ih =>
    intro h
    by_cases q : n < 10
    · exact ⟨48 + n, [], numL_lt q, by omega⟩
    · obtain ⟨c, r, e, hc⟩ := ih (n / 10) (by omega) (by omega)
      rw [numL_step (by omega), e]
      exact ⟨c, _, rfl, hc⟩
theorem num_zero {n : Nat} : nS n = "0" ↔ n = 0 := by
  constructor
  · intro e
    have z := congrArg tl e
    rw [tl_num] at z
    have z2 : numL n = numL 0 := z.trans (by rw [numL_lt (by omega)]; rfl)
    exact numL_inj z2
  · intro e
    rw [e]
    rfl
theorem not_starts {n : Nat} (h : 0 < n) : Txt.startswith (nS n) "0" = false := by
  obtain ⟨c, r, e, hc⟩ := head_num h
  have e2 : nS n = SX.S (c :: r) := by
    show Str.ofString (toString ((n : Nat) : Int)) = _
    rw [SX.num_S, e]
  rw [e2]
  unfold Txt.startswith
  have : PySem.Builtin.Str.subAt (SX.S (c :: r)) "0" 0 = false := by
    unfold PySem.Builtin.Str.subAt
    refine beq_eq_false_iff_ne.mpr fun q => ?_
    have q2 := congrArg Array.toList q
    have q3 : ((c :: r).toArray.extract 0 (0 + 1)).toList = [48] := q2
    simp at q3
    exact hc q3
  rw [this, Bool.and_false]
/-- a line of a word and numbers -/
def ln (w : Str) (ns : List Nat) : Str := Txt.join " " (w :: ns.map nS)
theorem tl_sp : tl " " = [32] := by decide +kernel
theorem tl_lf : tl "\n" = [10] := by decide +kernel
theorem ln_split {w : Str} {ns : List Nat} (hw : 32 ∉ tl w) : Txt.split (ln w ns) " " = w :: ns.map nS :=
  split_join (s := 32) (S := []) tl_sp (by decide +kernel) (by simp) fun p hp => by
    rcases List.mem_cons.mp hp with e | e
    · rw [e]
      exact hw
    · obtain ⟨n, _, rfl⟩ := List.mem_map.mp e
      rw [tl_num]
      exact numL_free (.inl (by omega))
theorem mem_joinL {S : List Nat} : ∀ {ps : List (List Nat)} {c : Nat}, c ∈ joinL S ps → c ∈ S ∨ ∃ p ∈ ps, c ∈ p
  | [], c, h => by cases h
  | [p], c, h => .inr ⟨p, List.mem_singleton.mpr rfl, h⟩
  | p :: q :: r, c, h => by
    rcases List.mem_append.mp (show c ∈ p ++ (S ++ joinL S (q :: r)) from h) with h | h
    · exact .inr ⟨p, List.mem_cons_self, h⟩
    · rcases List.mem_append.mp h with h | h
      · exact .inl h
      · rcases mem_joinL h with h | ⟨z, hz, h⟩
        · exact .inl h
        · exact .inr ⟨z, List.mem_cons_of_mem _ hz, h⟩
theorem tl_ln (w : Str) (ns : List Nat) : tl (ln w ns) = joinL [32] (tl w :: ns.map numL) := by
  unfold ln
  rw [join_eq, tl_join, tl_sp, List.map_cons, List.map_map]
  congr 2
  exact List.map_congr_left fun n _ => tl_num n
theorem ln_free {w : Str} {ns : List Nat} (hw : 10 ∉ tl w) : 10 ∉ tl (ln w ns) := fun h => by
  rw [tl_ln] at h
  rcases mem_joinL h with h | ⟨p, hp, h⟩
  · simp at h
  · rcases List.mem_cons.mp hp with e | e
    · exact hw (e ▸ h)
    · obtain ⟨n, _, rfl⟩ := List.mem_map.mp e
      exact numL_free (.inl (by omega)) h
theorem joinL_len {S : List Nat} : ∀ {ps : List (List Nat)}, (joinL S ps).length ≤ (ps.map List.length).sum + ps.length * S.length
  | [] => by simp [joinL]
  | [p] => by simp [joinL]
  | p :: q :: r => by
    have ih := @joinL_len S (q :: r)
    have e : (joinL S (p :: q :: r)).length = p.length + (S.length + (joinL S (q :: r)).length) := by
      show (p ++ (S ++ joinL S (q :: r))).length = _
      rw [List.length_append, List.length_append]
    rw [e, List.map_cons, List.sum_cons, List.length_cons (a := p), Nat.succ_mul]
    omega
theorem sum_len {ns : List Nat} (h : ∀ n ∈ ns, n ≤ 10000) : ((ns.map numL).map List.length).sum ≤ 5 * ns.length := by
  induction ns with
  | nil => exact Nat.le_refl _
  | cons a r ih =>
    have h1 := ih fun n hn => h n (List.mem_cons_of_mem _ hn)
    have h2 : (numL a).length ≤ 5 := numL_len (by omega) (by have := h a List.mem_cons_self; omega)
    rw [List.map_cons, List.map_cons, List.sum_cons, List.length_cons]
    omega
theorem ln_len {w : Str} {ns : List Nat} (h1 : w.length ≤ 8) (h2 : ns.length ≤ 12) (h3 : ∀ n ∈ ns, n ≤ 10000) : (ln w ns).length ≤ 81 := by
  rw [len_tl, tl_ln]
  have a := @joinL_len [32] (tl w :: ns.map numL)
  have b := sum_len h3
  have c := len_tl w
  rw [List.map_cons, List.sum_cons, List.length_cons, List.length_map] at a
  have d : [32].length = 1 := rfl
  rw [d] at a
  omega
/-- the parts' lengths, joined by a space -/
theorem ln_size {w : Str} {ns : List Nat} (h1 : w.length ≤ 8) (h2 : ns.length ≤ 12) (h3 : ∀ n ∈ ns, n ≤ 10000) : ((w :: ns.map nS).map (·.length)).sum + (w :: ns.map nS).length * (" " : Str).length ≤ 16777216 := by
  have b := sum_len h3
  have e : (ns.map nS).map (·.length) = (ns.map numL).map List.length := by
    rw [List.map_map, List.map_map]
    refine List.map_congr_left fun n _ => ?_
    show (nS n).length = (numL n).length
    rw [len_tl, tl_num]
  have d : (" " : Str).length = 1 := by decide +kernel
  rw [List.map_cons, List.sum_cons, List.length_cons, List.length_map, e, d]
  omega
theorem ns_size {ns : List Nat} (h2 : ns.length ≤ 12) (h3 : ∀ n ∈ ns, n ≤ 10000) : ((ns.map nS).map (·.length)).sum + (ns.map nS).length * (" " : Str).length ≤ 16777216 := by
  have z := ln_size (w := "") (by decide +kernel) h2 h3
  rw [List.map_cons, List.sum_cons, List.length_cons, Nat.succ_mul] at z
  omega
theorem ln_glue {w : Str} {ns : List Nat} (h : ns ≠ []) : w ++ " " ++ Txt.join " " (ns.map nS) = ln w ns := by
  refine ext_tl ?_
  unfold ln
  rw [tl_append, tl_append, join_eq, join_eq, tl_join, tl_join, tl_sp]
  cases ns with
  | nil => exact absurd rfl h
  | cons a r =>
    show tl w ++ [32] ++ joinL [32] (((a :: r).map nS).map tl) = tl w ++ ([32] ++ joinL [32] (((a :: r).map nS).map tl))
    rw [List.append_assoc]
theorem ns_len {ns : List Nat} (h2 : ns.length ≤ 12) (h3 : ∀ n ∈ ns, n ≤ 10000) : (Txt.join " " (ns.map nS)).length ≤ 81 := by
  rw [len_tl, join_eq, tl_join, tl_sp]
  have a := @joinL_len [32] ((ns.map nS).map tl)
  have b := sum_len h3
  have e : (ns.map nS).map tl = ns.map numL := by
    rw [List.map_map]
    exact List.map_congr_left fun n _ => tl_num n
  rw [e, List.length_map] at a
  rw [e]
  have d : [32].length = 1 := rfl
  rw [d] at a
  omega
/-- the lines of a hall, its text -/
def lns (m : Nat) (tk cl : List Nat) (lt : Nat) : List Str := [ln "modulus" [m], ln "takes" tk, ln "calls" cl, ln "lateness" [lt]]
def txt (m : Nat) (tk cl : List Nat) (lt : Nat) : Str := Txt.join "\n" (lns m tk cl lt)
theorem txt_split {m : Nat} {tk cl : List Nat} {lt : Nat} : Txt.split (txt m tk cl lt) "\n" = lns m tk cl lt :=
  split_join (s := 10) (S := []) tl_lf (by decide +kernel) (by simp [lns]) fun p hp => by
    simp only [lns, List.mem_cons, List.not_mem_nil, or_false] at hp
    rcases hp with rfl | rfl | rfl | rfl <;> exact ln_free (by decide +kernel)
theorem lns_size {m : Nat} {tk cl : List Nat} {lt : Nat} (h1 : m ≤ 10000) (h2 : tk.length ≤ 12) (h3 : ∀ n ∈ tk, n ≤ 10000) (h4 : cl.length ≤ 12) (h5 : ∀ n ∈ cl, n ≤ 10000) (h6 : lt ≤ 10000) :
    ((lns m tk cl lt).map (·.length)).sum + (lns m tk cl lt).length * ("\n" : Str).length ≤ 400 := by
  have a1 := ln_len (w := "modulus") (ns := [m]) (by decide +kernel) (by simp) (by simp; exact h1)
  have a2 := ln_len (w := "takes") (by decide +kernel) h2 h3
  have a3 := ln_len (w := "calls") (by decide +kernel) h4 h5
  have a4 := ln_len (w := "lateness") (ns := [lt]) (by decide +kernel) (by simp) (by simp; exact h6)
  have d : ("\n" : Str).length = 1 := by decide +kernel
  simp only [lns, List.map_cons, List.map_nil, List.sum_cons, List.sum_nil, List.length_cons, List.length_nil, d]
  omega
theorem txt_len {m : Nat} {tk cl : List Nat} {lt : Nat} (h1 : m ≤ 10000) (h2 : tk.length ≤ 12) (h3 : ∀ n ∈ tk, n ≤ 10000) (h4 : cl.length ≤ 12) (h5 : ∀ n ∈ cl, n ≤ 10000) (h6 : lt ≤ 10000) : (txt m tk cl lt).length ≤ 400 := by
  have z := lns_size h1 h2 h3 h4 h5 h6
  have a := @joinL_len [10] ((lns m tk cl lt).map tl)
  unfold txt
  rw [len_tl, join_eq, tl_join, tl_lf]
  have e : ((lns m tk cl lt).map tl).map List.length = (lns m tk cl lt).map (·.length) := by
    rw [List.map_map]
    exact List.map_congr_left fun x _ => (len_tl x).symm
  rw [e, List.length_map] at a
  have d : ("\n" : Str).length = 1 := by decide +kernel
  rw [d] at z
  have d2 : [10].length = 1 := rfl
  rw [d2] at a
  omega
end Tx

/-! ### tuple.count, xs[::-1] -/
namespace Tk
open PySem PySem.Spec PyProof.Rows L2
namespace Cn
section
variable {X : Cx}
/-- tuple.count of a flat item -/
def rCntT (K : PySem.W.Frag) : V → List V → Hp → VK → Prop := fun x xs H Q => ∃ (p : Addr) (ys : List V) (y : V), x = .ref p ∧ xs = [y] ∧ SqT K H p ys ∧ flatV y = true ∧ ys.all flatV = true ∧ Q (.int (ys.countP (fun z => eqV z y) : Nat)) H
theorem counted {y : V} {uy : Value} (ry : RelV y uy) (fy : flatV y = true) : ∀ {ys : List V} {its : List Value}, Vals ys its → ys.all flatV = true → its.countP (eqU y) = ys.countP (fun z => eqV z y)
  | _, _, .nil, _ => rfl
  | z :: zs, u :: us, .cons rz rt, f => by
    obtain ⟨f1, f2⟩ := He.ba (show (flatV z && zs.all flatV) = true from f)
    rw [List.countP_cons, List.countP_cons, counted ry fy rt f2, eqU_of rz f1]
theorem mt_countT {K : PySem.W.Frag} (hK : X.K = K := by rfl) : MtR X "tuple.count" (rCntT K) := by
  subst hK
  intro pins s σ H x xs v us Q I rx rxs h
  obtain ⟨p, ys, y, rfl, rfl, hs, fy, fys, q⟩ := h
  cases rx
  cases rxs with
  | cons ry rt =>
    rename_i uy ut
    cases rt
    obtain ⟨its, rv, ⟨⟨cls, dd, data, sl⟩, ho, hc, n, hd⟩, hlen⟩ := I.tuple hs
    simp only at hc hd
    subst hc hd
    refine call_meets PySem.F.slot_tuple_count ⟨_, ho, rfl⟩ PySem.F.entry_tuple_count (PySem.F.args_tuple_count_2 _ _)
      (SeqAt.tuple_countAt p its.toArray n dd sl uy (eqU y)) ⟨ho, fun u' hu' => mem_eqAt ry fy rv fys u' (by simpa using hu'), ?_⟩
    have ec : its.toArray.toList.countP (eqU y) = ys.countP (fun z => eqV z y) := counted ry fy rv fys
    refine ⟨.int (ys.countP (fun z => eqV z y) : Nat), H, I.tok _, ⟨s.toks, ?_⟩, q⟩
    show Value.int ((its.toArray.toList.countP (eqU y) : Nat) : Int) s.toks = Value.int ((ys.countP (fun z => eqV z y) : Nat) : Int) s.toks
    rw [ec]
/-- a built-in method inside a comprehension -/
theorem pe_bmK {K : PySem.W.Frag} {T : String} {name : Str} {id : String} {r : V → List V → Hp → VK → Prop} {o e : Expr} {es : List Expr} {to : TE} {t : TA} {apos cpos : Pos} (pa : PlainAttrs T) (slot : Slot T name id) (hty : typeOf (.builtin id) = pure (.type "method_descriptor")) (hm : MtR X id r) (ho : PE X o to) (ha : PA X (e :: es) t)
    (hK : X.K = K := by rfl) (hbase : attributeBase o name X.env (eval o X.env) = eval o X.env := by rfl)
    (hfew : ((backTo cpos (starEach (e :: es) X.env)).all (fun x => !x.1) && (backToKw cpos (keywordEach [] X.env)).all (fun x => x.1.isSome)
      && decide ((e :: es).length + ([] : List Keyword).length + (if ([] : List Keyword).isEmpty then 0 else 1) < 30)) = true := by rfl)
    (hline : (apos.endLine == cpos.line) = true := by rfl) (hs : starEach (e :: es) X.env = (false, eval e X.env) :: starEach es X.env := by rfl) (hplain : (backTo cpos (starEach es X.env)).any (·.1) = false := by rfl) :
    PE X (.Call (.Attribute o name apos) (e :: es) [] cpos) (tBM K T r to t) := by
  subst hK
  exact pe_bm pa slot hty hm ho ha hbase hfew hline hs hplain
/-- a tuple whose object is known not to have a dict -/
def FzT (H : Hp) (a : Addr) (xs : List V) : Prop := ∃ o : Obj, H a = some (.frz o (.tup xs)) ∧ o.dict = none
theorem FzT.sq {K : PySem.W.Frag} {H : Hp} {a : Addr} {xs : List V} (h : FzT H a xs) : SqT K H a xs := h.elim fun o z => .inl (.inr ⟨o, z.1⟩)
theorem FzT.same {H H' : Hp} {a : Addr} {xs : List V} (h : FzT H a xs) (S : Same H H') : FzT H' a xs := h.elim fun o z => ⟨o, S _ _ z.1, z.2⟩
theorem FzT.but {H H' : Hp} {a d : Addr} {xs : List V} (h : FzT H a xs) (B : But d H H') (n : a ≠ d) : FzT H' a xs := h.elim fun o z => ⟨o, B _ _ n z.1, z.2⟩
theorem FzT.nel {H : Hp} {a d : Addr} {xs ys : List V} (h : FzT H a xs) (hd : H d = some (.lst ys)) : a ≠ d := fun e => by
  obtain ⟨o, z, _⟩ := h
  rw [e, hd] at z
  cases z
/-- a display -/
def tTupF (t : TA) : TE := fun σ H Q => t σ H fun xs H1 => xs.length ≤ sizeLine ∧ ∀ (p : Addr) (o : Obj), H1 p = none → o.dict = none → Q (.ref p) (upd H1 p (.frz o (.tup xs)))
theorem pe_tupF {es : List Expr} {t : TA} {pos : Pos} {x1} (h : PA X es t) : PE X (.Tuple es x1 pos) (tTupF t) := by
  refine ⟨fun pins s σ H Q I hq => ?_⟩
  refine wpAny_Tuple_spliced (thn (h.run pos pins s σ H _ I hq) fun us s1 ⟨xs, H1, I1, r, z, q⟩ => ⟨by rw [← r.length]; exact z, ?_⟩)
  have free : H1 s1.heap.objs.size = none := I1.hok.fresh (Nat.le_refl _)
  exact ⟨.ref s1.heap.objs.size, upd H1 s1.heap.objs.size (.frz _ (.tup xs)), I1.laid (t' := s1.toks) (fun b u e => Heap.get?_push_of_some _ e) (Nat.le_refl _) ⟨Heap.get?_push_size _ rfl, z, us, r, ⟨_, Heap.get?_push_size _ rfl, rfl, _, rfl⟩⟩, rfl, q _ _ free rfl⟩
/-- a sum -/
def rCatF (K : PySem.W.Frag) : R2 := fun x y H Q => ∃ a b xs ys, x = .ref a ∧ y = .ref b ∧ SqT K H a xs ∧ SqT K H b ys ∧ xs.length + ys.length ≤ sizeLine ∧
  (xs = [] → Q (.ref b) H) ∧ (xs ≠ [] → ys = [] → Q (.ref a) H) ∧ (xs ≠ [] → ys ≠ [] → ∀ (p : Addr) (o : Obj), H p = none → o.dict = none → Q (.ref p) (upd H p (.frz o (.tup (xs ++ ys)))))
theorem op_catF {K : PySem.W.Frag} (hK : X.K = K := by rfl) : OpR X (binaryOp .Add) (rCatF K) := by
  subst hK
  intro pins s σ H x y v u Q I rx ry h
  obtain ⟨a, b, xs, ys, rfl, rfl, ha, hb, hz, q0, q1, q2⟩ := h
  cases rx
  cases ry
  obtain ⟨its, r1, p1, _⟩ := I.tuple ha
  obtain ⟨its2, r2, p2, _⟩ := I.tuple hb
  by_cases hx : xs = []
  · subst hx
    cases r1
    exact cat_tup0 p1 p2 ⟨.ref b, H, I, rfl, q0 rfl⟩
  · refine HT.cat_tup p1 p2 (fun z => hx (r1.nil_iff.mp z)) (fun z => ⟨.ref a, H, I, rfl, q1 hx (r2.nil_iff.mp z)⟩) (fun z => ?_) (by rw [← r1.length, ← r2.length]; exact hz)
    exact ⟨.ref s.heap.objs.size, upd H s.heap.objs.size (.frz _ (.tup (xs ++ ys))), I.laid (t' := s.toks) (fun b ob q => Heap.get?_push_of_some _ q) (Nat.le_refl _) ⟨Heap.get?_push_size _ rfl, by rw [List.length_append]; exact hz, _, r1.append r2, IsTup.new _ _⟩, rfl, q2 hx (fun w => z (r2.nil_iff.mpr w)) _ _ (I.hok.fresh (Nat.le_refl _)) rfl⟩
/-- t.count(x) -/
def tCntF (K : PySem.W.Frag) (te : TE) (t : TA) : TE := fun σ H Q => te σ H fun x H1 => ∃ p ys, x = .ref p ∧ FzT H1 p ys ∧ t σ H1 fun xs H2 => rCntT K (.ref p) xs H2 Q
theorem pe_cntF {K : PySem.W.Frag} {o e : Expr} {to : TE} {t : TA} {apos cpos : Pos} (ho : PE X o to) (ha : PA X [e] t)
    (hK : X.K = K := by rfl) (hbase : attributeBase o "count" X.env (eval o X.env) = eval o X.env := by rfl)
    (hfew : ((backTo cpos (starEach [e] X.env)).all (fun x => !x.1) && (backToKw cpos (keywordEach [] X.env)).all (fun x => x.1.isSome)
      && decide (([e] : List Expr).length + ([] : List Keyword).length + (if ([] : List Keyword).isEmpty then 0 else 1) < 30)) = true := by rfl)
    (hline : (apos.endLine == cpos.line) = true := by rfl) (hs : starEach [e] X.env = (false, eval e X.env) :: starEach [] X.env := by rfl) :
    PE X (.Call (.Attribute o "count" apos) [e] [] cpos) (tCntF K to t) := by
  subst hK
  refine ⟨fun pins s σ H Q I h => ?_⟩
  refine wpAny_Call_method_late hbase hfew hline rfl (thn (ho.run pins s σ H _ I h) fun v s1 ⟨x, H1, I1, r1, p, ys, ex, ⟨ob, hob, hdict⟩, q1⟩ => ?_)
  subst ex
  obtain rfl : v = Value.ref p := r1
  obtain ⟨hget, _, its, _, o2, he2, hc2, _⟩ := I1.hok p _ hob
  have hcls : ob.cls = .type "tuple" := by
    have : ob = o2 := Option.some.inj (hget.symm.trans he2)
    rw [this]
    exact hc2
  refine ⟨"tuple", _, PySem.F.plainAttrs_tuple, PySem.F.slot_tuple_count, PySem.F.type_tuple_count, ⟨ob, hget, hcls⟩, fun a e => ?_, ?_⟩
  · cases e
    exact ⟨ob, hget, hdict⟩
  have hA := ha.run cpos pins s1 σ H1 _ I1 q1
  rw [hs] at hA ⊢
  refine Calls.callWith_builtin (by rfl) (Calls.evalArgs_plain ?_)
  exact thn hA fun us s2 ⟨vs, H2, I2, r2, q2⟩ => mt_countT rfl pins s2 σ H2 (.ref p) vs (.ref p) us Q I2 rfl r2 q2
/-- xs[::-1] of a list -/
def tRev (K : PySem.W.Frag) (te : TE) (ts : TO) : TE := fun σ H Q => te σ H fun x H1 => ts σ H1 fun st H2 => st = some (-1) ∧ ∃ a xs, x = .ref a ∧ SqL K H2 a xs ∧ ∀ p, H2 p = none → Q (.ref p) (upd H2 p (.lst xs.reverse))
theorem vals_reverse {xs : List V} {us : List Value} (h : Vals xs us) : Vals xs.reverse us.reverse := by
  induction h with
  | nil => exact .nil
  | cons r _ ih =>
    rw [List.reverse_cons, List.reverse_cons]
    exact ih.append (.cons r .nil)
theorem pe_rev {K : PySem.W.Frag} {e st : Expr} {te : TE} {ts : TO} {p2 pos : Pos} (he : PE X e te) (hst : PO X (some st) ts) (hK : X.K = K := by rfl) (hso : ∀ u v, subscripted (.Slice none none (some st) p2) false u v = operate [u, v] (getItem u v) := by intro _ _; with_unfolding_all rfl) : PE X (.Subscript e (.Slice none none (some st) p2) pos) (tRev K te ts) := by
  subst hK
  refine ⟨fun pins s σ H Q I h => ?_⟩
  refine Subscript_ (thn (he.run pins s σ H _ I h) fun v s1 ⟨x, H1, I1, r1, q1⟩ => ?_)
  refine wpAny_Slice ?_
  rw [evalPart_none]
  refine wpAny_pure (wpAny_pure ?_)
  refine thn (hst.run pins s1 σ H1 _ I1 q1) fun vk s3 ⟨u, H3, I3, pk, eu, a, xs, ex, hx, q⟩ => ?_
  subst eu ex
  cases r1
  have I4 : Inv X pins σ H3 { s3 with heap := s3.heap.push { cls := .type "slice", data := .fields #[.none, .none, vk] } } := I3.kept (t' := s3.toks) fun b ob q => Heap.get?_push_of_some _ q
  obtain ⟨its, r, ht, hz⟩ := I4.list hx
  have hlen := r.length
  have hg : wpAny (model X.prog X.w) X.A (getItem (.ref a) (.ref s3.heap.objs.size)) (EP X pins σ Q) X.xe { s3 with heap := s3.heap.push { cls := .type "slice", data := .fields #[.none, .none, vk] } } := by
    refine wpAny_getItem_list_slice ht.isList (Heap.IsSliceOf.new ..) .none .none pk (by decide) ?_ (by rw [List.size_toArray] <;> omega)
    rw [PySem.W.krv_pick]
    refine ⟨.ref (s3.heap.push { cls := .type "slice", data := .fields #[.none, .none, vk] }).objs.size, _, I4.laid (t' := s3.toks) (o := .lst xs.reverse) (fun b ob q => Heap.get?_push_of_some _ q) (Nat.le_refl _) ?_, rfl, q _ (I4.hok.fresh (Nat.le_refl _))⟩
    exact ⟨by rw [List.length_reverse]; exact hz, _, 0, vals_reverse r, Heap.get?_push_size _ rfl⟩
  show wpAny (model X.prog X.w) X.A (subscriptTail e (.Slice none none (some st) p2) (.ref a) (.ref s3.heap.objs.size)) (EP X pins σ Q) X.xe { s3 with heap := s3.heap.push { cls := .type "slice", data := .fields #[.none, .none, vk] } }
  exact tail_any (ops := [.ref a, .ref s3.heap.objs.size]) ht.isList.typeIs slot_list_getitem.lookup hg (hso _ _)
end
end Cn
namespace Rd
variable {K : PySem.W.Frag} {σ : L2.St} {H : Hp} {Q : VK} {te : TE} {ts : TO}
/-- how often a number stands in a tuple of numbers -/
theorem cntT {a : Addr} {ns : List Nat} {i : Nat} (hq : SqT K H a (ns.map vn)) (k : Q (vn (ns.count i)) H) : Cn.rCntT K (.ref a) [vn i] H Q := by
  refine ⟨a, _, _, rfl, rfl, hq, rfl, ?_, ?_⟩
  · rw [List.all_map]
    exact List.all_eq_true.mpr fun _ _ => rfl
  · have e : (ns.map vn).countP (fun z => eqV z (vn i)) = ns.count i := by
      rw [List.countP_map]
      unfold List.count
      congr 1
      funext n
      show ((n : Int) == (i : Int)) = (n == i)
      rw [Bool.eq_iff_iff]
      simp only [beq_iff_eq]
      omega
    rw [e]
    exact k
/-- () -/
theorem tup0F (k : ∀ p H', H p = none → Same H H' → Cn.FzT H' p [] → Q (.ref p) H') : Cn.tTupF tNil σ H Q :=
  ⟨by show 0 ≤ sizeLine; decide, fun p o np ho => k p _ np (Same.nw np (Same.refl H)) ⟨o, upd_same, ho⟩⟩
/-- t.count(i) -/
theorem cntF {i j r n : Nat} {pl : List Nat} (hi : σ[i]? = some (some (.ref r))) (hj : σ[j]? = some (some (vn n))) (hr : Cn.FzT H r (pl.map vn)) (k : Q (vn (pl.count n)) H) : Cn.tCntF K (tVar i) (tCons (tVar j) tNil) σ H Q :=
  ⟨.ref r, hi, r, _, rfl, hr, vn n, hj, cntT (ns := pl) (i := n) hr.sq k⟩
/-- t + (x,) -/
theorem snoc {i j r x : Nat} {pl : List Nat} (hi : σ[i]? = some (some (.ref r))) (hj : σ[j]? = some (some (vn x))) (hr : Cn.FzT H r (pl.map vn)) (hl : pl.length ≤ 900) (k : ∀ p H', H p = none → Same H H' → Cn.FzT H' p ((pl ++ [x]).map vn) → Q (.ref p) H') :
    tOp (Cn.rCatF K) (tVar i) (Cn.tTupF (tCons (tVar j) tNil)) σ H Q := by
  refine ⟨.ref r, hi, vn x, hj, by show 1 ≤ sizeLine; decide, fun q o nq ho => ?_⟩
  have S1 : Same H (upd H q (.frz o (.tup [vn x]))) := Same.nw nq (Same.refl H)
  have hq : Cn.FzT (upd H q (.frz o (.tup [vn x]))) q [vn x] := ⟨o, upd_same, ho⟩
  refine ⟨r, q, pl.map vn, [vn x], rfl, rfl, (hr.same S1).sq, hq.sq, Nat.le_trans (m := 1000) (by rw [List.length_map]; show pl.length + 1 ≤ 1000; omega) (by decide), fun e => ?_, fun _ e => (by cases e), fun _ _ p o2 np ho2 => ?_⟩
  · have e : pl = [] := List.map_eq_nil_iff.mp e
    subst e
    exact k q _ nq S1 hq
  · refine k p _ (S1.free np) (S1.trans (Same.nw np (Same.refl _))) ⟨o2, ?_, ho2⟩
    rw [upd_same, List.map_append]
    rfl
theorem rev (k : te σ H fun x H1 => ts σ H1 fun st H2 => st = some (-1) ∧ ∃ a xs, x = .ref a ∧ SqL K H2 a xs ∧ ∀ p, H2 p = none → Q (.ref p) (upd H2 p (.lst xs.reverse))) : Cn.tRev K te ts σ H Q := k
end Rd
end Tk

/-! ### Errors whose context is None: what a def promises of them; a clause that ends with raise -/
namespace Tk
open PySem PySem.Spec PyProof.Rows L2
namespace Xr
theorem cx_down {P : Program} {w : World} {ol : List Env} {H : Hp} {z : Shared} {E : XK} {u : Value} {t : Shared} (h : L2N.CX P w ol H z E u t) : L2.CX P w ol H z E u t := by
  obtain ⟨q, B, G, c, d, e1, fl, k1, k2, k3, k4, k5, k6⟩ := h
  exact ⟨q, B, G, c, d, e1, L2H.flyingZ_imp (fun _ y => y.zc) fl, k1, k2, k3, k4, k5, k6⟩
/-- as OkF, what leaves it has no context -/
structure OkN (P : Program) (w : World) (K : PySem.W.Frag) (mg : Str → Option Value) (base : Heap) (k : Nat) (a : Addr) (ps : List Str) (sp : Sp) : Prop where
  ex : ∃ fd, FnOk P w K mg base (L2N.CX P w) k a fd ps sp ∧ Binds K fd ps []
  kp : PySem.W.keepIn K (.ref a) = true
/-- as OkF, called while an error is handled -/
structure OkH (P : Program) (w : World) (K : PySem.W.Frag) (mg : Str → Option Value) (base : Heap) (k : Nat) (a : Addr) (ps : List Str) (sp : Sp) : Prop where
  ex : ∃ fd, L2H.FnH P w K mg base (L2.CX P w) k a fd ps sp ∧ Binds K fd ps []
  kp : PySem.W.keepIn K (.ref a) = true
section
variable {P : Program} {w : World} {K : PySem.W.Frag} {mg : Str → Option Value} {base : Heap} {k : Nat} {a : Addr} {ps : List Str} {sp : Sp}
theorem OkN.one (O : OkN P w K mg base k a ps sp) : FnOk P w K mg base (L2N.CX P w) k a (Classical.choose O.ex) ps sp := (Classical.choose_spec O.ex).1
theorem OkN.two (O : OkN P w K mg base k a ps sp) : Binds K (Classical.choose O.ex) ps [] := (Classical.choose_spec O.ex).2
theorem OkH.one (O : OkH P w K mg base k a ps sp) : L2H.FnH P w K mg base (L2.CX P w) k a (Classical.choose O.ex) ps sp := (Classical.choose_spec O.ex).1
theorem OkH.two (O : OkH P w K mg base k a ps sp) : Binds K (Classical.choose O.ex) ps [] := (Classical.choose_spec O.ex).2
theorem OkN.dn (O : OkN P w K mg base k a ps sp) : OkF P w K mg base k a ps sp := by
  obtain ⟨⟨fd, F, b⟩, kp⟩ := O
  refine ⟨⟨fd, ⟨F.len, fun A ol z H ar us vs Q E hr e0 hb r h => codeAny_mono (F.run A ol z H ar us vs Q E hr e0 hb r h) fun res z2 q => ?_⟩, b⟩, kp⟩
  cases res with
  | error e => exact cx_down q
  | ok f => cases f <;> exact q
end
theorem FnP.okN {P : Program} {w : World} {K : PySem.W.Frag} {mg : Str → Option Value} {base : Heap} {x qual : Str} {st : Stmt} {f : Addr} {N ps : List Str} {k : Nat} {sp : Sp} (F : ∃ fd, FnP K x qual st f fd) (S : FnScope N ps (defScope st))
    (hb : ∀ (kV doc pm : Value) (an : Option Addr) (cdv ct : Value) (us : List Value), us.length = ps.length → bindArgs (PySem.W.fnOf x qual (defArgs st) (defBody st) (defScope st) .none kV doc pm an cdv ct) ⟨us, []⟩ = pure (ps.zip us))
    (len : ∀ vs H Q E, sp vs H Q E → vs.length = ps.length)
    (hbody : ∀ (cdv : Value) (A : Around) (outer : List Env) (s : Shared) (H : Hp) (vs : List V) (Q : VK) (E : XK), Room k (A.deeper (envOfC qual (defScope st) s.heap.objs.size f cdv)) → sp vs H Q E →
      ∃ t, PSs (cxOf (L2N.CX P w) P w K mg base N qual (defScope st) f cdv A outer s H E) (defBody st) t ∧ t { nx := fun _ H' => Q .non H', rt := Q } (start N vs) H) : OkN P w K mg base (k + 1) f ps sp := by
  obtain ⟨fd, F⟩ := F
  exact ⟨⟨fd, F.ok S len hbody, F.bindsN hb⟩, F.kp⟩
theorem FnP.okH {P : Program} {w : World} {K : PySem.W.Frag} {mg : Str → Option Value} {base : Heap} {x qual : Str} {st : Stmt} {f : Addr} {N ps : List Str} {k : Nat} {sp : Sp} (F : ∃ fd, FnP K x qual st f fd) (S : FnScope N ps (defScope st))
    (hb : ∀ (kV doc pm : Value) (an : Option Addr) (cdv ct : Value) (us : List Value), us.length = ps.length → bindArgs (PySem.W.fnOf x qual (defArgs st) (defBody st) (defScope st) .none kV doc pm an cdv ct) ⟨us, []⟩ = pure (ps.zip us))
    (len : ∀ vs H Q E, sp vs H Q E → vs.length = ps.length)
    (hbody : ∀ (cdv : Value) (A : Around) (outer : List Env) (s : Shared) (H : Hp) (vs : List V) (Q : VK) (E : XK) (p : Addr × Obj), L2H.Hot1 A p → sp vs H Q E →
      ∃ t, PSs (L2H.cxH (L2.CX P w) P w K mg base N qual (defScope st) f cdv A outer s H E p) (defBody st) t ∧ t { nx := fun _ H' => Q .non H', rt := Q } (start N vs) H) : OkH P w K mg base (k + 1) f ps sp := by
  obtain ⟨fd, F⟩ := F
  have kp := F.kp
  have bn := F.bindsN hb
  obtain ⟨oc, od, dV, kV, doc, pm, an, cdv, ct, osl, rfl, lk, hcd, hD, _⟩ := F.ex
  exact ⟨⟨_, L2H.fn_ofH lk hcd S len fun A ol z H vs Q E p hot _ h => hbody cdv A ol z H vs Q E p hot h, bn⟩, kp⟩
section
variable {X : Cx} {e : Expr} {es : List Expr} {ta : TA} {p pos : Pos}
/-- C(e, ..): an error of our own whose context is None -/
theorem pmkN {CX : CXT} {x : Str} {C fI : Addr} {k : Nat} {fd : FuncData} {ps : List Str} {sp : Sp} {ds : List Value} {dvs : List V} (T : OexC X.K C) (iC : PySem.W.findIn X.K (.ref C) "__init__" = some (some (.ref fI))) (tI : PySem.W.typeIn X.K (.ref fI) = some (.type "function"))
    (F1 : FnOk X.prog X.w X.K X.mg X.base CX k fI fd ps sp) (hr : Room (k + 1) X.A) (hb : Binds X.K fd ps ds) (hd : Vals dvs ds) (hx : Passes CX X (fun _ _ _ => False)) (hg : Gl X x) (hm : X.mg x = some (.ref C)) (ha : PA X (e :: es) ta)
    (hdb : (x == ("__debug__" : Str)) = false := by decide) (he : starEach (e :: es) X.env = (false, eval e X.env) :: starEach es X.env := by rfl) (hpl : (backTo pos (starEach es X.env)).any (·.1) = false := by rfl) :
    L2N.PMk X (.Call (.Name x p) (e :: es) [] pos) (tMkO C sp dvs ta) := by
  intro pl z σ H Q I h
  obtain ⟨_, _, _, _, bm, _, _, _, _, _, _, _, _, _, _, hC, hbm⟩ := T.cls
  refine wpAny_Call_Name_kw (ld_glob I hg hm ?_ hdb)
  refine PySem.W.callWith_K (h₀ := X.base) I.ok.mod.kin T.kC (thn (ha.run pos pl z σ H _ I h) fun us ⟨hp, g, dr, tk, os⟩ ⟨vs, G, I1, r1, hz, q1⟩ => ⟨I1.kIn, ?_⟩) he hpl
  have big : hp.objs.size ≤ hp.objs.size + 1 := Nat.le_succ _
  have hq := q1 (hp.objs.size + 1) (I1.hok.fresh big)
  have up2 : ∀ b o, hp.get? b = some o → ((hp.push (PySem.W.kdv_tup us)).push (PySem.HandSPX.excO C hp.objs.size)).get? b = some o := fun _ _ y => Heap.get?_push_of_some _ (Heap.get?_push_of_some _ y)
  have here : ((hp.push (PySem.W.kdv_tup us)).push (PySem.HandSPX.excO C hp.objs.size)).get? (hp.objs.size + 1) = some (PySem.HandSPX.excO C hp.objs.size) := by heap_get
  have J := I1.laid (t' := tk) (a := hp.objs.size + 1) (o := exo (hp.objs.size + 1) C none) (h' := (hp.push (PySem.W.kdv_tup us)).push (PySem.HandSPX.excO C hp.objs.size)) up2 big (exo_ok here)
  have rr : Vals (V.ref (hp.objs.size + 1) :: (vs ++ dvs)) (Value.ref (hp.objs.size + 1) :: (us ++ ds)) := .cons rfl (r1.append hd)
  have hl : (Value.ref (hp.objs.size + 1) :: us ++ ds).length = ps.length := rr.length.symm.trans (F1.len _ _ _ _ hq)
  have hus : us.length ≤ sizeLine := by rw [← Paired.length r1, sizeLine_eq]; omega
  have bb := hb _ (Value.ref (hp.objs.size + 1) :: us) J.kIn hl
  refine wpAny_call (PySem.HandSPX.call_own F.excBase_ValueError (fun Y => PySem.HandSPX.refsVE_contains Y bm hbm) (I1.kIn _ _ hC) (PySem.W.looks_findIn I1.kIn iC) (fun self => PySem.W.bind_fn I1.kIn self tI) hus
    (codeAny_mono (F1.run _ X.stack _ _ ⟨Value.ref (hp.objs.size + 1) :: us, []⟩ _ _ _ (fun _ _ _ => False) (hr.make C us []) (J.env0.make C us []) bb rr hq) fun res z2 hq2 => ?_))
  match res, hq2 with
  | .error er, hq2 => exact hx pl σ _ _ er z2 J hq2
  | .ok (.ret u), hq2 =>
    obtain ⟨v, H2, os2, bare2, un2, hok2, rv, ev, d, fs, ea, ed, hd1, q2⟩ := hq2
    subst ev
    obtain ⟨h2, g2, d2, t2, o2⟩ := z2
    obtain ⟨t0, G2, J2, kG, ge, hoe, na⟩ := mk_end0 (d2 := d2) (t2 := t2) I1 big up2 un2 hok2 os2 bare2 ea ed hd1
    exact ⟨rv, hp.objs.size + 1, _, _, ⟨G2, g2, d2, t2, o2⟩, _, .ref C, some d, rfl, J2, kG, ge, hoe, ⟨rfl, rfl, fun ws y => by cases y; rfl⟩, rfl, rfl, na, rfl, bare2, raises_own T.exC T.tyC, q2⟩
end
/-! o.f as a target -/
def gAttr (K : PySem.W.Frag) (to : TE) (f : Str) : TG := fun v σ H Q => to σ H fun x H1 => ∃ a C dx fs, x = .ref a ∧ H1 a = some (.ins C dx fs) ∧ Cls K C ∧ NoAttr K C f ∧ fs.length < 1000 ∧ Q σ (upd H1 a (.ins C dx (putF f v fs)))
section
variable {X : Cx} {o : Expr} {to : TE} {f : Str} {pos : Pos}
theorem pg_attr (ho : PE X o to) : PG X (.Attribute o f pos) (gAttr X.K to f) := by
  refine ⟨fun pl z σ H v u Q I r h => PySem.W.kas_attr (thn (ho.run pl z σ H _ I h) fun ov z1 ⟨x, H1, J, rx, a, C, dx, fs, ex, ea, c, n, l, q⟩ => ?_)⟩
  subst ex
  obtain rfl : ov = Value.ref a := rx
  exact setattr_ok J ea c n l r fun z2 J2 => ⟨σ, _, J2, q⟩
end
/-! unpacking a tuple while an error is handled -/
section
variable {prog : Program} {w : World} {A : Around} {E : Value → Shared → Prop} {s : Shared}
open HotX in
theorem tup_end_hot {it t x1 : Addr} {i : Nat} {its : Array Value} {Q : Option Value → Shared → Prop} (hot : HotAt A x1 s.heap) (hi : IsTupIter s.heap it t i) (ht : IsTup s.heap t its) (hx : its[i]? = none)
    (hQ : ∀ g, Heap.ExtBut it s.heap g → Q none { s with heap := g }) : wpAny (model prog w) A (pyNext (.ref it)) Q E s := by
  obtain ⟨o, ho, hc, hd⟩ := id hi
  obtain ⟨ol, hol, _, nl, hdl⟩ := ht
  obtain ⟨hh, o1, v1, h1, d1, c1⟩ := hot
  have itx : x1 ≠ it := fun q => by
    rw [q, ho] at h1
    cases h1
    rw [hd] at d1
    cases d1
    cases c1
  unfold pyNext
  refine wpAny_bind (wpAny_attempt (wpAny_callSpecial?_slot (name := Str.ofString "__next__") hi.typeIs slot_tupleiter_next (wpAny_call_entry slot_tupleiter_next hi.typeIs entry_tupleiter_next ?_ (args_tupleiter_next _))))
  show wpAny (model prog w) A.in1 (field (.ref it) 0 >>= _) _ _ s
  refine wpAny_bind (wpAny_field ho hd (x := .ref t) rfl ?_)
  show wpAny (model prog w) A.in1 (if (Value.ref t == Value.none) = true then _ else _) _ _ s
  rw [if_neg (by simp : ¬ (Value.ref t == Value.none) = true)]
  show wpAny (model prog w) A.in1 (field (.ref it) 1 >>= _) _ _ s
  refine wpAny_bind (wpAny_field ho hd (x := .int i 0) rfl ?_)
  show wpAny (model prog w) A.in1 (seqItems? (.ref t) >>= _) _ _ s
  refine wpAny_bind (wpAny_seqItems hol hdl ?_)
  simp only [Int.toNat_natCast, hx]
  refine wpAny_bind (wpAny_rule (wpAny_bind (wpAny_setField ho hd (by simp) ?_)))
  show wpAny (model prog w) A.in1 (newExc (.type "StopIteration") [] >>= _) _ _ _
  refine wpAny_bind ?_
  simp only [newExc, newTuple]
  refine wpAny_bind (wpAny_newObj_type (wpAny_bind (m := firstArgMember _ _) (wpAny_of_eq (a := Value.none) (by first | rfl | (simp only [firstArgMember]; rfl)) (wpAny_newObj_type ?_ (by size_fits)))) (by size_fits))
  have sb : Heap.SameBut it s.heap _ := Heap.SameBut.update (h := s.heap) (a := it) (f := Obj.mapFields (·.setIfInBounds 0 Value.none))
  have g1 := (sb.2 x1 itx).trans h1
  refine raiseNew_hot ⟨hh, o1, v1, Heap.get?_push_of_some _ (Heap.get?_push_of_some _ g1), d1, c1⟩ (Nat.ne_of_lt (Heap.lt_size (Heap.get?_push_of_some _ g1))) (Heap.get?_push_size _ rfl) rfl (by first | (simp; done) | (simp; omega) | (simp only [Array.size_append]; simp; omega)) ?_
  refine wpAny_bind (wpAny_isInstance (T := "StopIteration") (b := true) ⟨_, Heap.get?_update_self _ (Heap.get?_push_size _ rfl) rfl, rfl⟩ isSubtype_stop (wpAny_pure (hQ _ fun b ob hb q => ?_)))
  have g2 := (sb.2 b hb).trans q
  rw [Heap.get?_update_other _ _ (Nat.ne_of_gt (Heap.lt_size (Heap.get?_push_of_some _ g2)))]
  exact Heap.get?_push_of_some _ (Heap.get?_push_of_some _ g2)
theorem unpack_hot {t x1 : Addr} {its : Array Value} {ts : List (Bool × (Value → Sem Unit))} {Q : Unit → Shared → Prop} (hot : HotX.HotAt A x1 s.heap) (ht : IsTup s.heap t its) (hn : ts.length = its.size) (hs : ts.findIdx? (·.1) = none)
    (h : ∀ g, Heap.ExtBut s.heap.objs.size s.heap g → wpAny (model prog w) A (assignInOrder (ts.map (·.2)) its.toList) Q E { s with heap := g }) : wpAny (model prog w) A (unpack (.ref t) ts) Q E s := by
  have ne : t ≠ s.heap.objs.size := ht.elim fun o z => Nat.ne_of_lt (Heap.lt_size z.1)
  obtain ⟨hh, o1, v1, h1, d1, c1⟩ := hot
  have nx : x1 ≠ s.heap.objs.size := Nat.ne_of_lt (Heap.lt_size h1)
  unfold unpack
  rw [hn, hs]
  refine wpAny_bind (wpAny_holding ?_)
  unfold unpackItems
  refine wpAny_bind ?_
  unfold notIterableAtAll
  refine wpAny_bind (wpAny_specialOf ht.typeIs slot_tuple_iter.lookup (wpAny_pure ?_))
  simp only [Bool.false_eq_true, if_false]
  refine wpAny_bind (wpAny_holding (iter_tuple ht (wpAny_bind (wpAny_holding (draw_tuple ne its.size 0 _ _ ⟨_, Heap.get?_push_size _ rfl, rfl, rfl⟩ (ht.push _) (by omega) fun g1 i1 s1 => ?_)))))
  rw [List.drop_zero, List.take_of_length_le (by simp : its.toList.length ≤ its.size), if_neg (by simp)]
  have ht1 : IsTup g1 t its := (ht.push _).extBut s1.extBut ne
  refine wpAny_bind (wpAny_holding (tup_end_hot (x1 := x1) ⟨hh, o1, v1, s1.extBut _ _ nx (Heap.get?_push_of_some _ h1), d1, c1⟩ i1 ht1 (by simp) fun g2 e2 => ?_))
  simp only [Option.isSome_none, Bool.false_eq_true, if_false]
  exact wpAny_pure (h g2 fun b o hb q => e2 b o hb (s1.extBut b o hb (Heap.get?_push_of_some _ q)))
end
theorem pg_tupH {X : Cx} {pos : Pos} {es : List Expr} {k : Nat} {t : TGs} {n : Nat} (hc : L2H.HotC X) (h : PGs X es t)
    (hn : (assignEach es X.env).length = n := by rfl) (hst : (assignEach es X.env).findIdx? (·.1) = none := by rfl) : PG X (.Tuple es k pos) (gTup X.K n t) := by
  refine ⟨fun pl z σ H v u Q I r ⟨a, xs, e1, hq, hl, hw⟩ => ?_⟩
  subst e1
  cases r
  obtain ⟨its, rv, ht, _⟩ := I.tuple hq
  obtain ⟨x1, hot⟩ := hc.at I
  rw [PyProof.Rows.assign_Tuple]
  refine wpAny_bind (wpAny_standAt (unpack_hot hot ht (by simp [hn, ← hl, rv.length]) hst fun g hx => ?_))
  exact h.run pl _ σ H xs _ Q (I.kept (t' := z.toks) fun b o e => hx b o (Nat.ne_of_lt (Heap.lt_size e)) e) (by simpa using rv) hw
end Xr
end Tk

section
local macro_rules | `(tactic| walk_at "hp") => `(tactic| first
  | assumption
  | with_reducible exact L2.upd_same
  | ((with_reducible refine' Tk.Same.get ?k0 ?k1); (case k0 => assumption); (case k1 => walk_at "hp"))
  | fail "hp")
local macro_rules | `(tactic| walk_at "same") => `(tactic| first
  | assumption
  | exact L2.Same.refl _
  | ((with_reducible refine' Tk.Same.nw ?k0 ?k1); (case k0 => assumption); (case k1 => walk_at "same"))
  | ((with_reducible refine' Tk.Same.tr ?k0 ?k1); (case k0 => assumption); (case k1 => walk_at "same")))
local macro_rules | `(tactic| walk_at "sql") => `(tactic| first
  | assumption
  | ((with_reducible refine' L2.SqL.of ?k0); (case k0 => walk_at "hp"))
  | ((with_reducible refine' L2.Same.seq ?k0 ?k1); (case k0 => assumption); (case k1 => walk_at "sql")))
local macro_rules | `(tactic| walk_at "sqt") => `(tactic| first
  | assumption
  | ((with_reducible refine' L2.SqT.of ?k0); (case k0 => walk_at "hp"))
  | ((with_reducible refine' Tk.sqt_sm ?k0 ?k1); (case k0 => assumption); (case k1 => walk_at "sqt")))
local macro_rules | `(tactic| walk_at "sz") => `(tactic| first
  | (show (_ : Nat) ≤ 1000; decide)
  | (simp; done)
  | (simp; omega))
local macro_rules | `(tactic| walk_at "szb") => `(tactic| first
  | assumption
  | (show (_ : Nat) ≤ 100000; decide)
  | (simp; done)
  | (simp; omega))
local macro_rules | `(tactic| walk_at "dp") => `(tactic| first
  | assumption
  | with_reducible exact L2.Dp.non
  | with_reducible exact L2.Dp.int _
  | with_reducible exact L2.Dp.str _
  | with_reducible exact L2.Dp.bl _
  | ((with_reducible refine' L2.Dp.lst ?k0 ?k1); (case k0 => walk_at "sql"); (case k1 => walk_at "dpa"))
  | ((with_reducible refine' L2.Dp.tup ?k0 ?k1); (case k0 => walk_at "sqt"); (case k1 => walk_at "dpa"))
  | ((with_reducible refine' Tk.dp_sm ?k0 ?k1); (case k0 => assumption); (case k1 => walk_at "dp"))
  | fail "dp")
local macro_rules | `(tactic| walk_at "dpa") => `(tactic| first
  | assumption
  | with_reducible exact L2.DpAll.nil
  | ((with_reducible refine' L2.DpAll.cons ?k0 ?k1); (case k0 => walk_at "dp"); (case k1 => walk_at "dpa"))
  | with_reducible exact Tk.dp_nats _
  | ((with_reducible refine' Tk.dpA_sm ?k0 ?k1); (case k0 => assumption); (case k1 => walk_at "dpa"))
  | fail "dpa")
local macro_rules | `(tactic| walk_at "ci") => `(tactic| first
  | exact .inl ⟨by decide, by decide⟩
  | exact .inr ⟨by decide, by decide⟩
  | exact .inl ⟨by omega, by omega⟩
  | exact .inr ⟨by omega, by omega⟩
  | exact ⟨by decide, by decide⟩
  | exact ⟨by omega, by omega⟩
  | (show (0 : Int) < _; decide)
  | (show (0 : Int) < _; omega))
local macro_rules | `(tactic| walk_at "rd1") => `(tactic| first
  | with_reducible refine Tk.Rd.seq ?_
  | with_reducible refine Tk.Rd.star ?_
  | with_reducible refine Tk.Rd.int1_i ?_
  | with_reducible refine Tk.Rd.int1_b ?_
  | with_reducible refine Tk.Rd.tlc2 ?_
  | with_reducible refine Tk.Rd.lrg3 ?_
  | with_reducible refine Tk.Rd.lrg ?_
  | with_reducible refine Tk.Rd.rg1 ?_
  | with_reducible refine Tk.Rd.rg1K_i ?_
  | with_reducible refine Tk.Rd.rg2 ?_
  | with_reducible refine Tk.Rd.rg2K_i ?_
  | ((with_reducible refine' Tk.Rd.catL ?k0 ?k1 ?k2 fun p H' np S hp => ?_); (case k0 => walk_at "hp"); (case k1 => walk_at "hp"); (case k2 => walk_at "szb"))
  | ((with_reducible refine' Tk.Rd.starK_t ?k0 ?_); (case k0 => walk_at "sqt"))
  | ((with_reducible refine' Tk.Rd.starK_l ?k0 ?_); (case k0 => walk_at "sql"))
  | ((with_reducible refine' Tk.Rd.var ?k0 ?_); (case k0 => exact rfl))
  | with_reducible refine Tk.Rd.c ?_
  | with_reducible refine Tk.Rd.op ?_
  | with_reducible refine Tk.Rd.i0 ?_
  | with_reducible refine Tk.Rd.asg ?_
  | with_reducible refine Tk.Rd.name ?_
  | with_reducible refine Tk.Rd.cons ?_
  | with_reducible refine Tk.Rd.nil ?_
  | with_reducible refine Tk.Rd.call ?_
  | with_reducible refine Tk.Rd.callK_i ?_
  | with_reducible refine Tk.Rd.tst ?_
  | with_reducible refine Tk.Rd.bv ?_
  | with_reducible refine Tk.Rd.toB_i ?_
  | with_reducible refine Tk.Rd.ift ?_
  | with_reducible refine Tk.Rd.iff ?_
  | with_reducible refine Tk.Rd.ifnt ?_
  | with_reducible refine Tk.Rd.ifnf ?_
  | with_reducible refine Tk.Rd.not ?_
  | with_reducible refine Tk.Rd.and ?_
  | with_reducible refine Tk.Rd.or ?_
  | with_reducible refine Tk.Rd.andV ?_
  | with_reducible refine Tk.Rd.andK_i ?_
  | with_reducible refine Tk.Rd.orV ?_
  | with_reducible refine Tk.Rd.orK_i ?_
  | with_reducible refine Tk.Rd.notV ?_
  | with_reducible refine Tk.Rd.notK_i ?_
  | with_reducible refine Tk.Rd.tif ?_
  | with_reducible refine Tk.Rd.yes ?_
  | with_reducible refine Tk.Rd.tfor ?_
  | with_reducible refine Tk.Rd.tlc ?_
  | with_reducible refine Tk.Rd.rng ?_
  | ((with_reducible refine' Tk.Rd.rngK_n ?k0 ?_); (case k0 => first | decide | omega))
  | ((with_reducible refine' Tk.Rd.rngK_lit ?k0 ?_); (case k0 => decide))
  | with_reducible refine Tk.Rd.rng2 ?_
  | with_reducible refine Tk.Rd.rng3 ?_
  | with_reducible refine Tk.Rd.ilist ?_
  | with_reducible refine Tk.Rd.zip ?_
  | with_reducible refine Tk.Rd.itup ?_
  | ((with_reducible refine' Tk.Rd.listK_i ?k0 ?_); (case k0 => walk_at "sql"))
  | ((with_reducible refine' Tk.Rd.ituK_i ?k0 ?_); (case k0 => walk_at "sqt"))
  | with_reducible refine Tk.Rd.chain ?_
  | with_reducible refine Tk.Rd.chainL_i ?_
  | with_reducible refine Tk.Rd.un ?_
  | with_reducible refine Tk.Rd.u1 ?_
  | ((with_reducible refine' Tk.Rd.i1 ?k0 ?_); (case k0 => walk_at "ci"))
  | ((with_reducible refine' Tk.Rd.eq ?k0 ?_); (case k0 => exact rfl))
  | ((with_reducible refine' Tk.Rd.ne ?k0 ?_); (case k0 => exact rfl))
  | with_reducible refine Tk.Rd.isN ?_
  | with_reducible refine Tk.Rd.notN ?_
  | with_reducible refine Tk.Rd.fld ?_
  | with_reducible refine Tk.Rd.meth ?_
  | with_reducible refine Tk.Rd.methR ?_
  | with_reducible refine Tk.Rd.prop ?_
  | with_reducible refine Tk.Rd.cb ?_
  | with_reducible refine Tk.Rd.bm ?_
  | with_reducible refine Tk.Rd.m0 ?_
  | with_reducible refine Tk.Rd.m0K_i ?_
  | with_reducible refine Tk.Rd.m1 ?_
  | with_reducible refine Tk.Rd.m1K_i ?_
  | with_reducible refine Tk.Rd.tup ?_
  | ((with_reducible refine' Tk.Rd.tupK_i ?k0 fun p H' np S hp => ?_); (case k0 => walk_at "sz"))
  | with_reducible refine Tk.Rd.lst ?_
  | ((with_reducible refine' Tk.Rd.lstK_i ?k0 fun p H' np S hp => ?_); (case k0 => walk_at "sz"))
  | ((with_reducible refine' Tk.Rd.ixF ?k0 ?k1 ?_); (case k0 => walk_at "hp"); (case k1 => omega))
  | ((with_reducible refine' Tk.Rd.ixF1 ?k0 ?k1 ?_); (case k0 => walk_at "hp"); (case k1 => omega))
  | ((with_reducible refine' Tk.Rd.ixT ?k0 ?k1 ?_); (case k0 => walk_at "sqt"); (case k1 => exact rfl))
  | ((with_reducible refine' Tk.Rd.ixL ?k0 ?k1 ?_); (case k0 => walk_at "sql"); (case k1 => exact rfl))
  | ((with_reducible refine' Tk.Rd.lenL ?k0 ?_); (case k0 => walk_at "sql"))
  | ((with_reducible refine' Tk.Rd.lenT ?k0 ?_); (case k0 => walk_at "sqt"))
  | ((with_reducible refine' Tk.Rd.lenS ?k0 ?_); (case k0 => first | assumption | omega | (simp; omega)))
  | ((with_reducible refine' Tk.Rd.slTr ?k0 fun p H' S hp => ?_); (case k0 => walk_at "hp"))
  | ((with_reducible refine' Tk.Rd.slT ?k0 fun p H' S hq => ?_); (case k0 => walk_at "sqt"))
  | ((with_reducible refine' Tk.Rd.catTr ?k0 ?k1 ?k2 fun p H' S hp => ?_); (case k0 => walk_at "hp"); (case k1 => walk_at "hp"); (case k2 => walk_at "sz"))
  | ((with_reducible refine' Tk.Rd.catA ?k0 ?k1 ?k2 ?k3 ?k4 fun p H' np S hp => ?_); (case k0 => walk_at "sqt"); (case k1 => walk_at "sqt"); (case k2 => simp); (case k3 => simp); (case k4 => first | (simp; done) | (simp; omega)))
  | with_reducible refine Tk.Rd.make ?_
  | ((with_reducible refine' Tk.Rd.tplL ?k0 fun q H' nq S hq => ?_); (case k0 => walk_at "sql"))
  | ((with_reducible refine' Tk.Rd.lstL ?k0 fun q H' nq S hq => ?_); (case k0 => walk_at "sql"))
  | ((with_reducible refine' Tk.Rd.lstT ?k0 fun q H' nq S hq => ?_); (case k0 => walk_at "sqt"))
  | ((with_reducible refine' Tk.Rd.join ?k0 ?k1 ?_); (case k0 => walk_at "sql"); (case k1 => first | assumption | omega))
  | with_reducible refine Tk.Rd.mx ?_
  | with_reducible refine Tk.Rd.mn ?_
  | with_reducible refine Tk.Rd.noPart ?_
  | with_reducible refine Tk.Rd.part ?_
  | with_reducible refine Tk.Rd.partK_i ?_
  | with_reducible refine Tk.Rd.slc ?_
  | ((with_reducible refine' Tk.Rd.gtup ?k0 ?k1 ?_); (case k0 => walk_at "sqt"); (case k1 => exact rfl))
  | ((with_reducible refine' Tk.Rd.glst ?k0 ?k1 ?_); (case k0 => walk_at "sql"); (case k1 => exact rfl))
  | with_reducible refine Tk.Rd.gcons ?_
  | with_reducible refine Tk.Rd.gnil ?_
  | with_reducible refine Tk.Rd.next ?_
  | with_reducible refine Tk.Rd.drop ?_
  | with_reducible refine Tk.Rd.ret ?_
  | with_reducible refine Tk.Rd.retN ?_
  | with_reducible refine Tk.Rd.par ?_
  | with_reducible refine Tk.Rd.parK_i ?_
  | with_reducible refine Tk.Rd.par3 ?_
  | with_reducible refine Tk.Rd.par3K_i ?_
  | ((with_reducible refine' Tk.Rd.aug ?k0 ?_); (case k0 => exact rfl))
  | with_reducible refine Tk.Rd.ip ?_
  | ((with_reducible refine' Tk.Rd.bmK_l ?k0 ?_); (case k0 => walk_at "sql"))
  | ((with_reducible refine' Tk.Rd.addS ?k0 ?_); (case k0 => walk_at "sz"))
  | fail "rd1")
local macro_rules | `(tactic| walk_at "rd1i") => `(tactic| first
  | walk_at "rd1"
  | with_reducible refine Tk.Rd.ifS ?_
  | fail "rd1i")
local macro_rules | `(tactic| walk_at "rd") => `(tactic| (repeat' walk_at "rd1i"))
local macro_rules | `(tactic| walk_at "rs") => `(tactic| ((repeat' walk_at "rd1"); (try dsimp only)))
local macro_rules | `(tactic| walk_at "hall") => `(tactic| first
  | assumption
  | ((with_reducible refine' Tk.HallAt.sm ?k0 ?k1); (case k0 => assumption); (case k1 => walk_at "hall"))
  | fail "hall")
local macro_rules | `(tactic| walk_at "parts") => `(tactic| first
  | assumption
  | ((with_reducible refine' Tk.PartsAt.sm ?k0 ?k1); (case k0 => assumption); (case k1 => walk_at "parts"))
  | fail "parts")
local macro_rules | `(tactic| walk_at "sm") => `(tactic| first
  | assumption
  | exact Tk.Sm.int rfl
  | exact Tk.Sm.flat1 rfl
  | ((with_reducible refine' Tk.Sm.sm ?k0 ?k1); (case k0 => assumption); (case k1 => walk_at "sm"))
  | fail "sm")
local macro_rules | `(tactic| walk_at "rd1") => `(tactic| first
  | ((with_reducible refine' Tk.Rd.f_modulus ?k0 ?k1 ?_); (case k0 => assumption); (case k1 => walk_at "hall"))
  | ((with_reducible refine' Tk.Rd.f_lateness ?k0 ?k1 ?_); (case k0 => assumption); (case k1 => walk_at "hall"))
  | ((with_reducible refine' Tk.Rd.f_takes ?k0 ?k1 fun tp htp => ?_); (case k0 => assumption); (case k1 => walk_at "hall"))
  | ((with_reducible refine' Tk.Rd.f_calls ?k0 ?k1 fun cp hcp => ?_); (case k0 => assumption); (case k1 => walk_at "hall"))
  | ((with_reducible refine' Tk.Rd.h_meth ?k0 ?k1 ?_); (case k0 => walk_at "hall"); (case k1 => decide +kernel))
  | ((with_reducible refine' Tk.Rd.h_prop ?k0 ?_); (case k0 => walk_at "hall"))
  | ((with_reducible refine' Tk.Rd.h_taken0 ?k0 fun H' S => ?_); (case k0 => walk_at "hall"))
  | ((with_reducible refine' Tk.Rd.h_taken1 ?k0 fun H' S => ?_); (case k0 => walk_at "hall"))
  | ((with_reducible refine' Tk.Rd.h_takenL ?k0 fun H' S => ?_); (case k0 => walk_at "hall"))
  | ((with_reducible refine' Tk.Rd.h_called0 ?k0 ?_); (case k0 => walk_at "hall"))
  | ((with_reducible refine' Tk.Rd.h_called1 ?k0 ?_); (case k0 => walk_at "hall"))
  | ((with_reducible refine' Tk.Rd.h_calledL ?k0 ?_); (case k0 => walk_at "hall"))
  | ((with_reducible refine' Tk.Rd.h_waiting ?k0 ?k1 fun H' S => ?_); (case k0 => walk_at "hall"); (case k1 => omega))
  | ((with_reducible refine' Tk.Rd.h_growth ?k0 fun H' S => ?_); (case k0 => walk_at "hall"))
  | ((with_reducible refine' Tk.Rd.h_period ?k0 ?_); (case k0 => walk_at "hall"))
  | ((with_reducible refine' Tk.Rd.h_lhall ?k0 fun h lp H' nh nl S hA => ?_); (case k0 => walk_at "parts"))
  | ((with_reducible refine' Tk.Rd.h_length ?k0 ?_); (case k0 => walk_at "parts"))
  | ((with_reducible refine' Tk.Rd.h_counts ?k0 ?k1 fun r a b H' nr na nb nab S hr ha hb => ?_); (case k0 => walk_at "parts"); (case k1 => omega))
  | ((with_reducible refine' Tk.Rd.h_countsL ?k0 ?k1 fun r a b H' nr na nb nab S hr ha hb => ?_); (case k0 => walk_at "parts"); (case k1 => decide))
  | ((with_reducible refine' Tk.Rd.h_make ?k0 ?k1 ?k2 fun h lp H' nh nl S hA => ?_); (case k0 => assumption); (case k1 => walk_at "hp"); (case k2 => walk_at "hp"))
  | ((with_reducible refine' Tk.Rd.p_0 ?k0 ?_); (case k0 => walk_at "parts"))
  | ((with_reducible refine' Tk.Rd.p_1 ?k0 fun htp => ?_); (case k0 => walk_at "parts"))
  | ((with_reducible refine' Tk.Rd.p_2 ?k0 fun hcp => ?_); (case k0 => walk_at "parts"))
  | ((with_reducible refine' Tk.Rd.p_3 ?k0 ?_); (case k0 => walk_at "parts"))
  | fail "rd1")
local macro_rules | `(tactic| walk_at "sqt") => `(tactic| first | ((with_reducible refine' Tk.PartsAt.sq ?k0); (case k0 => walk_at "parts")) | fail "sqt")
local macro_rules | `(tactic| walk_at "free") => `(tactic| first
  | assumption
  | ((with_reducible refine' Tk.Same.fr ?k0 ?k1); (case k0 => assumption); (case k1 => walk_at "free")))
local macro_rules | `(tactic| walk_at "hp") => `(tactic| first
  | ((with_reducible refine' Tk.But.gt ?k0 ?k1 ?k2); (case k0 => assumption); (case k1 => assumption); (case k2 => walk_at "hp"))
  | ((with_reducible refine' Tk.But.gl ?k0 ?k1 ?k2); (case k0 => assumption); (case k1 => assumption); (case k2 => walk_at "hp"))
  | fail "hp")
local macro_rules | `(tactic| walk_at "hall") => `(tactic| first | ((with_reducible refine' Tk.HallAt.bt ?k0 ?k1 ?k2 ?k3); (case k0 => assumption); (case k1 => assumption); (case k2 => assumption); (case k3 => walk_at "hall")) | fail "hall")
local macro_rules | `(tactic| walk_at "parts") => `(tactic| first | ((with_reducible refine' Tk.PartsAt.bt ?k0 ?k1 ?k2); (case k0 => assumption); (case k1 => assumption); (case k2 => walk_at "parts")) | fail "parts")
local macro_rules | `(tactic| walk_at "rd1") => `(tactic| first
  | ((with_reducible refine' Tk.Rd.h_below ?k0 ?k1 ?k2 ?k3 fun r H' cs hr B hd hcs => ?_); (case k0 => walk_at "hp"); (case k1 => assumption); (case k2 => first | decide | omega); (case k3 => first | decide | omega))
  | ((with_reducible refine' Tk.Rd.h_parts ?k0 ?k1 ?k2 ?k3 fun t tp cp m lt tk cl H' cs nt B hd hcs hP l1 l2 => ?_); (case k0 => walk_at "hp"); (case k1 => assumption); (case k2 => first | decide | omega); (case k3 => first | decide | omega))
  | ((with_reducible refine' Tk.Rd.h_partsL ?k0 ?k1 ?k2 ?k3 fun t tp cp m lt tk cl H' cs nt B hd hcs hP l1 l2 => ?_); (case k0 => walk_at "hp"); (case k1 => assumption); (case k2 => first | decide | omega); (case k3 => first | decide | omega))
  | ((with_reducible refine' Tk.Rd.h_small ?k0 ?k1 fun t tp cp m lt tk cl H' cs nt B hd hcs hP m1 l1 l2 l3 => ?_); (case k0 => walk_at "hp"); (case k1 => assumption))
  | ((with_reducible refine' Tk.Rd.h_tick ?k0 ?k1 fun t H' cs ht B hd hcs => ?_); (case k0 => walk_at "hp"); (case k1 => assumption))
  | ((with_reducible refine' Tk.Rd.h_mo ?k0 fun v H' S hv => ?_); (case k0 => walk_at "hall"))
  | ((with_reducible refine' Tk.Rd.h_lc ?k0 fun v H' S hv => ?_); (case k0 => walk_at "hall"))
  | ((with_reducible refine' Tk.Rd.h_lm ?k0 fun v H' S hv => ?_); (case k0 => walk_at "hall"))
  | ((with_reducible refine' Tk.Rd.h_gl ?k0 fun v H' S hv => ?_); (case k0 => walk_at "hall"))
  | ((with_reducible refine' Tk.Rd.h_ot ?k0 ?k1 fun r H' nr S hr => ?_); (case k0 => walk_at "hall"); (case k1 => first | assumption | omega))
  | ((with_reducible refine' Tk.Rd.h_most2 ?k0 fun v H' S hv => ?_); (case k0 => walk_at "parts"))
  | ((with_reducible refine' Tk.Rd.h_opens2L ?k0 ?k1 fun l ys H' nl S hl hlen hR => ?_); (case k0 => walk_at "parts"); (case k1 => decide))
  | ((with_reducible refine' Tk.Rd.h_opens2 ?k0 ?k1 fun l ys H' nl S hl hlen hR => ?_); (case k0 => walk_at "parts"); (case k1 => first | decide | omega))
  | fail "rd1")
local macro_rules | `(tactic| walk_at "ok") => `(tactic| first
  | assumption
  | ((with_reducible refine' Tk.HallAt.ok ?k0); (case k0 => walk_at "hall"))
  | ((with_reducible refine' Tk.PartsAt.ok ?k0); (case k0 => walk_at "parts"))
  | fail "ok")
local macro_rules | `(tactic| walk_at "sml") => `(tactic| first
  | exact Tk.Sml.ints (by walk_at "szb")
  | exact Tk.Sml.intsT (by walk_at "szb")
  | trivial
  | (simp [Tk.Sml]; done)
  | (simp [Tk.Sml]; omega)
  | fail "sml")
local macro_rules | `(tactic| walk_at "rd1") => `(tactic| first
  | ((with_reducible refine' Tk.Rd.nT ?k0 ?_); (case k0 => with_reducible exact rfl))
  | ((with_reducible refine' Tk.Rd.dT ?k0 ?_); (case k0 => with_reducible exact rfl))
  | with_reducible refine Tk.Rd.nF Tk.Rd.int_non ?_
  | with_reducible refine Tk.Rd.nF Tk.Rd.ref_non ?_
  | with_reducible refine Tk.Rd.dF Tk.Rd.int_non ?_
  | with_reducible refine Tk.Rd.dF Tk.Rd.ref_non ?_
  | ((with_reducible refine' Tk.Rd.h_disp ?k0 ?k1 ?_); (case k0 => first | assumption | omega); (case k1 => walk_at "hall"))
  | ((with_reducible refine' Tk.Rd.h_hold ?k0 ?k1 ?k2 ?k3 fun l H' nl S hl => ?_); (case k0 => walk_at "hall"); (case k1 => first | assumption | omega); (case k2 => first | assumption | omega); (case k3 => first | assumption | omega))
  | ((with_reducible refine' Tk.Rd.h_mis ?k0 ?k1 ?k2 fun l ys H' nl S hl hd => ?_); (case k0 => walk_at "hall"); (case k1 => first | assumption | omega); (case k2 => first | assumption | omega))
  | ((with_reducible refine' Tk.Rd.h_enc ?k0 fun l H' nl S hl => ?_); (case k0 => walk_at "hall"))
  | ((with_reducible refine' Tk.Rd.h_dec ?k0 ?k1 fun h lp H' nh nl S hA => ?_); (case k0 => walk_at "hp"); (case k1 => walk_at "ok"))
  | ((with_reducible refine' Tk.Rd.h_text ?k0 fun H' S => ?_); (case k0 => walk_at "hall"))
  | ((with_reducible refine' Tk.Rd.h_eqd ?k0 ?k1 ?k2 fun H' S => ?_); (case k0 => walk_at "dp"); (case k1 => walk_at "dp"); (case k2 => walk_at "sml"))
  | ((with_reducible refine' Tk.Rd.eqd ?k0 ?k1 ?k2 ?k3 ?_); (case k0 => walk_at "dp"); (case k1 => walk_at "dp"); (case k2 => walk_at "sml"); (case k3 => walk_at "sml"))
  | ((with_reducible refine' Tk.Rd.ned ?k0 ?k1 ?k2 ?k3 ?_); (case k0 => walk_at "dp"); (case k1 => walk_at "dp"); (case k2 => walk_at "sml"); (case k3 => walk_at "sml"))
  | fail "rd1")
/-! ### Halls of any values: what is told -/
namespace Tk
open PySem PySem.Spec PyProof.Rows L2 Mm
abbrev RaisesH (K : PySem.W.Frag) (E : XK) (H : Hp) (y : Str) (i : Nat) : Prop := ∀ d H', H d = none → Same H H' → H' d = some (.xd [("index", .int (i : Int)), ("part", .str y)]) → E (.ref (He.ga K "InvalidHall")) (some d) H'
theorem RaisesH.sm {K : PySem.W.Frag} {E : XK} {H H1 : Hp} {y : Str} {i : Nat} (h : RaisesH K E H y i) (S : Same H H1) : RaisesH K E H1 y i := fun d H' n S' e => h d H' (Same.free1 S n) (S.trans S') e
/-- the first item that no pattern has -/
def badAt (xs : List V) (i : Nat) : Bool := i == 12 || !(inB 0 9 (xs.getD i .non))
def badIx (xs : List V) : Option Nat := if xs.isEmpty = true then some 0 else (List.range xs.length).find? (badAt xs)
theorem badIx_le {xs : List V} {i : Nat} (h : badIx xs = some i) : i ≤ 12 := by
  unfold badIx at h
  split at h
  · cases h
    omega
  · rw [List.find?_range_eq_some] at h
    refine Nat.le_of_not_lt fun lt => ?_
    have := h.2.2 12 lt
    simp [badAt] at this
theorem inB_nat {lo hi : Nat} {v : V} (h : inB lo hi v = true) : ∃ n : Nat, v = vn n ∧ lo ≤ n ∧ n ≤ hi := by
  cases v with
  | int i =>
    have h : (decide ((lo : Int) ≤ i) && decide (i ≤ (hi : Int))) = true := h
    simp only [Bool.and_eq_true, decide_eq_true_eq] at h
    exact ⟨i.toNat, vn_int (by omega), by omega, by omega⟩
  | _ => cases h
theorem nats_of {xs : List V} (h : ∀ x ∈ xs, ∃ n : Nat, x = vn n ∧ n ≤ 9) : ∃ ps : List Nat, xs = ps.map vn ∧ ∀ p ∈ ps, p ≤ 9 := by
  induction xs with
  | nil => exact ⟨[], rfl, fun p hp => by cases hp⟩
  | cons x r ih =>
    obtain ⟨ps, rfl, h9⟩ := ih fun y hy => h y (List.mem_cons_of_mem _ hy)
    obtain ⟨n, rfl, hn⟩ := h x List.mem_cons_self
    exact ⟨n :: ps, rfl, fun p hp => by
      rcases List.mem_cons.mp hp with rfl | hp
      · exact hn
      · exact h9 p hp⟩
theorem pat_of {xs : List V} (h : badIx xs = none) : ∃ ps : List Nat, xs = ps.map vn ∧ Pat ps := by
  unfold badIx at h
  split at h
  · cases h
  rename_i ne
  rw [List.find?_range_eq_none] at h
  have lt : xs.length ≤ 12 := by
    refine Nat.le_of_not_lt fun lt => ?_
    have := h 12 lt
    simp [badAt] at this
  obtain ⟨ps, e, h9⟩ := nats_of (xs := xs) fun x hx => by
    obtain ⟨i, hi⟩ := List.getElem?_of_mem hx
    have l := (List.getElem?_eq_some_iff.mp hi).1
    have b := h i l
    have g : xs.getD i .non = x := by rw [List.getD_eq_getElem?_getD, hi]; rfl
    unfold badAt at b
    rw [g] at b
    have b : inB ((0 : Nat) : Int) ((9 : Nat) : Int) x = true := by
      cases hb : inB 0 9 x with
      | true => rfl
      | false => rw [hb] at b; simp at b
    obtain ⟨n, rfl, _, hn⟩ := inB_nat b
    exact ⟨n, rfl, hn⟩
  subst e
  refine ⟨ps, rfl, ⟨?_, by simpa using lt, h9⟩⟩
  cases ps with
  | nil => simp at ne
  | cons _ _ => simp
/-- a value given as a pattern, and the place that is told -/
inductive PIx (H : Hp) : V → Option Nat → Prop
  | tup {r : Addr} {xs : List V} (h : H r = some (.tup xs)) (ha : ∀ x ∈ xs, Arg H x) : PIx H (.ref r) (badIx xs)
  | not {v : V} (h : Arg H v) (hn : ∀ r xs, H r = some (.tup xs) → v ≠ .ref r) : PIx H v (some 0)
  | frz {r : Addr} {xs : List V} {i : Nat} (h : Cn.FzT H r xs) (ha : ∀ x ∈ xs, Arg H x) (hi : badIx xs = some i) : PIx H (.ref r) (some i)
theorem Arg.smv {H H' : Hp} {v : V} (a : Arg H v) (S : Same H H') : Arg H' v := by
  cases a with
  | lst e => exact .lst (S _ _ e)
  | tup e => exact .tup (S _ _ e)
  | _ => constructor
theorem PIx.le {H : Hp} {v : V} {o : Option Nat} {i : Nat} (h : PIx H v o) (e : o = some i) : i ≤ 12 := by
  cases h with
  | tup _ _ => exact badIx_le e
  | not _ _ => cases e; omega
  | frz _ _ hi => cases e; exact badIx_le hi
theorem PIx.good {H : Hp} {v : V} {o : Option Nat} (h : PIx H v o) (e : o = none) : ∃ (r : Addr) (ps : List Nat), v = .ref r ∧ H r = some (.tup (ps.map vn)) ∧ Pat ps := by
  cases h with
  | tup hr _ =>
    obtain ⟨ps, rfl, p⟩ := pat_of e
    exact ⟨_, ps, rfl, hr, p⟩
  | not _ _ => cases e
  | frz _ _ _ => cases e
theorem PIx.sm {H H' : Hp} {v : V} {o : Option Nat} (h : PIx H v o) (S : Same H H') : PIx H' v o := by
  cases h with
  | frz h ha hi => exact .frz (h.same S) (fun x hx => (ha x hx).smv S) hi
  | tup hr ha => exact .tup (S _ _ hr) fun x hx => (ha x hx).smv S
  | not h hn =>
    refine .not (h.smv S) fun r xs e q => ?_
    subst q
    cases h with
    | lst e2 =>
      rw [S _ _ e2] at e
      cases e
    | tup e2 => exact hn _ _ e2 rfl
theorem PIx.cs {K : PySem.W.Frag} {H : Hp} {v : V} {o : Option Nat} (h : PIx H v o) : (Arg H v ∧ (∀ r xs, H r = some (.tup xs) → v ≠ .ref r) ∧ o = some 0) ∨ ∃ r xs, v = .ref r ∧ SqT K H r xs ∧ TyX K H (.ref r) (.type "tuple") ∧ (∀ x ∈ xs, Arg H x) ∧ o = badIx xs := by
  cases h with
  | not h hn => exact .inl ⟨h, hn, rfl⟩
  | tup h ha => exact .inr ⟨_, _, rfl, SqT.of h, .base (.tup h), ha, rfl⟩
  | frz h ha hi =>
    obtain ⟨oo, e, _⟩ := id h
    exact .inr ⟨_, _, rfl, h.sq, .fTuple e, ha, hi.symm⟩
theorem Arg.nottup {H : Hp} {v : V} (a : Arg H v) (h : ∀ c xs, H c = some (.tup xs) → v ≠ .ref c) {K : PySem.W.Frag} : ∃ n : String, TyX K H v (.type n) ∧ kitB n "tuple" = some false := by
  cases a with
  | non => exact ⟨_, .base .non, by decide +kernel⟩
  | bl b => exact ⟨_, .base (.bl b), by decide +kernel⟩
  | int i => exact ⟨_, .base (.int i), by decide +kernel⟩
  | str x => exact ⟨_, .base (.str x), by decide +kernel⟩
  | lst e => exact ⟨_, .base (.lst e), by decide +kernel⟩
  | tup e => exact absurd rfl (h _ _ e)
/-- what is told of the parts of a hall -/
def hallErr (mv : V) (ot oc : Option Nat) (lv : V) : Option (Str × Nat) :=
  if inB 2 10000 mv = true then
    match ot with
    | some i => some ("takes", i)
    | none => match oc with
      | some i => some ("calls", i)
      | none => if inB 0 99 lv = true then none else some ("lateness", 0)
  else some ("modulus", 0)
theorem hallErr_none {mv : V} {ot oc : Option Nat} {lv : V} (h : hallErr mv ot oc lv = none) : inB 2 10000 mv = true ∧ ot = none ∧ oc = none ∧ inB 0 99 lv = true := by
  unfold hallErr at h
  cases b1 : inB 2 10000 mv with
  | false => rw [b1] at h; cases h
  | true =>
    rw [b1, if_pos rfl] at h
    cases ot with
    | some i => cases h
    | none =>
      cases oc with
      | some i => cases h
      | none =>
        cases b2 : inB 0 99 lv with
        | false => rw [b2] at h; cases h
        | true => exact ⟨rfl, rfl, rfl, rfl⟩
def spFiiX : Sp := fun vs H Q _ => ∃ (v : V) (o : Option Nat), vs = [v] ∧ PIx H v o ∧ (o = none → ∀ H', Same H H' → Q .non H') ∧ ∀ i : Nat, o = some i → ∀ H', Same H H' → Q (vn i) H'
def spChkX (K : PySem.W.Frag) : Sp := fun vs H Q E => ∃ (y : Str) (v : V) (o : Option Nat), vs = [.str y, v] ∧ PIx H v o ∧ y.length ≤ 1000 ∧ (o = none → ∀ H', Same H H' → Q .non H') ∧ ∀ i : Nat, o = some i → RaisesH K E H y i
def spChallX (K : PySem.W.Frag) : Sp := fun vs H Q E => ∃ (mv tv cv lv : V) (ot oc : Option Nat), vs = [mv, tv, cv, lv] ∧ Arg H mv ∧ PIx H tv ot ∧ PIx H cv oc ∧ Arg H lv ∧
  (hallErr mv ot oc lv = none → ∀ H', Same H H' → Q .non H') ∧ ∀ y i, hallErr mv ot oc lv = some (y, i) → RaisesH K E H y i
def spInitX (K : PySem.W.Frag) (C : Addr) : Sp := fun vs H Q E => ∃ (x dx : Addr) (mv tv cv lv : V) (ot oc : Option Nat), vs = [.ref x, mv, tv, cv, lv] ∧ H x = some (.ins C dx []) ∧ Arg H mv ∧ PIx H tv ot ∧ PIx H cv oc ∧ Arg H lv ∧
  (∀ (tp cp : Addr) (m lt : Nat) (tk cl : List Nat), mv = vn m → tv = .ref tp → cv = .ref cp → lv = vn lt → H tp = some (.tup (tk.map vn)) → H cp = some (.tup (cl.map vn)) → Parts m tk cl lt → ∀ H' lp, But x H H' → H lp = none → HallAt C H' x m tk cl lt lp → Q .non H') ∧
  ∀ y i, hallErr mv ot oc lv = some (y, i) → RaisesH K E H y i
theorem log_small_ {n : Nat} (h : n ≤ 10000) : ((n : Int)).natAbs.log2 < 1920 := by
  have e : ((n : Int)).natAbs = n := Int.natAbs_natCast n
  rw [e]
  rcases Nat.eq_zero_or_pos n with z | z
  · rw [z]
    decide
  · exact (Nat.log2_lt (by omega)).mpr (Nat.lt_of_le_of_lt h (by decide))
theorem natlen_ {p : Nat} (h : p ≤ 10000) : (p : Int).natAbs.log2 < 1920 ∧ (toString (p : Int) : Str).length ≤ 1000000 :=
  ⟨log_small_ h, Nat.le_trans (Tx.num_len h) (by decide)⟩
section
variable {P : Program} {w : World} {K : PySem.W.Frag} {mg : Str → Option Value} {base : Heap}
theorem ok_first_invalid_itemX (T : Txt K mg) : OkF P w K mg base 2 (He.ga K "first_invalid_item") ["pattern"] spFiiX := by
  have G_is_integer_within : OkF P w K mg base 1 (He.ga K "is_integer_within") ["value", "low", "high"] spWithin := ok_is_integer_within T
  refine FnP.okF T.f_first_invalid_item sc_first_invalid_item (fun _ _ _ _ _ _ us hl => match us, hl with | [_], _ => rfl) (fun vs H Q E h => ?_) (fun cdv A outer s H vs Q E hr h => ?_)
  · obtain ⟨v, o, rfl, _⟩ := h
    rfl
  obtain ⟨v, o, rfl, hv, k0, k1⟩ := h
  refine ⟨_, (pss_cons (ps_if (PW.pt (pw_or (pt_not (pt_val (pe_callB (isiK (K := K)) (by rfl) T.g_isinstance (by decide +kernel) (pa_cons (pv 0) (pa_cons (pe_bltn (v := .ty "tuple") (by rfl) T.g_tuple boot_ty_tuple rfl) pa_nil))))) (pw_or1 (pt_cmpR op_eq (pe_callB (lenK (K := K)) (by rfl) T.g_len (by decide +kernel) (pa_cons (pv 0) pa_nil)) pe_int (nomark _))))) (pss_one (ps_ret pe_int)) pss_nil)
    (pss_cons (ps_for own_cx rfl (pi_enumT (by rfl) T.g_enumerate (pa_cons (pv 0) pa_nil)) (pg_tup rfl (pgs_cons (pg_name (i := 1) sc_first_invalid_item.nd rfl (Or.inl rfl)) (pgs_cons (pg_name (i := 2) sc_first_invalid_item.nd rfl (Or.inl rfl)) pgs_nil)))
      (pss_one (ps_if (PW.pt (pw_or (pt_cmpR op_eq (pv 1) (pe_gint (by rfl) T.c_MOST_ITEMS) (nomark _)) (pw_or1 (pt_not (pt_val (pe_call G_is_integer_within.one (hr.mono (by decide)) (by rfl) T.g_is_integer_within G_is_integer_within.kp G_is_integer_within.two .nil passL (pa_cons (pv 2) (pa_cons pe_int (pa_cons (pe_gint (by rfl) T.c_GREATEST_ITEM) pa_nil))))))))) (pss_one (ps_ret (pv 1))) pss_nil)))
    (pss_one (ps_ret pe_non)))), ?_⟩
  walk_at "rd"
  rcases hv.cs (K := K) with ⟨h, hn, rfl⟩ | ⟨r, xs, rfl, hs, ty, ha, rfl⟩
  · obtain ⟨n, ty, kb⟩ := Arg.nottup (K := K) h hn
    refine ⟨v, .ty "tuple", _, _, false, rfl, .ty "tuple", ty, kit_at kb, ?_⟩
    walk_at "rd"
    exact k1 0 rfl H (Same.refl H)
  · refine ⟨_, .ty "tuple", _, _, true, rfl, .ty "tuple", ty, kit_at (by decide +kernel), ?_⟩
    walk_at "rd"
    refine Rd.d2 (fun c => ?_) fun c => ?_
    · have c : V.int (xs.length : Int) = V.int 0 := c
      injection c with c
      walk_at "rd"
      refine k1 0 ?_ H (Same.refl H)
      unfold badIx
      rw [if_pos]
      cases xs with
      | nil => rfl
      | cons _ _ =>
        rw [List.length_cons] at c
        omega
    · have ne : ¬ xs.isEmpty = true := fun e => c (by
        cases xs with
        | nil => rfl
        | cons _ _ => cases e)
      have eb : badIx xs = (List.range xs.length).find? (badAt xs) := by unfold badIx; rw [if_neg ne]
      rw [eb] at k0 k1
      walk_at "rd"
      refine ⟨_, rfl, r, xs, rfl, hs, for_enumT (K := K) (a := r) (xs := xs) (fun i σ H2 => ∃ a b, σ = [some (.ref r), a, b] ∧ Same H H2 ∧ (List.range i).find? (badAt xs) = none) ⟨_, _, rfl, Same.refl H, rfl⟩ (fun i σ H2 _ ⟨_, _, _, e, _⟩ => sqt_sm e hs) ?_ ?_⟩
      · rintro i x σ H2 hx ⟨a, b, rfl, hS, hf⟩ Tp hT
        have hi := (List.getElem?_eq_some_iff.mp hx).1
        have hx2 := ha x (List.mem_of_getElem? hx)
        have S3 : Same H2 (upd H2 Tp (.tup [vnI i, x])) := Same.new hT
        have hTp : upd H2 Tp (.tup [vnI i, x]) Tp = some (.tup [vnI i, x]) := upd_same
        generalize upd H2 Tp (.tup [vnI i, x]) = H3 at S3 hTp
        have S := hS.trans S3
        have gx : xs.getD i .non = x := by rw [List.getD_eq_getElem?_getD, hx]; rfl
        have hit : badAt xs i = true → (List.range xs.length).find? (badAt xs) = some i := fun e => by
          rw [List.find?_range_eq_some]
          refine ⟨e, List.mem_range.mpr hi, fun j hj => ?_⟩
          rw [List.find?_range_eq_none] at hf
          exact hf j hj
        have next : badAt xs i = false → (List.range (i + 1)).find? (badAt xs) = none := fun e => by
          rw [List.range_succ, List.find?_append, hf]
          show List.find? (badAt xs) [i] = none
          rw [List.find?_cons, e]
          rfl
        walk_at "rd"
        refine Rd.d2 (fun c => ?_) (fun c => ?_)
        · have c : V.int (i : Int) = V.int 12 := c
          injection c with c
          have c : i = 12 := by omega
          walk_at "rd"
          exact k1 i (hit (by unfold badAt; rw [c]; rfl)) H3 S
        · have c12 : (i == 12) = false := beq_eq_false_iff_ne.mpr fun e => c (by rw [e]; rfl)
          walk_at "rd"
          refine ⟨x, 0, 9, rfl, hx2.smv S, ?_⟩
          cases b1 : inB 0 9 x with
          | true =>
            walk_at "rd"
            exact ⟨_, _, rfl, S, next (by unfold badAt; rw [c12, gx, b1]; rfl)⟩
          | false =>
            walk_at "rd"
            exact k1 i (hit (by unfold badAt; rw [c12, gx, b1]; rfl)) H3 S
      · rintro σ H2 ⟨a, b, rfl, hS, hf⟩
        walk_at "rd"
        exact k0 hf H2 hS
theorem ok_check_patternN (T : Txt K mg) (hP : Ex.PF P) : Xr.OkN P w K mg base 4 (He.ga K "check_pattern") ["part", "pattern"] (spChkX K) := by
  have G_first_invalid_item : OkF P w K mg base 2 (He.ga K "first_invalid_item") ["pattern"] spFiiX := ok_first_invalid_itemX T
  have GX_InvalidHall : OkF P w K mg base 2 (He.ma K (He.ga K "InvalidHall") "__init__") ["self", "part", "index"] (Ex.spIni2 (He.ga K "InvalidHall") "part" "index") := ok_xi_InvalidHall T hP
  refine Xr.FnP.okN T.f_check_pattern sc_check_pattern (fun _ _ _ _ _ _ us hl => match us, hl with | [_, _], _ => rfl) (fun vs H Q E h => ?_) (fun cdv A outer s H vs Q E hr h => ?_)
  · obtain ⟨y, v, o, rfl, _⟩ := h
    rfl
  obtain ⟨y, v, o, rfl, hv, hy, k0, k1⟩ := h
  refine ⟨_, (pss_cons (ps_set (i := 2) sc_check_pattern.nd rfl (Or.inl rfl) (pe_call G_first_invalid_item.one (hr.mono (by decide)) (by rfl) T.g_first_invalid_item G_first_invalid_item.kp G_first_invalid_item.two .nil passL (pa_cons (pv 1) pa_nil)))
    (pss_one (ps_if (pt_cmpR (show OpR _ (compareOp .IsNot) Rd.rNotN from op_notN) (pv 2) pe_non (nomark _)) (pss_one (L2N.ps_raise rfl (L2N.takes_of rfl rfl rfl rfl) (Xr.pmkN T.x_InvalidHall.sup.oex T.x_InvalidHall.iC T.x_InvalidHall.tI GX_InvalidHall.one (hr.mono (by decide)) GX_InvalidHall.two .nil passL (by rfl) T.g_InvalidHall (pa_cons (pv 0) (pa_cons (pv 2) pa_nil))))) pss_nil))), ?_⟩
  walk_at "rd"
  refine ⟨v, o, rfl, hv, fun e H' S => ?_, fun i e H' S => ?_⟩
  · walk_at "rd"
    exact k0 e H' S
  · walk_at "rd"
    exact ⟨.str y, rfl, vn i, rfl, Rd.mkO2 hy (natlen_ (p := i) (by have := hv.le e; omega)).1 (natlen_ (p := i) (by have := hv.le e; omega)).2 fun d H'' n S2 h => (k1 i e).sm S d H'' n S2 h⟩
theorem ok_check_patternX (T : Txt K mg) (hP : Ex.PF P) : OkF P w K mg base 4 (He.ga K "check_pattern") ["part", "pattern"] (spChkX K) := (ok_check_patternN T hP).dn
theorem ok_check_hallN (T : Txt K mg) (hP : Ex.PF P) : Xr.OkN P w K mg base 5 (He.ga K "check_hall") ["modulus", "takes", "calls", "lateness"] (spChallX K) := by
  have G_is_integer_within : OkF P w K mg base 1 (He.ga K "is_integer_within") ["value", "low", "high"] spWithin := ok_is_integer_within T
  have G_check_pattern : Xr.OkN P w K mg base 4 (He.ga K "check_pattern") ["part", "pattern"] (spChkX K) := ok_check_patternN T hP
  have GX_InvalidHall : OkF P w K mg base 2 (He.ma K (He.ga K "InvalidHall") "__init__") ["self", "part", "index"] (Ex.spIni2 (He.ga K "InvalidHall") "part" "index") := ok_xi_InvalidHall T hP
  refine Xr.FnP.okN T.f_check_hall sc_check_hall (fun _ _ _ _ _ _ us hl => match us, hl with | [_, _, _, _], _ => rfl) (fun vs H Q E h => ?_) (fun cdv A outer s H vs Q E hr h => ?_)
  · obtain ⟨mv, tv, cv, lv, ot, oc, rfl, _⟩ := h
    rfl
  obtain ⟨mv, tv, cv, lv, ot, oc, rfl, hm, ht, hc, hl, k0, k1⟩ := h
  refine ⟨_, (pss_cons (ps_if (pt_not (pt_val (pe_call G_is_integer_within.one (hr.mono (by decide)) (by rfl) T.g_is_integer_within G_is_integer_within.kp G_is_integer_within.two .nil passL (pa_cons (pv 0) (pa_cons (pe_gint (by rfl) T.c_LEAST_MODULUS) (pa_cons (pe_gint (by rfl) T.c_GREATEST_MODULUS) pa_nil)))))) (pss_one (L2N.ps_raise rfl (L2N.takes_of rfl rfl rfl rfl) (Xr.pmkN T.x_InvalidHall.sup.oex T.x_InvalidHall.iC T.x_InvalidHall.tI GX_InvalidHall.one (hr.mono (by decide)) GX_InvalidHall.two .nil passL (by rfl) T.g_InvalidHall (pa_cons pe_str (pa_cons pe_int pa_nil))))) pss_nil)
    (pss_cons (ps_expr (pe_call G_check_pattern.one (hr.mono (by decide)) (by rfl) T.g_check_pattern G_check_pattern.kp G_check_pattern.two .nil (L2N.passes_call (L2N.takes_of rfl rfl rfl rfl) fun _ _ _ _ h => h) (pa_cons pe_str (pa_cons (pv 1) pa_nil))))
    (pss_cons (ps_expr (pe_call G_check_pattern.one (hr.mono (by decide)) (by rfl) T.g_check_pattern G_check_pattern.kp G_check_pattern.two .nil (L2N.passes_call (L2N.takes_of rfl rfl rfl rfl) fun _ _ _ _ h => h) (pa_cons pe_str (pa_cons (pv 2) pa_nil))))
    (pss_one (ps_if (pt_not (pt_val (pe_call G_is_integer_within.one (hr.mono (by decide)) (by rfl) T.g_is_integer_within G_is_integer_within.kp G_is_integer_within.two .nil passL (pa_cons (pv 3) (pa_cons pe_int (pa_cons (pe_gint (by rfl) T.c_GREATEST_LATENESS) pa_nil)))))) (pss_one (L2N.ps_raise rfl (L2N.takes_of rfl rfl rfl rfl) (Xr.pmkN T.x_InvalidHall.sup.oex T.x_InvalidHall.iC T.x_InvalidHall.tI GX_InvalidHall.one (hr.mono (by decide)) GX_InvalidHall.two .nil passL (by rfl) T.g_InvalidHall (pa_cons pe_str (pa_cons pe_int pa_nil))))) pss_nil))))), ?_⟩
  walk_at "rd"
  refine ⟨mv, 2, 10000, rfl, hm, ?_⟩
  cases b1 : inB 2 10000 mv with
  | false =>
    walk_at "rd"
    refine Rd.mkO2 (i := (0 : Nat)) (by decide +kernel) (natlen_ (p := 0) (by decide)).1 (natlen_ (p := 0) (by decide)).2 fun d H' n S h => k1 "modulus" 0 (by unfold hallErr; rw [b1]; rfl) d H' n S h
  | true =>
    walk_at "rd"
    refine ⟨"takes", tv, ot, rfl, ht, by decide +kernel, fun e1 H1 S1 => ?_, fun i e1 => k1 "takes" i (by unfold hallErr; rw [b1, e1]; rfl)⟩
    walk_at "rd"
    refine ⟨"calls", cv, oc, rfl, hc.sm S1, by decide +kernel, fun e2 H2 S2 => ?_, fun i e2 => (k1 "calls" i (by unfold hallErr; rw [b1, e1, e2]; rfl)).sm S1⟩
    have S12 := S1.trans S2
    walk_at "rd"
    refine ⟨lv, 0, 99, rfl, hl.smv S12, ?_⟩
    cases b2 : inB 0 99 lv with
    | false =>
      walk_at "rd"
      refine Rd.mkO2 (i := (0 : Nat)) (by decide +kernel) (natlen_ (p := 0) (by decide)).1 (natlen_ (p := 0) (by decide)).2 fun d H' n S h => (k1 "lateness" 0 (by unfold hallErr; rw [b1, e1, e2, b2]; rfl)).sm S12 d H' n S h
    | true =>
      walk_at "rd"
      exact k0 (by unfold hallErr; rw [b1, e1, e2, b2]; rfl) H2 S12
theorem ok_check_hallX (T : Txt K mg) (hP : Ex.PF P) : OkF P w K mg base 5 (He.ga K "check_hall") ["modulus", "takes", "calls", "lateness"] (spChallX K) := (ok_check_hallN T hP).dn
theorem ok_initN (T : Txt K mg) (hP : Ex.PF P) : Xr.OkN P w K mg base 6 (He.ma K (He.ga K "Hall") "__init__") ["self", "modulus", "takes", "calls", "lateness"] (spInitX K (He.ga K "Hall")) := by
  have G_check_hall : Xr.OkN P w K mg base 5 (He.ga K "check_hall") ["modulus", "takes", "calls", "lateness"] (spChallX K) := ok_check_hallN T hP
  have G_count_calls : OkF P w K mg base 1 (He.ga K "count_calls") ["takes", "calls", "ticks"] spCount := ok_count_calls T
  have G_period : OkF P w K mg base 1 (getAt K (He.ga K "Hall") "period") ["self"] (spPeriod (He.ga K "Hall")) := ok_period T
  refine Xr.FnP.okN T.f_init sc_init (fun _ _ _ _ _ _ us hl => match us, hl with | [_, _, _, _, _], _ => rfl) (fun vs H Q E h => ?_) (fun cdv A outer s H vs Q E hr h => ?_)
  · obtain ⟨x, _, _, _, _, _, _, _, rfl, _⟩ := h
    rfl
  obtain ⟨x, dx, mv, tv, cv, lv, ot, oc, rfl, hx, hm, ht, hc, hl, k0, k1⟩ := h
  refine ⟨_, (pss_cons (ps_expr (pe_call G_check_hall.one (hr.mono (by decide)) (by rfl) T.g_check_hall G_check_hall.kp G_check_hall.two .nil (L2N.passes_call (L2N.takes_of rfl rfl rfl rfl) fun _ _ _ _ h => h) (pa_cons (pv 1) (pa_cons (pv 2) (pa_cons (pv 3) (pa_cons (pv 4) pa_nil))))))
    (pss_cons (ps_fld (pv 0) (pv 1) rfl)
    (pss_cons (ps_fld (pv 0) (pv 2) rfl)
    (pss_cons (ps_fld (pv 0) (pv 3) rfl)
    (pss_cons (ps_fld (pv 0) (pv 4) rfl)
    (pss_one (ps_fld (pv 0) (pe_call G_count_calls.one (hr.mono (by decide)) (by rfl) T.g_count_calls G_count_calls.kp G_count_calls.two .nil passL (pa_cons (pv 2) (pa_cons (pv 3) (pa_cons (pe_op op_mul pe_int (pe_prop (pv 0) T.cl_Hall T.p_period G_period.one (hr.mono (by decide)) G_period.two .nil passL (by rfl))) pa_nil)))) rfl))))))), ?_⟩
  refine ⟨_, rfl, _, rfl, _, rfl, _, rfl, mv, tv, cv, lv, ot, oc, rfl, hm, ht, hc, hl, fun e H1 S1 => ?_, k1⟩
  obtain ⟨b1, e1, e2, b2⟩ := hallErr_none e
  obtain ⟨m, rfl, m2, m4⟩ := inB_nat (lo := 2) (hi := 10000) b1
  obtain ⟨lt, rfl, _, l99⟩ := inB_nat (lo := 0) (hi := 99) b2
  obtain ⟨tp, tk, rfl, htp, tkP⟩ := ht.good e1
  obtain ⟨cp, cl, rfl, hcp, clP⟩ := hc.good e2
  have hP : Parts m tk cl lt := ⟨m2, m4, tkP, clP, l99⟩
  have k : ∀ H' lp, But x H H' → H lp = none → HallAt (He.ga K "Hall") H' x m tk cl lt lp → Q .non H' := k0 tp cp m lt tk cl rfl rfl rfl rfl htp hcp hP
  have x1 := S1 _ _ hx
  have n1 : tp ≠ x := ne_of htp hx (fun q => by cases q)
  have n2 : cp ≠ x := ne_of hcp hx (fun q => by cases q)
  have len1 : ∀ (f : Str) (v : V) (fs : List (Str × V)) (n : Nat), fs.length ≤ n → (putF f v fs).length ≤ n + 1 := fun f v fs n h => Nat.le_trans (length_putF f v fs) (Nat.succ_le_succ h)
  refine ⟨_, rfl, _, rfl, x, _, dx, _, rfl, x1, T.cl_Hall, T.n_modulus, (by decide), ?_⟩
  refine ⟨_, rfl, _, rfl, x, _, dx, _, rfl, upd_same, T.cl_Hall, T.n_takes, Nat.lt_of_le_of_lt (len1 _ _ _ 0 (Nat.le_refl 0)) (by decide), ?_⟩
  refine ⟨_, rfl, _, rfl, x, _, dx, _, rfl, upd_same, T.cl_Hall, T.n_calls, Nat.lt_of_le_of_lt (len1 _ _ _ 1 (len1 _ _ _ 0 (Nat.le_refl 0))) (by decide), ?_⟩
  refine ⟨_, rfl, _, rfl, x, _, dx, _, rfl, upd_same, T.cl_Hall, T.n_lateness, Nat.lt_of_le_of_lt (len1 _ _ _ 2 (len1 _ _ _ 1 (len1 _ _ _ 0 (Nat.le_refl 0)))) (by decide), ?_⟩
  rw [upd_upd, upd_upd, upd_upd]
  have t1 : ∀ o, upd H1 x o tp = some (.tup (tk.map vn)) := fun o => by rw [upd_ne n1]; exact S1 _ _ htp
  have t2 : ∀ o, upd H1 x o cp = some (.tup (cl.map vn)) := fun o => by rw [upd_ne n2]; exact S1 _ _ hcp
  have p144 := per_144 hP.tkP hP.clP
  -- self._called = count_calls(takes, calls, 2 * self.period)
  refine ⟨_, rfl, _, rfl, _, rfl, x, dx, _, rfl, upd_same, x, dx, tp, cp, _, tk, cl, rfl, upd_same, ?_, ?_, t1 _, t2 _, hP.tkP, hP.clP, ?_⟩
  · rw [lookup_putF, if_neg (by decide +kernel), lookup_putF, if_neg (by decide +kernel), lookup_putF, if_pos rfl]
  · rw [lookup_putF, if_neg (by decide +kernel), lookup_putF, if_pos rfl]
  refine ⟨2, _, rfl, rfl, .inl ⟨by decide, by decide⟩, tp, cp, tk, cl, 2 * per tk cl, by simp, t1 _, t2 _, hP.tkP, hP.clP, by omega, fun lp H2 n3 S2 h2 => ?_⟩
  have nx : x ≠ lp := fun e => by rw [e, upd_same] at n3; cases n3
  have n4 : H lp = none := by
    rw [upd_ne (Ne.symm nx)] at n3
    exact S1.free n3
  refine ⟨_, rfl, x, _, dx, _, rfl, S2 _ _ upd_same, T.cl_Hall, T.n__called, Nat.lt_of_le_of_lt (len1 _ _ _ 3 (len1 _ _ _ 2 (len1 _ _ _ 1 (len1 _ _ _ 0 (Nat.le_refl 0))))) (by decide), ?_⟩
  refine k _ lp (fun b o nb e => ?_) n4 ⟨⟨dx, tp, cp, upd_same, ?_, ?_⟩, ?_, hP⟩
  · rw [upd_ne nb]
    exact S2 _ _ (by rw [upd_ne nb]; exact S1 _ _ e)
  · rw [upd_ne n1]
    exact S2 _ _ (t1 _)
  · rw [upd_ne n2]
    exact S2 _ _ (t2 _)
  · rw [upd_ne (Ne.symm nx)]
    exact h2
theorem ok_initX (T : Txt K mg) (hP : Ex.PF P) : OkF P w K mg base 6 (He.ma K (He.ga K "Hall") "__init__") ["self", "modulus", "takes", "calls", "lateness"] (spInitX K (He.ga K "Hall")) := (ok_initN T hP).dn
end
end Tk

end

/-! ### Making halls: good ones, and what is told of others -/
namespace Tk
open PySem PySem.Spec PyProof.Rows L2 Mm
theorem badIx_pat {ps : List Nat} (p : Pat ps) : badIx (ps.map vn) = none := by
  unfold badIx
  rw [if_neg (fun e => by
    have := p.pos
    cases ps with
    | nil => cases this
    | cons _ _ => cases e), List.find?_range_eq_none]
  intro i hi
  rw [List.length_map] at hi
  have h12 := p.len
  have h9 := p.nine _ (List.getElem_mem hi)
  have c12 : (i == 12) = false := beq_eq_false_iff_ne.mpr (by omega)
  have g : (ps.map vn).getD i .non = vn ps[i] := by rw [List.getD_eq_getElem?_getD, List.getElem?_map, List.getElem?_eq_getElem hi]; rfl
  unfold badAt
  rw [c12, g, inB_in (by omega) (by omega)]
  decide
theorem PIx.of_pat {H : Hp} {r : Addr} {ps : List Nat} (h : H r = some (.tup (ps.map vn))) (p : Pat ps) : PIx H (.ref r) none := by
  have z : PIx H (.ref r) (badIx (ps.map vn)) := .tup h fun x hx => by
    obtain ⟨n, _, rfl⟩ := List.mem_map.mp hx
    exact .int _
  rw [badIx_pat p] at z
  exact z
namespace Rd
variable {K : PySem.W.Frag} {H : Hp} {Q : VK} {E : XK} {C : Addr}
theorem h_makeX {tp cp : Addr} {m lt : Nat} {tk cl : List Nat} (hP : Parts m tk cl lt) (htp : H tp = some (.tup (tk.map vn))) (hcp : H cp = some (.tup (cl.map vn))) (k : ∀ h lp H', H h = none → H lp = none → Same H H' → HallAt C H' h m tk cl lt lp → Q (.ref h) H') :
    makeK C (spInitX K C) [] E Q [vn m, .ref tp, .ref cp, vn lt] H := fun x dx nx ndx nex => by
  have S1 : Same H (upd (upd H dx (.own x)) x (.ins C dx [])) := fun b o e => by
    rw [upd_ne (ne_of_none e nx), upd_ne (ne_of_none e ndx)]
    exact e
  refine ⟨x, dx, vn m, .ref tp, .ref cp, vn lt, none, none, rfl, upd_same, .int _, PIx.of_pat (S1 _ _ htp) hP.tkP, PIx.of_pat (S1 _ _ hcp) hP.clP, .int _, fun tp2 cp2 m2 lt2 tk2 cl2 e1 e2 e3 e4 ht2 hc2 hP2 H' lp B n hA => ⟨rfl, ?_⟩, fun y i he => ?_⟩
  · have e1 : V.int (m : Int) = V.int (m2 : Int) := e1
    have e4 : V.int (lt : Int) = V.int (lt2 : Int) := e4
    injection e1 with e1
    injection e4 with e4
    obtain rfl : m = m2 := by omega
    obtain rfl : lt = lt2 := by omega
    cases e2
    cases e3
    rw [S1 _ _ htp] at ht2
    rw [S1 _ _ hcp] at hc2
    have a : tk.map vn = tk2.map vn := by injection ht2 with z; injection z
    have b : cl.map vn = cl2.map vn := by injection hc2 with z; injection z
    have inj : ∀ x y : List Nat, x.map vn = y.map vn → x = y := fun x y h => (List.map_inj_right (f := vn) (fun i j e => by have e : V.int (i : Int) = V.int (j : Int) := e; injection e with e; omega)).mp h
    obtain rfl := inj _ _ a
    obtain rfl := inj _ _ b
    exact k x lp H' nx (S1.free n) (fun b o e => B b o (ne_of_none e nx) (S1 b o e)) hA
  · unfold hallErr at he
    rw [inB_in (by have := hP.m2; omega) (by have := hP.m4; omega), inB_in (by omega) (by have := hP.l99; omega)] at he
    cases he
theorem h_makeE {mv tv cv lv : V} {ot oc : Option Nat} {y : Str} {i : Nat} (hm : Arg H mv) (ht : PIx H tv ot) (hc : PIx H cv oc) (hl : Arg H lv) (he : hallErr mv ot oc lv = some (y, i)) (k : RaisesH K E H y i) :
    makeK C (spInitX K C) [] E Q [mv, tv, cv, lv] H := fun x dx nx ndx nex => by
  have S1 : Same H (upd (upd H dx (.own x)) x (.ins C dx [])) := fun b o e => by
    rw [upd_ne (ne_of_none e nx), upd_ne (ne_of_none e ndx)]
    exact e
  refine ⟨x, dx, mv, tv, cv, lv, ot, oc, rfl, upd_same, hm.smv S1, ht.sm S1, hc.sm S1, hl.smv S1, fun tp2 cp2 m2 lt2 tk2 cl2 e1 e2 e3 e4 ht2 hc2 hP2 H' lp B n hA => ?_, fun y2 i2 he2 => ?_⟩
  · exfalso
    subst e1 e2 e3 e4
    have a : ot = none := by
      cases ht.sm S1 with
      | tup h _ =>
        rw [h] at ht2
        have z := Option.some.inj ht2
        injection z with z
        rw [z]
        exact badIx_pat hP2.tkP
      | not _ hn => exact absurd rfl (hn _ _ ht2)
      | frz h _ _ => obtain ⟨oo, z, _⟩ := h; rw [ht2] at z; cases z
    have b : oc = none := by
      cases hc.sm S1 with
      | tup h _ =>
        rw [h] at hc2
        have z := Option.some.inj hc2
        injection z with z
        rw [z]
        exact badIx_pat hP2.clP
      | not _ hn => exact absurd rfl (hn _ _ hc2)
      | frz h _ _ => obtain ⟨oo, z, _⟩ := h; rw [hc2] at z; cases z
    subst a b
    unfold hallErr at he
    rw [inB_in (by have := hP2.m2; omega) (by have := hP2.m4; omega), inB_in (by omega) (by have := hP2.l99; omega)] at he
    cases he
  · rw [he] at he2
    cases he2
    exact k.sm S1
end Rd
end Tk

section
local macro_rules | `(tactic| walk_at "hp") => `(tactic| first
  | assumption
  | with_reducible exact L2.upd_same
  | ((with_reducible refine' Tk.Same.get ?k0 ?k1); (case k0 => assumption); (case k1 => walk_at "hp"))
  | fail "hp")
local macro_rules | `(tactic| walk_at "same") => `(tactic| first
  | assumption
  | exact L2.Same.refl _
  | ((with_reducible refine' Tk.Same.nw ?k0 ?k1); (case k0 => assumption); (case k1 => walk_at "same"))
  | ((with_reducible refine' Tk.Same.tr ?k0 ?k1); (case k0 => assumption); (case k1 => walk_at "same")))
local macro_rules | `(tactic| walk_at "sql") => `(tactic| first
  | assumption
  | ((with_reducible refine' L2.SqL.of ?k0); (case k0 => walk_at "hp"))
  | ((with_reducible refine' L2.Same.seq ?k0 ?k1); (case k0 => assumption); (case k1 => walk_at "sql")))
local macro_rules | `(tactic| walk_at "sqt") => `(tactic| first
  | assumption
  | ((with_reducible refine' L2.SqT.of ?k0); (case k0 => walk_at "hp"))
  | ((with_reducible refine' Tk.sqt_sm ?k0 ?k1); (case k0 => assumption); (case k1 => walk_at "sqt")))
local macro_rules | `(tactic| walk_at "sz") => `(tactic| first
  | (show (_ : Nat) ≤ 1000; decide)
  | (simp; done)
  | (simp; omega))
local macro_rules | `(tactic| walk_at "szb") => `(tactic| first
  | assumption
  | (show (_ : Nat) ≤ 100000; decide)
  | (simp; done)
  | (simp; omega))
local macro_rules | `(tactic| walk_at "dp") => `(tactic| first
  | assumption
  | with_reducible exact L2.Dp.non
  | with_reducible exact L2.Dp.int _
  | with_reducible exact L2.Dp.str _
  | with_reducible exact L2.Dp.bl _
  | ((with_reducible refine' L2.Dp.lst ?k0 ?k1); (case k0 => walk_at "sql"); (case k1 => walk_at "dpa"))
  | ((with_reducible refine' L2.Dp.tup ?k0 ?k1); (case k0 => walk_at "sqt"); (case k1 => walk_at "dpa"))
  | ((with_reducible refine' Tk.dp_sm ?k0 ?k1); (case k0 => assumption); (case k1 => walk_at "dp"))
  | fail "dp")
local macro_rules | `(tactic| walk_at "dpa") => `(tactic| first
  | assumption
  | with_reducible exact L2.DpAll.nil
  | ((with_reducible refine' L2.DpAll.cons ?k0 ?k1); (case k0 => walk_at "dp"); (case k1 => walk_at "dpa"))
  | with_reducible exact Tk.dp_nats _
  | ((with_reducible refine' Tk.dpA_sm ?k0 ?k1); (case k0 => assumption); (case k1 => walk_at "dpa"))
  | fail "dpa")
local macro_rules | `(tactic| walk_at "ci") => `(tactic| first
  | exact .inl ⟨by decide, by decide⟩
  | exact .inr ⟨by decide, by decide⟩
  | exact .inl ⟨by omega, by omega⟩
  | exact .inr ⟨by omega, by omega⟩
  | exact ⟨by decide, by decide⟩
  | exact ⟨by omega, by omega⟩
  | (show (0 : Int) < _; decide)
  | (show (0 : Int) < _; omega))
local macro_rules | `(tactic| walk_at "rd1") => `(tactic| first
  | with_reducible refine Tk.Rd.seq ?_
  | with_reducible refine Tk.Rd.star ?_
  | with_reducible refine Tk.Rd.int1_i ?_
  | with_reducible refine Tk.Rd.int1_b ?_
  | with_reducible refine Tk.Rd.tlc2 ?_
  | with_reducible refine Tk.Rd.lrg3 ?_
  | with_reducible refine Tk.Rd.lrg ?_
  | with_reducible refine Tk.Rd.rg1 ?_
  | with_reducible refine Tk.Rd.rg1K_i ?_
  | with_reducible refine Tk.Rd.rg2 ?_
  | with_reducible refine Tk.Rd.rg2K_i ?_
  | ((with_reducible refine' Tk.Rd.catL ?k0 ?k1 ?k2 fun p H' np S hp => ?_); (case k0 => walk_at "hp"); (case k1 => walk_at "hp"); (case k2 => walk_at "szb"))
  | ((with_reducible refine' Tk.Rd.starK_t ?k0 ?_); (case k0 => walk_at "sqt"))
  | ((with_reducible refine' Tk.Rd.starK_l ?k0 ?_); (case k0 => walk_at "sql"))
  | ((with_reducible refine' Tk.Rd.var ?k0 ?_); (case k0 => exact rfl))
  | with_reducible refine Tk.Rd.c ?_
  | with_reducible refine Tk.Rd.op ?_
  | with_reducible refine Tk.Rd.i0 ?_
  | with_reducible refine Tk.Rd.asg ?_
  | with_reducible refine Tk.Rd.name ?_
  | with_reducible refine Tk.Rd.cons ?_
  | with_reducible refine Tk.Rd.nil ?_
  | with_reducible refine Tk.Rd.call ?_
  | with_reducible refine Tk.Rd.callK_i ?_
  | with_reducible refine Tk.Rd.tst ?_
  | with_reducible refine Tk.Rd.bv ?_
  | with_reducible refine Tk.Rd.toB_i ?_
  | with_reducible refine Tk.Rd.ift ?_
  | with_reducible refine Tk.Rd.iff ?_
  | with_reducible refine Tk.Rd.ifnt ?_
  | with_reducible refine Tk.Rd.ifnf ?_
  | with_reducible refine Tk.Rd.not ?_
  | with_reducible refine Tk.Rd.and ?_
  | with_reducible refine Tk.Rd.or ?_
  | with_reducible refine Tk.Rd.andV ?_
  | with_reducible refine Tk.Rd.andK_i ?_
  | with_reducible refine Tk.Rd.orV ?_
  | with_reducible refine Tk.Rd.orK_i ?_
  | with_reducible refine Tk.Rd.notV ?_
  | with_reducible refine Tk.Rd.notK_i ?_
  | with_reducible refine Tk.Rd.tif ?_
  | with_reducible refine Tk.Rd.yes ?_
  | with_reducible refine Tk.Rd.tfor ?_
  | with_reducible refine Tk.Rd.tlc ?_
  | with_reducible refine Tk.Rd.rng ?_
  | ((with_reducible refine' Tk.Rd.rngK_n ?k0 ?_); (case k0 => first | decide | omega))
  | ((with_reducible refine' Tk.Rd.rngK_lit ?k0 ?_); (case k0 => decide))
  | with_reducible refine Tk.Rd.rng2 ?_
  | with_reducible refine Tk.Rd.rng3 ?_
  | with_reducible refine Tk.Rd.ilist ?_
  | with_reducible refine Tk.Rd.zip ?_
  | with_reducible refine Tk.Rd.itup ?_
  | ((with_reducible refine' Tk.Rd.listK_i ?k0 ?_); (case k0 => walk_at "sql"))
  | ((with_reducible refine' Tk.Rd.ituK_i ?k0 ?_); (case k0 => walk_at "sqt"))
  | with_reducible refine Tk.Rd.chain ?_
  | with_reducible refine Tk.Rd.chainL_i ?_
  | with_reducible refine Tk.Rd.un ?_
  | with_reducible refine Tk.Rd.u1 ?_
  | ((with_reducible refine' Tk.Rd.i1 ?k0 ?_); (case k0 => walk_at "ci"))
  | ((with_reducible refine' Tk.Rd.eq ?k0 ?_); (case k0 => exact rfl))
  | ((with_reducible refine' Tk.Rd.ne ?k0 ?_); (case k0 => exact rfl))
  | with_reducible refine Tk.Rd.isN ?_
  | with_reducible refine Tk.Rd.notN ?_
  | with_reducible refine Tk.Rd.fld ?_
  | with_reducible refine Tk.Rd.meth ?_
  | with_reducible refine Tk.Rd.methR ?_
  | with_reducible refine Tk.Rd.prop ?_
  | with_reducible refine Tk.Rd.cb ?_
  | with_reducible refine Tk.Rd.bm ?_
  | with_reducible refine Tk.Rd.m0 ?_
  | with_reducible refine Tk.Rd.m0K_i ?_
  | with_reducible refine Tk.Rd.m1 ?_
  | with_reducible refine Tk.Rd.m1K_i ?_
  | with_reducible refine Tk.Rd.tup ?_
  | ((with_reducible refine' Tk.Rd.tupK_i ?k0 fun p H' np S hp => ?_); (case k0 => walk_at "sz"))
  | with_reducible refine Tk.Rd.lst ?_
  | ((with_reducible refine' Tk.Rd.lstK_i ?k0 fun p H' np S hp => ?_); (case k0 => walk_at "sz"))
  | ((with_reducible refine' Tk.Rd.ixF ?k0 ?k1 ?_); (case k0 => walk_at "hp"); (case k1 => omega))
  | ((with_reducible refine' Tk.Rd.ixF1 ?k0 ?k1 ?_); (case k0 => walk_at "hp"); (case k1 => omega))
  | ((with_reducible refine' Tk.Rd.ixT ?k0 ?k1 ?_); (case k0 => walk_at "sqt"); (case k1 => exact rfl))
  | ((with_reducible refine' Tk.Rd.ixL ?k0 ?k1 ?_); (case k0 => walk_at "sql"); (case k1 => exact rfl))
  | ((with_reducible refine' Tk.Rd.lenL ?k0 ?_); (case k0 => walk_at "sql"))
  | ((with_reducible refine' Tk.Rd.lenT ?k0 ?_); (case k0 => walk_at "sqt"))
  | ((with_reducible refine' Tk.Rd.lenS ?k0 ?_); (case k0 => first | assumption | omega | (simp; omega)))
  | ((with_reducible refine' Tk.Rd.slTr ?k0 fun p H' S hp => ?_); (case k0 => walk_at "hp"))
  | ((with_reducible refine' Tk.Rd.slT ?k0 fun p H' S hq => ?_); (case k0 => walk_at "sqt"))
  | ((with_reducible refine' Tk.Rd.catTr ?k0 ?k1 ?k2 fun p H' S hp => ?_); (case k0 => walk_at "hp"); (case k1 => walk_at "hp"); (case k2 => walk_at "sz"))
  | ((with_reducible refine' Tk.Rd.catA ?k0 ?k1 ?k2 ?k3 ?k4 fun p H' np S hp => ?_); (case k0 => walk_at "sqt"); (case k1 => walk_at "sqt"); (case k2 => simp); (case k3 => simp); (case k4 => first | (simp; done) | (simp; omega)))
  | with_reducible refine Tk.Rd.make ?_
  | ((with_reducible refine' Tk.Rd.tplL ?k0 fun q H' nq S hq => ?_); (case k0 => walk_at "sql"))
  | ((with_reducible refine' Tk.Rd.lstL ?k0 fun q H' nq S hq => ?_); (case k0 => walk_at "sql"))
  | ((with_reducible refine' Tk.Rd.lstT ?k0 fun q H' nq S hq => ?_); (case k0 => walk_at "sqt"))
  | ((with_reducible refine' Tk.Rd.join ?k0 ?k1 ?_); (case k0 => walk_at "sql"); (case k1 => first | assumption | omega))
  | with_reducible refine Tk.Rd.mx ?_
  | with_reducible refine Tk.Rd.mn ?_
  | with_reducible refine Tk.Rd.noPart ?_
  | with_reducible refine Tk.Rd.part ?_
  | with_reducible refine Tk.Rd.partK_i ?_
  | with_reducible refine Tk.Rd.slc ?_
  | ((with_reducible refine' Tk.Rd.gtup ?k0 ?k1 ?_); (case k0 => walk_at "sqt"); (case k1 => exact rfl))
  | ((with_reducible refine' Tk.Rd.glst ?k0 ?k1 ?_); (case k0 => walk_at "sql"); (case k1 => exact rfl))
  | with_reducible refine Tk.Rd.gcons ?_
  | with_reducible refine Tk.Rd.gnil ?_
  | with_reducible refine Tk.Rd.next ?_
  | with_reducible refine Tk.Rd.drop ?_
  | with_reducible refine Tk.Rd.ret ?_
  | with_reducible refine Tk.Rd.retN ?_
  | with_reducible refine Tk.Rd.par ?_
  | with_reducible refine Tk.Rd.parK_i ?_
  | with_reducible refine Tk.Rd.par3 ?_
  | with_reducible refine Tk.Rd.par3K_i ?_
  | ((with_reducible refine' Tk.Rd.aug ?k0 ?_); (case k0 => exact rfl))
  | with_reducible refine Tk.Rd.ip ?_
  | ((with_reducible refine' Tk.Rd.bmK_l ?k0 ?_); (case k0 => walk_at "sql"))
  | ((with_reducible refine' Tk.Rd.addS ?k0 ?_); (case k0 => walk_at "sz"))
  | fail "rd1")
local macro_rules | `(tactic| walk_at "rd1i") => `(tactic| first
  | walk_at "rd1"
  | with_reducible refine Tk.Rd.ifS ?_
  | fail "rd1i")
local macro_rules | `(tactic| walk_at "rd") => `(tactic| (repeat' walk_at "rd1i"))
local macro_rules | `(tactic| walk_at "rs") => `(tactic| ((repeat' walk_at "rd1"); (try dsimp only)))
local macro_rules | `(tactic| walk_at "hall") => `(tactic| first
  | assumption
  | ((with_reducible refine' Tk.HallAt.sm ?k0 ?k1); (case k0 => assumption); (case k1 => walk_at "hall"))
  | fail "hall")
local macro_rules | `(tactic| walk_at "parts") => `(tactic| first
  | assumption
  | ((with_reducible refine' Tk.PartsAt.sm ?k0 ?k1); (case k0 => assumption); (case k1 => walk_at "parts"))
  | fail "parts")
local macro_rules | `(tactic| walk_at "sm") => `(tactic| first
  | assumption
  | exact Tk.Sm.int rfl
  | exact Tk.Sm.flat1 rfl
  | ((with_reducible refine' Tk.Sm.sm ?k0 ?k1); (case k0 => assumption); (case k1 => walk_at "sm"))
  | fail "sm")
local macro_rules | `(tactic| walk_at "rd1") => `(tactic| first
  | ((with_reducible refine' Tk.Rd.f_modulus ?k0 ?k1 ?_); (case k0 => assumption); (case k1 => walk_at "hall"))
  | ((with_reducible refine' Tk.Rd.f_lateness ?k0 ?k1 ?_); (case k0 => assumption); (case k1 => walk_at "hall"))
  | ((with_reducible refine' Tk.Rd.f_takes ?k0 ?k1 fun tp htp => ?_); (case k0 => assumption); (case k1 => walk_at "hall"))
  | ((with_reducible refine' Tk.Rd.f_calls ?k0 ?k1 fun cp hcp => ?_); (case k0 => assumption); (case k1 => walk_at "hall"))
  | ((with_reducible refine' Tk.Rd.h_meth ?k0 ?k1 ?_); (case k0 => walk_at "hall"); (case k1 => decide +kernel))
  | ((with_reducible refine' Tk.Rd.h_prop ?k0 ?_); (case k0 => walk_at "hall"))
  | ((with_reducible refine' Tk.Rd.h_taken0 ?k0 fun H' S => ?_); (case k0 => walk_at "hall"))
  | ((with_reducible refine' Tk.Rd.h_taken1 ?k0 fun H' S => ?_); (case k0 => walk_at "hall"))
  | ((with_reducible refine' Tk.Rd.h_takenL ?k0 fun H' S => ?_); (case k0 => walk_at "hall"))
  | ((with_reducible refine' Tk.Rd.h_called0 ?k0 ?_); (case k0 => walk_at "hall"))
  | ((with_reducible refine' Tk.Rd.h_called1 ?k0 ?_); (case k0 => walk_at "hall"))
  | ((with_reducible refine' Tk.Rd.h_calledL ?k0 ?_); (case k0 => walk_at "hall"))
  | ((with_reducible refine' Tk.Rd.h_waiting ?k0 ?k1 fun H' S => ?_); (case k0 => walk_at "hall"); (case k1 => omega))
  | ((with_reducible refine' Tk.Rd.h_growth ?k0 fun H' S => ?_); (case k0 => walk_at "hall"))
  | ((with_reducible refine' Tk.Rd.h_period ?k0 ?_); (case k0 => walk_at "hall"))
  | ((with_reducible refine' Tk.Rd.h_lhall ?k0 fun h lp H' nh nl S hA => ?_); (case k0 => walk_at "parts"))
  | ((with_reducible refine' Tk.Rd.h_length ?k0 ?_); (case k0 => walk_at "parts"))
  | ((with_reducible refine' Tk.Rd.h_counts ?k0 ?k1 fun r a b H' nr na nb nab S hr ha hb => ?_); (case k0 => walk_at "parts"); (case k1 => omega))
  | ((with_reducible refine' Tk.Rd.h_countsL ?k0 ?k1 fun r a b H' nr na nb nab S hr ha hb => ?_); (case k0 => walk_at "parts"); (case k1 => decide))
  | ((with_reducible refine' Tk.Rd.h_make ?k0 ?k1 ?k2 fun h lp H' nh nl S hA => ?_); (case k0 => assumption); (case k1 => walk_at "hp"); (case k2 => walk_at "hp"))
  | ((with_reducible refine' Tk.Rd.p_0 ?k0 ?_); (case k0 => walk_at "parts"))
  | ((with_reducible refine' Tk.Rd.p_1 ?k0 fun htp => ?_); (case k0 => walk_at "parts"))
  | ((with_reducible refine' Tk.Rd.p_2 ?k0 fun hcp => ?_); (case k0 => walk_at "parts"))
  | ((with_reducible refine' Tk.Rd.p_3 ?k0 ?_); (case k0 => walk_at "parts"))
  | fail "rd1")
local macro_rules | `(tactic| walk_at "sqt") => `(tactic| first | ((with_reducible refine' Tk.PartsAt.sq ?k0); (case k0 => walk_at "parts")) | fail "sqt")
local macro_rules | `(tactic| walk_at "free") => `(tactic| first
  | assumption
  | ((with_reducible refine' Tk.Same.fr ?k0 ?k1); (case k0 => assumption); (case k1 => walk_at "free")))
local macro_rules | `(tactic| walk_at "hp") => `(tactic| first
  | ((with_reducible refine' Tk.But.gt ?k0 ?k1 ?k2); (case k0 => assumption); (case k1 => assumption); (case k2 => walk_at "hp"))
  | ((with_reducible refine' Tk.But.gl ?k0 ?k1 ?k2); (case k0 => assumption); (case k1 => assumption); (case k2 => walk_at "hp"))
  | fail "hp")
local macro_rules | `(tactic| walk_at "hall") => `(tactic| first | ((with_reducible refine' Tk.HallAt.bt ?k0 ?k1 ?k2 ?k3); (case k0 => assumption); (case k1 => assumption); (case k2 => assumption); (case k3 => walk_at "hall")) | fail "hall")
local macro_rules | `(tactic| walk_at "parts") => `(tactic| first | ((with_reducible refine' Tk.PartsAt.bt ?k0 ?k1 ?k2); (case k0 => assumption); (case k1 => assumption); (case k2 => walk_at "parts")) | fail "parts")
local macro_rules | `(tactic| walk_at "rd1") => `(tactic| first
  | ((with_reducible refine' Tk.Rd.h_below ?k0 ?k1 ?k2 ?k3 fun r H' cs hr B hd hcs => ?_); (case k0 => walk_at "hp"); (case k1 => assumption); (case k2 => first | decide | omega); (case k3 => first | decide | omega))
  | ((with_reducible refine' Tk.Rd.h_parts ?k0 ?k1 ?k2 ?k3 fun t tp cp m lt tk cl H' cs nt B hd hcs hP l1 l2 => ?_); (case k0 => walk_at "hp"); (case k1 => assumption); (case k2 => first | decide | omega); (case k3 => first | decide | omega))
  | ((with_reducible refine' Tk.Rd.h_partsL ?k0 ?k1 ?k2 ?k3 fun t tp cp m lt tk cl H' cs nt B hd hcs hP l1 l2 => ?_); (case k0 => walk_at "hp"); (case k1 => assumption); (case k2 => first | decide | omega); (case k3 => first | decide | omega))
  | ((with_reducible refine' Tk.Rd.h_small ?k0 ?k1 fun t tp cp m lt tk cl H' cs nt B hd hcs hP m1 l1 l2 l3 => ?_); (case k0 => walk_at "hp"); (case k1 => assumption))
  | ((with_reducible refine' Tk.Rd.h_tick ?k0 ?k1 fun t H' cs ht B hd hcs => ?_); (case k0 => walk_at "hp"); (case k1 => assumption))
  | ((with_reducible refine' Tk.Rd.h_mo ?k0 fun v H' S hv => ?_); (case k0 => walk_at "hall"))
  | ((with_reducible refine' Tk.Rd.h_lc ?k0 fun v H' S hv => ?_); (case k0 => walk_at "hall"))
  | ((with_reducible refine' Tk.Rd.h_lm ?k0 fun v H' S hv => ?_); (case k0 => walk_at "hall"))
  | ((with_reducible refine' Tk.Rd.h_gl ?k0 fun v H' S hv => ?_); (case k0 => walk_at "hall"))
  | ((with_reducible refine' Tk.Rd.h_ot ?k0 ?k1 fun r H' nr S hr => ?_); (case k0 => walk_at "hall"); (case k1 => first | assumption | omega))
  | ((with_reducible refine' Tk.Rd.h_most2 ?k0 fun v H' S hv => ?_); (case k0 => walk_at "parts"))
  | ((with_reducible refine' Tk.Rd.h_opens2L ?k0 ?k1 fun l ys H' nl S hl hlen hR => ?_); (case k0 => walk_at "parts"); (case k1 => decide))
  | ((with_reducible refine' Tk.Rd.h_opens2 ?k0 ?k1 fun l ys H' nl S hl hlen hR => ?_); (case k0 => walk_at "parts"); (case k1 => first | decide | omega))
  | fail "rd1")
local macro_rules | `(tactic| walk_at "ok") => `(tactic| first
  | assumption
  | ((with_reducible refine' Tk.HallAt.ok ?k0); (case k0 => walk_at "hall"))
  | ((with_reducible refine' Tk.PartsAt.ok ?k0); (case k0 => walk_at "parts"))
  | fail "ok")
local macro_rules | `(tactic| walk_at "sml") => `(tactic| first
  | exact Tk.Sml.ints (by walk_at "szb")
  | exact Tk.Sml.intsT (by walk_at "szb")
  | trivial
  | (simp [Tk.Sml]; done)
  | (simp [Tk.Sml]; omega)
  | fail "sml")
local macro_rules | `(tactic| walk_at "rd1") => `(tactic| first
  | ((with_reducible refine' Tk.Rd.nT ?k0 ?_); (case k0 => with_reducible exact rfl))
  | ((with_reducible refine' Tk.Rd.dT ?k0 ?_); (case k0 => with_reducible exact rfl))
  | with_reducible refine Tk.Rd.nF Tk.Rd.int_non ?_
  | with_reducible refine Tk.Rd.nF Tk.Rd.ref_non ?_
  | with_reducible refine Tk.Rd.dF Tk.Rd.int_non ?_
  | with_reducible refine Tk.Rd.dF Tk.Rd.ref_non ?_
  | ((with_reducible refine' Tk.Rd.h_disp ?k0 ?k1 ?_); (case k0 => first | assumption | omega); (case k1 => walk_at "hall"))
  | ((with_reducible refine' Tk.Rd.h_hold ?k0 ?k1 ?k2 ?k3 fun l H' nl S hl => ?_); (case k0 => walk_at "hall"); (case k1 => first | assumption | omega); (case k2 => first | assumption | omega); (case k3 => first | assumption | omega))
  | ((with_reducible refine' Tk.Rd.h_mis ?k0 ?k1 ?k2 fun l ys H' nl S hl hd => ?_); (case k0 => walk_at "hall"); (case k1 => first | assumption | omega); (case k2 => first | assumption | omega))
  | ((with_reducible refine' Tk.Rd.h_enc ?k0 fun l H' nl S hl => ?_); (case k0 => walk_at "hall"))
  | ((with_reducible refine' Tk.Rd.h_dec ?k0 ?k1 fun h lp H' nh nl S hA => ?_); (case k0 => walk_at "hp"); (case k1 => walk_at "ok"))
  | ((with_reducible refine' Tk.Rd.h_text ?k0 fun H' S => ?_); (case k0 => walk_at "hall"))
  | ((with_reducible refine' Tk.Rd.h_eqd ?k0 ?k1 ?k2 fun H' S => ?_); (case k0 => walk_at "dp"); (case k1 => walk_at "dp"); (case k2 => walk_at "sml"))
  | ((with_reducible refine' Tk.Rd.eqd ?k0 ?k1 ?k2 ?k3 ?_); (case k0 => walk_at "dp"); (case k1 => walk_at "dp"); (case k2 => walk_at "sml"); (case k3 => walk_at "sml"))
  | ((with_reducible refine' Tk.Rd.ned ?k0 ?k1 ?k2 ?k3 ?_); (case k0 => walk_at "dp"); (case k1 => walk_at "dp"); (case k2 => walk_at "sml"); (case k3 => walk_at "sml"))
  | fail "rd1")
/-! ### _law_hall of parts that no hall has -/
namespace Tk
open PySem PySem.Spec PyProof.Rows L2 Mm
/-- four parts, and what is told of them -/
def BadP (H : Hp) (xs : List V) (w : Str) (i : Nat) : Prop := ∃ mv tv cv lv ot oc, xs = [mv, tv, cv, lv] ∧ Arg H mv ∧ PIx H tv ot ∧ PIx H cv oc ∧ Arg H lv ∧ hallErr mv ot oc lv = some (w, i)
theorem BadP.sm {H H' : Hp} {xs : List V} {w : Str} {i : Nat} (h : BadP H xs w i) (S : Same H H') : BadP H' xs w i := by
  obtain ⟨mv, tv, cv, lv, ot, oc, rfl, a, b, c, d, e⟩ := h
  exact ⟨mv, tv, cv, lv, ot, oc, rfl, a.smv S, b.sm S, c.sm S, d.smv S, e⟩
section
variable {K : PySem.W.Frag} {H H' : Hp} {v : V}
theorem Arg.xt (X : LamX.ExtN H H') (a : Arg H v) : Arg H' v := by
  cases a with
  | lst e => exact .lst (X _ _ e fun _ z => by cases z)
  | tup e => exact .tup (X _ _ e fun _ z => by cases z)
  | _ => constructor
theorem PIx.xt {o : Option Nat} (X : LamX.ExtN H H') (h : PIx H v o) : PIx H' v o := by
  cases h with
  | frz h ha hi =>
    obtain ⟨oo, e, e2⟩ := h
    exact .frz ⟨oo, X _ _ e (fun _ z => by cases z), e2⟩ (fun x hx => (ha x hx).xt X) hi
  | tup hr ha => exact .tup (X _ _ hr fun _ z => by cases z) fun x hx => (ha x hx).xt X
  | not h hn =>
    refine .not (h.xt X) fun r xs e q => ?_
    subst q
    cases h with
    | lst e2 =>
      rw [X _ _ e2 fun _ z => by cases z] at e
      cases e
    | tup e2 => exact hn _ _ e2 rfl
theorem sqt_xt {a : Addr} {xs : List V} (X : LamX.ExtN H H') (h : SqT K H a xs) : SqT K H' a xs := by
  rcases h with (h | ⟨o, h⟩) | h
  · exact .inl (.inl (X _ _ h fun _ z => by cases z))
  · exact .inl (.inr ⟨o, X _ _ h (fun _ z => by cases z)⟩)
  · exact .inr h
end
def spLHX (K : PySem.W.Frag) (C : Addr) : Sp := fun vs H _ E => ∃ (t : Addr) (xs : List V) (w : Str) (i : Nat), vs = [.ref t] ∧ SqT K H t xs ∧ BadP H xs w i ∧ RaisesH K E H w i
section
variable {P : Program} {w : World} {K : PySem.W.Frag} {mg : Str → Option Value} {base : Heap}
theorem ok__law_hallX (T : Txt K mg) (hP : Ex.PF P) : OkF P w K mg base 8 (He.ga K "_law_hall") ["_law_parts_here"] (spLHX K (He.ga K "Hall")) := by
  have G_init : OkF P w K mg base 6 (He.ma K (He.ga K "Hall") "__init__") ["self", "modulus", "takes", "calls", "lateness"] (spInitX K (He.ga K "Hall")) := ok_initX T hP
  refine FnP.okF T.f__law_hall sc__law_hall (fun _ _ _ _ _ _ us hl => match us, hl with | [_], _ => rfl) (fun vs H Q E h => ?_) (fun cdv A outer s H vs Q E hr h => ?_)
  · obtain ⟨t, xs, w, i, rfl, _⟩ := h
    rfl
  obtain ⟨t, xs, wd, i, rfl, hq, ⟨mv, tv, cv, lv, ot, oc, rfl, h1, h2, h3, h4, he⟩, k⟩ := h
  refine ⟨_, (pss_one (ps_ret (pe_make T.mk_Hall G_init.one (hr.mono (by decide)) (by rfl) T.g_Hall G_init.two .nil (passes_call (takes_of rfl rfl rfl rfl) fun _ _ _ _ h => h) (pa_cons (pe_ix (ixTK (K := K)) (pv 0) pe_int (fun _ _ => rfl)) (pa_cons (pe_ix (ixTK (K := K)) (pv 0) pe_int (fun _ _ => rfl)) (pa_cons (pe_ix (ixTK (K := K)) (pv 0) pe_int (fun _ _ => rfl)) (pa_cons (pe_ix (ixTK (K := K)) (pv 0) pe_int (fun _ _ => rfl)) pa_nil))))))), ?_⟩
  walk_at "rd"
  exact Rd.h_makeE h1 h2 h3 h4 he k
end
end Tk

end

/-! ### A law that makes functions itself -/
namespace Tk
open PySem PySem.Spec PyProof.Rows L2 LamX
theorem okLawC {P : Program} {w : World} {K : PySem.W.Frag} {mg : Str → Option Value} {base : Heap} {x qual : Str} {st : Stmt} {f : Addr} {fd : FuncData} {N ps : List Str} {k : Nat} {sp : Sp} (F : FnP K x qual st f fd) (S : FnScope N ps (defScope st)) (len : ∀ vs H Q E, sp vs H Q E → vs.length = ps.length)
    (hbody : ∀ (cdv : Value) (A : Around) (outer : List Env) (s : Shared) (H : Hp) (vs : List V) (Q : VK) (E : XK), cdv = .ref (codeAt K f) → Room k (A.deeper (envOfC qual (defScope st) s.heap.objs.size f cdv)) → sp vs H Q E →
      ∃ t, PSs (cxOf CX0 P w K mg base N qual (defScope st) f cdv A outer s H E).nox (defBody st) t ∧ t { nx := fun _ H' => Q .non H', rt := Q } (start N vs) H) : FnOk P w K mg base CX0 (k + 1) f fd ps sp := by
  obtain ⟨oc, od, dV, kV, doc, pm, an, cdv, ct, osl, rfl, lk, hcd, _, _⟩ := F.ex
  exact fn_of lk hcd S len fun A outer s H vs Q E hr hsp => by
    obtain ⟨t, h1, h2⟩ := hbody cdv A outer s H vs Q E (codeAt_eq lk rfl hcd) hr hsp
    exact ⟨t, h1.nox, h2⟩
/-- a block in a lambda: of the scope only the names count -/
theorem blkNm {N : List Str} {sc sc' scope : Scope} {own : List (Str × Nat)} (h : BlkOk N sc scope own) (e : sc'.names = sc.names) : BlkOk N sc' scope own :=
  ⟨h.kind, h.uniq, h.ix, fun y hy f => by rw [e]; exact h.free y hy f, h.own⟩
theorem bd__law_error_of : ∀ (kV doc pm : Value) (an : Option Addr) (cdv ct : Value) (us : List Value), us.length = 1 → bindArgs (PySem.W.fnOf "_law_error_of" "_law_error_of" (defArgs s__law_error_of) (defBody s__law_error_of) (defScope s__law_error_of) .none kV doc pm an cdv ct) ⟨us, []⟩ = pure ((["_law_call"] : List Str).zip us) :=
  fun _ _ _ _ _ _ us hl => match us, hl with | [_], _ => rfl
end Tk

/-! ### min(xs, default=d) of integers -/
namespace Tk
open PySem PySem.Spec PyProof.Rows L2
def rMinD (K : PySem.W.Frag) : List V → List V → Hp → VK → Prop := fun vs zs H Q => ∃ (a : Addr) (ns : List Int) (d : V), vs = [.ref a] ∧ zs = [d] ∧ SqL K H a (ns.map V.int) ∧ (ns = [] → Q d H) ∧ ∀ m, m ∈ ns → (∀ y, y ∈ ns → m ≤ y) → Q (.int m) H
theorem minOf_is : ∀ (xs : List Int) (x : Int), PySem.W.minOf x xs ∈ x :: xs ∧ ∀ y, y ∈ x :: xs → PySem.W.minOf x xs ≤ y
  | [], x => ⟨List.mem_cons_self, fun y h => by
      rcases List.mem_cons.mp h with rfl | h
      · exact Int.le_refl _
      · cases h⟩
  | z :: zs, x => by
    show (PySem.W.minOf (if PySem.W.DatumOrd.lt z x = true then z else x) zs) ∈ _ ∧ ∀ y, y ∈ x :: z :: zs → (PySem.W.minOf (if PySem.W.DatumOrd.lt z x = true then z else x) zs) ≤ y
    by_cases h : PySem.W.DatumOrd.lt z x = true
    · rw [if_pos h]
      have hz : z < x := by simpa [PySem.W.DatumOrd.lt] using h
      obtain ⟨a, b⟩ := minOf_is zs z
      refine ⟨List.mem_cons_of_mem _ a, fun y hy => ?_⟩
      rcases List.mem_cons.mp hy with rfl | hy
      · have := b z List.mem_cons_self
        omega
      · exact b y hy
    · rw [if_neg h]
      have hz : ¬ z < x := by simpa [PySem.W.DatumOrd.lt] using h
      obtain ⟨a, b⟩ := minOf_is zs x
      refine ⟨?_, fun y hy => ?_⟩
      · rcases List.mem_cons.mp a with e | e
        · rw [e]
          exact List.mem_cons_self
        · exact List.mem_cons_of_mem _ (List.mem_cons_of_mem _ e)
      · rcases List.mem_cons.mp hy with rfl | hy
        · exact b y List.mem_cons_self
        · rcases List.mem_cons.mp hy with rfl | hy
          · have := b x List.mem_cons_self
            omega
          · exact b y (List.mem_cons_of_mem _ hy)
section
variable {X : Cx}
theorem cr_minD (hc : X.calm = true) (hu : X.A.units + 64 < cLine) : CallRK X (.builtin "min") [Str.ofString "default"] (rMinD X.K) := by
  intro pins s σ H vs zs us ws Q I r rz h
  obtain ⟨a, ns, d, rfl, rfl, hs, q0, q1⟩ := h
  obtain ⟨its, rv, hl, _⟩ := I.list hs
  rw [Vals.ref1 r]
  obtain ⟨w1, rfl, e1⟩ := vals1 rz
  refine PySem.W.min_list_datum_default (α := Int) (xs := ns) (I.ok.hd hc) hl.isList (PySem.W.HoldAll.of_ints rv.ints) ?_ (fun e h' tk hk => ⟨d, H, I.kept hk, e1, q0 e⟩) fun y ys i v h' tk e hi hv hk => ?_
  · show X.A.units + 1 + _ < cLine
    have : PySem.W.Datum.depth Int ≤ 1 := by decide
    omega
  · subst e
    obtain ⟨m1, m2⟩ := minOf_is ys y
    have e : ∃ t, v = Value.int (PySem.W.minOf y ys) t := by
      have q := PySem.W.HoldAll.toInts (PySem.W.HoldAll.cons hv PySem.W.HoldAll.nil)
      cases q with
      | cons n t _ => exact ⟨t, rfl⟩
    exact ⟨.int _, H, I.kept hk, e, q1 _ m1 m2⟩
end
theorem minDK {X : Cx} {K : PySem.W.Frag} (hu : X.A.units + 64 < cLine) (hc : X.calm = true := by rfl) (hK : X.K = K := by rfl) : CallRK X (.builtin "min") [Str.ofString "default"] (rMinD K) := hK ▸ cr_minD hc hu
end Tk

/-! ### first_excess -/
namespace Tk
open PySem PySem.Spec PyProof.Rows L2 Mm LamX Cz
namespace Rd
variable {σ : L2.St} {H : Hp} {Q : VK} {te : TA} {obj : Obj} {R : V → Hp → VK → Prop}
def actK (f : Addr) (obj : Obj) (R : V → Hp → VK → Prop) (Q : VK) : List V → Hp → Prop := fun vs H1 => ∃ y, vs = [y] ∧ H1 f = some (FnO f obj) ∧ R y H1 Q
theorem act {i : Nat} {f : Addr} (hs : σ[i]? = some (some (.ref f))) (hf : H f = some (FnO f obj)) (k : te σ H (actK f obj R Q)) : tAct i obj R te σ H Q := ⟨f, hs, hf, k⟩
theorem actK_i {f : Addr} {y : V} (hf : H f = some (FnO f obj)) (k : R y H Q) : actK f obj R Q [y] H := ⟨y, rfl, hf, k⟩
theorem ckw {r : List V → List V → Hp → VK → Prop} {t tk : TA} (k : t σ H fun vs H1 => tk σ H1 fun zs H2 => r vs zs H2 Q) : tCKw r t tk σ H Q := k
end Rd
/-- the ticks that stand for later ones -/
def laterT (tk cl : List Nat) (ns : List Nat) (st : Nat) (ex : Nat → Int) : List Int :=
  ((List.range ns.length).filter fun i => decide (st ≤ ns.getD i 0)).map fun i => (ns.getD i 0 : Int) + (per tk cl : Int) * (-(ex (ns.getD i 0)) / (grow tk cl : Int) + 1)
inductive FeV (tk cl : List Nat) (ns : List Nat) (st : Nat) (ex : Nat → Int) : V → Prop where
  | first (i n : Nat) (h : ns[i]? = some n) (h0 : 0 < ex n) (hb : ∀ j k, j < i → ns[j]? = some k → ex k ≤ 0) : FeV tk cl ns st ex (vn n)
  | none (hb : ∀ k ∈ ns, ex k ≤ 0) (g : grow tk cl = 0) : FeV tk cl ns st ex .non
  | never (hb : ∀ k ∈ ns, ex k ≤ 0) (g : 0 < grow tk cl) (h : laterT tk cl ns st ex = []) : FeV tk cl ns st ex .non
  | later (hb : ∀ k ∈ ns, ex k ≤ 0) (g : 0 < grow tk cl) (m : Int) (h : m ∈ laterT tk cl ns st ex) (hm : ∀ y ∈ laterT tk cl ns st ex, m ≤ y) : FeV tk cl ns st ex (.int m)
section
variable {P : Program} {w : World} {K : PySem.W.Frag} {mg : Str → Option Value} {base : Heap}
def spFe (P : Program) (w : World) (K : PySem.W.Frag) (mg : Str → Option Value) (base : Heap) (C : Addr) : Sp := fun vs H Q _ => ∃ (h lp ts f : Addr) (m lt st : Nat) (tk cl ns : List Nat) (fd : FuncData) (R : V → Hp → VK → Prop) (ex : Nat → Int),
  vs = [.ref h, .ref ts, vn st, .ref f] ∧ HallAt C H h m tk cl lt lp ∧ H ts = some (.lst (ns.map vn)) ∧ ns.length ≤ 1000 ∧ (∀ n ∈ ns, n ≤ 1000 ∧ -1000000 ≤ ex n ∧ ex n ≤ 1000000) ∧ H f = some (FnO f { cls := .type "function", data := .func fd }) ∧
  LamOk P w K mg base 6 { cls := .type "function", data := .func fd } R ∧ (∀ n ∈ ns, ∀ H' Q', Same H H' → (∀ H'', Same H' H'' → Q' (.int (ex n)) H'') → R (vn n) H' Q') ∧ ∀ v H', Same H H' → FeV tk cl ns st ex v → Q v H'
end
end Tk

/-! ### Waits -/
namespace Mm
section
variable {tk cl : List Nat} {p : Nat}
/-- the tick in which n is reached -/
def Tk (F : Nat → Nat) (n T : Nat) : Prop := F T ≤ n ∧ n < F (T + 1)
theorem Tk.uniq {F : Nat → Nat} (mono : ∀ {a b : Nat}, a ≤ b → F a ≤ F b) {n T T' : Nat} (h : Tk F n T) (h' : Tk F n T') : T = T' := by
  rcases Nat.lt_trichotomy T T' with z | z | z
  · have := mono (show T + 1 ≤ T' by omega)
    have := h.2
    have := h'.1
    omega
  · exact z
  · have := mono (show T' + 1 ≤ T by omega)
    have := h'.2
    have := h.1
    omega
theorem Tk.le {F : Nat → Nat} (mono : ∀ {a b : Nat}, a ≤ b → F a ≤ F b) {n T t : Nat} (h : Tk F n T) (h' : n < F (t + 1)) : T ≤ t := by
  rcases Nat.lt_or_ge t T with z | z
  · have := mono (show t + 1 ≤ T by omega)
    have := h.1
    omega
  · exact z
theorem Tk.ge {F : Nat → Nat} (mono : ∀ {a b : Nat}, a ≤ b → F a ≤ F b) {n T t : Nat} (h : Tk F n T) (h' : F t ≤ n) : t ≤ T := by
  rcases Nat.lt_or_ge T t with z | z
  · have := mono (show T + 1 ≤ t by omega)
    have := h.2
    omega
  · exact z
/-- the first tick below b in which more than n are reached -/
theorem Tk.ex {F : Nat → Nat} (h0 : F 0 = 0) {n : Nat} : ∀ {b : Nat}, n < F b → ∃ T, T < b ∧ Tk F n T
  | 0, h => by omega
  | b + 1, h => by
    by_cases q : n < F b
    · obtain ⟨T, h1, h2⟩ := Tk.ex h0 q
      exact ⟨T, by omega, h2⟩
    · exact ⟨b, by omega, by omega, h⟩
variable (hp : 0 < p) (ht : tk.length ∣ p) (hc : cl.length ∣ p)
include ht hc in
theorem cal_up (t : Nat) : cal tk cl (t + p) ≤ cal tk cl t + tak tk p := by
  have h1 := wt_up (tk := tk) (cl := cl) ht hc t
  have h2 := wt_cal (tk := tk) (cl := cl) t
  have h3 := wt_cal (tk := tk) (cl := cl) (t + p)
  have h4 := tak_add p ht t
  omega
include ht hc in
theorem cal_same (gz : wt tk cl (p + 1) = wt tk cl (p + 1 + p)) {t : Nat} (h : p + 1 ≤ t) : cal tk cl (t + p) = cal tk cl t + tak tk p := by
  have h1 := wt_same ht hc gz t h
  have h2 := wt_cal (tk := tk) (cl := cl) t
  have h3 := wt_cal (tk := tk) (cl := cl) (t + p)
  have h4 := tak_add p ht t
  omega
include ht hc in
theorem cal_same_k (gz : wt tk cl (p + 1) = wt tk cl (p + 1 + p)) : ∀ k, cal tk cl (p + 1 + k * p) = cal tk cl (p + 1) + k * tak tk p
  | 0 => by simp
  | k + 1 => by
    have ih := cal_same_k gz k
    have h := cal_same ht hc gz (t := p + 1 + k * p) (by omega)
    rw [Nat.succ_mul, Nat.succ_mul, ← Nat.add_assoc, h, ih]
    omega
include ht hc in
theorem per_calls (gz : wt tk cl (p + 1) = wt tk cl (p + 1 + p)) (hp : 0 < p) : cal tk cl (2 * p) = cal tk cl p + tak tk p := by
  have h1 := cal_same ht hc gz (t := p + 1) (Nat.le_refl _)
  have h2 := cal_per hp ht hc (t := p + 1) (by omega)
  omega
/-- W is the longest wait -/
structure Long (tk cl : List Nat) (p W : Nat) : Prop where
  up : ∀ t, p ≤ t → t < 2 * p → tak tk t < tak tk (t + 1) → ∃ T, Tk (cal tk cl) (tak tk (t + 1) - 1) T ∧ T - t ≤ W
  at_ : W = 0 ∨ ∃ t T, p ≤ t ∧ t < 2 * p ∧ tak tk t < tak tk (t + 1) ∧ Tk (cal tk cl) (tak tk (t + 1) - 1) T ∧ W = T - t
theorem call_ge {n T0 T : Nat} (h1 : Tk (tak tk) n T0) (h2 : Tk (cal tk cl) n T) : T0 ≤ T := by
  have := cal_le (tk := tk) (cl := cl) (T + 1)
  have := h2.2
  exact Tk.le (fun h => tak_mono h) h1 (by omega)
include ht hc in
/-- each ticket of three periods waits no longer -/
theorem Long.all (gz : wt tk cl (p + 1) = wt tk cl (p + 1 + p)) {W : Nat} (L : Long tk cl p W) {n T0 T : Nat} (hn : n < tak tk (3 * p)) (h1 : Tk (tak tk) n T0) (h2 : Tk (cal tk cl) n T) : T - T0 ≤ W := by
  have monoT : ∀ {a b : Nat}, a ≤ b → tak tk a ≤ tak tk b := fun h => tak_mono h
  have monoC : ∀ {a b : Nat}, a ≤ b → cal tk cl a ≤ cal tk cl b := fun h => cal_mono h
  have lt3 : T0 < 3 * p := by
    rcases Nat.lt_or_ge T0 (3 * p) with z | z
    · exact z
    · have := monoT z
      have := h1.1
      omega
  have some1 : tak tk T0 < tak tk (T0 + 1) := Nat.lt_of_le_of_lt h1.1 h1.2
  -- n is called no later than the last ticket of its tick
  have key : ∀ S, Tk (cal tk cl) (tak tk (T0 + 1) - 1) S → T ≤ S := fun S hS => Tk.le monoC h2 (Nat.lt_of_le_of_lt (by have := h1.2; omega) hS.2)
  by_cases c1 : T0 < p
  · have a1 := tak_add p ht T0
    have a2 := tak_add p ht (T0 + 1)
    rw [show T0 + 1 + p = T0 + p + 1 by omega] at a2
    obtain ⟨S, hS, hW⟩ := L.up (T0 + p) (by omega) (by omega) (by omega)
    have hSp : T0 + p ≤ S := by
      have := cal_le (tk := tk) (cl := cl) (S + 1)
      have := hS.2
      have z : tak tk (T0 + p) < tak tk (S + 1) := by omega
      rcases Nat.lt_or_ge S (T0 + p) with q | q
      · have := monoT (show S + 1 ≤ T0 + p by omega)
        omega
      · exact q
    have up := cal_up ht hc (tk := tk) (cl := cl) (S + 1 - p)
    rw [show S + 1 - p + p = S + 1 by omega] at up
    have := hS.2
    have le : T ≤ S - p := Tk.le monoC h2 (by
      rw [show S - p + 1 = S + 1 - p by omega]
      have := h1.2
      omega)
    omega
  · by_cases c2 : T0 < 2 * p
    · obtain ⟨S, hS, hW⟩ := L.up T0 (by omega) c2 some1
      have := key S hS
      omega
    · obtain ⟨u, rfl⟩ : ∃ u, T0 = u + p := ⟨T0 - p, by omega⟩
      have a1 := tak_add p ht u
      have a2 := tak_add p ht (u + 1)
      rw [show u + 1 + p = u + p + 1 by omega] at a2
      obtain ⟨S, hS, hW⟩ := L.up u (by omega) (by omega) (by omega)
      have hSu : u ≤ S := by
        have := cal_le (tk := tk) (cl := cl) (S + 1)
        have := hS.2
        rcases Nat.lt_or_ge S u with q | q
        · have := monoT (show S + 1 ≤ u by omega)
          omega
        · exact q
      have sm := cal_same ht hc gz (t := S + 1) (by omega)
      have := hS.2
      have le : T ≤ S + p := Tk.le monoC h2 (by
        rw [show S + p + 1 = S + 1 + p by omega]
        have := h1.2
        omega)
      omega
include hp ht hc in
/-- all tickets of three periods are called within four and a tick -/
theorem called_all (gz : wt tk cl (p + 1) = wt tk cl (p + 1 + p)) {n : Nat} (hn : n < tak tk (3 * p)) : ∃ T, T < 4 * p + 1 ∧ Tk (cal tk cl) n T := by
  refine Tk.ex rfl ?_
  have h := cal_same_k ht hc gz 3
  have a1 := tak_add p ht p
  have a2 := tak_add p ht (2 * p)
  rw [show p + p = 2 * p by omega] at a1
  rw [show 2 * p + p = 3 * p by omega] at a2
  rw [show 4 * p + 1 = p + 1 + 3 * p by omega, h]
  omega
/-- what is called in a stretch without an empty room -/
theorem full_calls {a : Nat} : ∀ k, (∀ t, a < t → t ≤ a + k → 0 < wt tk cl t) → cal tk cl (a + k) + tak cl a = cal tk cl a + tak cl (a + k)
  | 0, _ => by simp
  | k + 1, h => by
    have ih := full_calls (a := a) k fun t h1 h2 => h t h1 (by omega)
    have w := h (a + k + 1) (by omega) (by omega)
    rw [wt_succ] at w
    have c := cal_succ (tk := tk) (cl := cl) (a + k)
    have e : tak cl (a + k + 1) = tak cl (a + k) + atp cl (a + k) := rfl
    rw [show a + (k + 1) = a + k + 1 by omega, c, e]
    omega
theorem some_calls {a : Nat} : ∀ k, cal tk cl (a + k) + tak cl a ≤ cal tk cl a + tak cl (a + k)
  | 0 => by simp
  | k + 1 => by
    have ih := some_calls (a := a) k
    have c := cal_succ (tk := tk) (cl := cl) (a + k)
    have e : tak cl (a + k + 1) = tak cl (a + k) + atp cl (a + k) := rfl
    rw [show a + (k + 1) = a + k + 1 by omega, c, e]
    omega
include hp ht hc in
/-- nobody more waits after a period iff no more are taken than can be called -/
theorem grow_iff : wt tk cl (p + 1) = wt tk cl (p + 1 + p) ↔ tak tk p ≤ tak cl p := by
  have a1 := tak_add p ht (p + 1)
  have a2 := tak_add (tk := cl) p hc (p + 1)
  have w1 := wt_cal (tk := tk) (cl := cl) (p + 1)
  have w2 := wt_cal (tk := tk) (cl := cl) (p + 1 + p)
  constructor
  · intro h
    have s := some_calls (tk := tk) (cl := cl) (a := p + 1) p
    omega
  · intro h
    by_cases z : ∀ t, p + 1 < t → t ≤ p + 1 + p → 0 < wt tk cl t
    · have f := full_calls (tk := tk) (cl := cl) (a := p + 1) p z
      have u := wt_up (tk := tk) (cl := cl) ht hc (p + 1)
      omega
    · obtain ⟨t, h1, h2, h3⟩ : ∃ t, p + 1 < t ∧ t ≤ p + 1 + p ∧ wt tk cl t = 0 := by
        refine Classical.byContradiction fun q => z fun t h1 h2 => ?_
        rcases Nat.eq_zero_or_pos (wt tk cl t) with e | e
        · exact absurd ⟨t, h1, h2, e⟩ q
        · exact e
      have u := wt_up (tk := tk) (cl := cl) ht hc (t - p)
      rw [show t - p + p = t by omega, h3] at u
      refine wt_same ht hc (s := t - p) ?_ (p + 1) (by omega)
      rw [show t - p + p = t by omega, h3]
      omega
end
end Mm

/-! ### Open tickets -/
namespace Mm
/-- how many tickets are open at t, with the lateness lt -/
def opn (tk cl : List Nat) (lt t : Nat) : Nat := tak tk (t + 1) - cal tk cl (t - lt)
structure MaxIs (f : Nat → Nat) (M : Nat) : Prop where
  le : ∀ t, f t ≤ M
  at_ : ∃ t, f t = M
theorem MaxIs.uniq {f : Nat → Nat} {M N : Nat} (a : MaxIs f M) (b : MaxIs f N) : M = N := by
  obtain ⟨t, h⟩ := a.at_
  obtain ⟨s, k⟩ := b.at_
  have := a.le s
  have := b.le t
  omega
section
variable {tk cl : List Nat} {p lt : Nat}
theorem opn_add (t : Nat) : opn tk cl lt t + cal tk cl (t - lt) = tak tk (t + 1) := by
  have h1 := cal_le (tk := tk) (cl := cl) (t - lt)
  have h2 := tak_mono (tk := tk) (show t - lt ≤ t + 1 by omega)
  unfold opn
  omega
variable (hp : 0 < p) (ht : tk.length ∣ p) (hc : cl.length ∣ p)
include ht hc in
theorem opn_up (t : Nat) : opn tk cl lt t ≤ opn tk cl lt (t + p) := by
  have h1 := opn_add (tk := tk) (cl := cl) (lt := lt) t
  have h2 := opn_add (tk := tk) (cl := cl) (lt := lt) (t + p)
  have h3 := tak_add p ht (t + 1)
  rw [show t + 1 + p = t + p + 1 by omega] at h3
  rcases Nat.lt_or_ge t lt with z | z
  · have h4 := cal_mono (tk := tk) (cl := cl) (show t + p - lt ≤ p by omega)
    have h5 := cal_le (tk := tk) (cl := cl) p
    omega
  · have h4 := cal_up (tk := tk) (cl := cl) ht hc (t - lt)
    rw [show t - lt + p = t + p - lt by omega] at h4
    omega
include hp ht hc in
theorem opn_same (gz : wt tk cl (p + 1) = wt tk cl (p + 1 + p)) {t : Nat} (h : p + lt ≤ t) : opn tk cl lt (t + p) = opn tk cl lt t := by
  have h1 := opn_add (tk := tk) (cl := cl) (lt := lt) t
  have h2 := opn_add (tk := tk) (cl := cl) (lt := lt) (t + p)
  have h3 := tak_add p ht (t + 1)
  rw [show t + 1 + p = t + p + 1 by omega] at h3
  have h4 := cal_per (tk := tk) (cl := cl) hp ht hc (t := t - lt) (by omega)
  rw [show t - lt + p = t + p - lt by omega] at h4
  have h5 := per_calls (tk := tk) (cl := cl) ht hc gz hp
  omega
include ht hc in
theorem opn_ups (t : Nat) : ∀ k, opn tk cl lt t ≤ opn tk cl lt (t + k * p)
  | 0 => by simp
  | k + 1 => by
    have ih := opn_ups t k
    have h := opn_up (tk := tk) (cl := cl) (lt := lt) ht hc (t + k * p)
    rw [Nat.succ_mul, ← Nat.add_assoc]
    omega
include hp ht hc in
theorem opn_red (gz : wt tk cl (p + 1) = wt tk cl (p + 1 + p)) : ∀ n, opn tk cl lt (p + lt + n) = opn tk cl lt (p + lt + n % p) := by
  intro n
  induction n using Nat.strongRecOn with
  | _ n ih =>
    rcases Nat.lt_or_ge n p with z | z
    · rw [Nat.mod_eq_of_lt z]
    · have h := opn_same (tk := tk) (cl := cl) (lt := lt) hp ht hc gz (t := p + lt + (n - p)) (by omega)
      rw [show p + lt + (n - p) + p = p + lt + n by omega] at h
      rw [h, ih (n - p) (by omega), Nat.mod_eq_sub_mod z]
include hp ht hc in
theorem opn_max (gz : wt tk cl (p + 1) = wt tk cl (p + 1 + p)) {M : Nat} (h1 : ∀ i, i < p → opn tk cl lt (p + lt + i) ≤ M) (h2 : ∃ t, opn tk cl lt t = M) : MaxIs (opn tk cl lt) M := by
  refine ⟨fun t => ?_, h2⟩
  have a := opn_ups (tk := tk) (cl := cl) (lt := lt) ht hc t (p + lt)
  have b : p + lt ≤ t + (p + lt) * p := by
    have := Nat.le_mul_of_pos_right (p + lt) hp
    omega
  obtain ⟨n, hn⟩ : ∃ n, t + (p + lt) * p = p + lt + n := ⟨t + (p + lt) * p - (p + lt), by omega⟩
  rw [hn, opn_red hp ht hc gz n] at a
  have := h1 (n % p) (Nat.mod_lt n hp)
  omega
include hp ht hc in
/-- over more than two periods and the lateness -/
theorem opn_window (gz : wt tk cl (p + 1) = wt tk cl (p + 1 + p)) {M N : Nat} (hN : 2 * p + lt ≤ N) (h1 : ∀ i, i < N → opn tk cl lt i ≤ M) (h2 : ∃ t, opn tk cl lt t = M) : MaxIs (opn tk cl lt) M :=
  opn_max hp ht hc gz (fun i hi => h1 _ (by omega)) h2
theorem opn_le (h9 : ∀ x ∈ tk, x ≤ 9) (t : Nat) : opn tk cl lt t ≤ 9 * (t + 1) := by
  have h1 := opn_add (tk := tk) (cl := cl) (lt := lt) t
  have h2 := tak_le h9 (t + 1)
  omega
end
end Mm

/-! ### The law's open tickets and their greatest number -/
namespace Tk
open PySem PySem.Spec PyProof.Rows L2 Mm
def spOpens : Sp := fun vs H Q _ => ∃ (t tp cp : Addr) (m lt : Nat) (tk cl : List Nat) (n : Nat), vs = [.ref t, vn n] ∧ PartsAt H t m tp tk cp cl lt ∧ n ≤ 900 ∧
  ∀ (l : Addr) (rs : List Addr) H', Same H H' → H' l = some (.lst (rs.map V.ref)) → rs.length = n → (∀ r ∈ rs, ∃ a b : Nat, H' r = some (.tup [vn a, vn b])) → Q (.ref l) H'
def spMost : Sp := fun vs H Q _ => ∃ (t tp cp : Addr) (m lt : Nat) (tk cl : List Nat), vs = [.ref t] ∧ PartsAt H t m tp tk cp cl lt ∧
  ∀ v H', Same H H' → ((tak cl (per tk cl) < tak tk (per tk cl) ∧ v = .non) ∨ (tak tk (per tk cl) ≤ tak cl (per tk cl) ∧ ∃ z : Int, v = .int z)) → Q v H'
theorem sum_per (tk : List Nat) (h : 0 < tk.length) (q : Nat) : tak tk (q * tk.length) = q * tk.sum := by
  have z := tak_mul tk q 0
  rw [Nat.zero_add] at z
  rw [z]
  rfl
theorem cmp_sums {tk cl : List Nat} (n0 : 0 < tk.length) (c0 : 0 < cl.length) : (cl.sum * tk.length < tk.sum * cl.length) ↔ (tak cl (per tk cl) < tak tk (per tk cl)) := by
  have p0 := per_pos n0 c0
  obtain ⟨a, ha⟩ := per_tk (tk := tk) (cl := cl)
  obtain ⟨b, hb⟩ := per_cl (tk := tk) (cl := cl)
  have e1 : tak tk (per tk cl) = a * tk.sum := by rw [ha, Nat.mul_comm]; exact sum_per tk n0 a
  have e2 : tak cl (per tk cl) = b * cl.sum := by rw [hb, Nat.mul_comm]; exact sum_per cl c0 b
  rw [e1, e2]
  -- times the period
  have f1 : per tk cl * (cl.sum * tk.length) = (b * cl.sum) * (cl.length * tk.length) := by
    rw [hb]
    simp only [Nat.mul_comm, Nat.mul_left_comm, Nat.mul_assoc]
  have f2 : per tk cl * (tk.sum * cl.length) = (a * tk.sum) * (cl.length * tk.length) := by
    rw [ha]
    simp only [Nat.mul_comm, Nat.mul_left_comm, Nat.mul_assoc]
  have pl : 0 < cl.length * tk.length := Nat.mul_pos c0 n0
  constructor
  · intro h
    have := Nat.mul_lt_mul_of_pos_left h p0
    rw [f1, f2] at this
    exact Nat.lt_of_mul_lt_mul_right this
  · intro h
    have := Nat.mul_lt_mul_of_pos_right h pl
    rw [← f1, ← f2] at this
    exact Nat.lt_of_mul_lt_mul_left this
section
variable {P : Program} {w : World} {K : PySem.W.Frag} {mg : Str → Option Value} {base : Heap}
end
end Tk

/-! ### Open tickets, their greatest number -/
namespace Tk
open PySem PySem.Spec PyProof.Rows L2 Mm
def MostV (tk cl : List Nat) (lt : Nat) (v : V) : Prop := (0 < grow tk cl ∧ v = .non) ∨ (grow tk cl = 0 ∧ ∃ M : Nat, v = vn M ∧ MaxIs (opn tk cl lt) M)
def spCo (C : Addr) : Sp := fun vs H Q _ => ∃ (h lp : Addr) (m lt : Nat) (tk cl : List Nat) (t l : Nat), vs = [.ref h, vn t, vn l] ∧ HallAt C H h m tk cl lt lp ∧ ∀ H', Same H H' → Q (vn (opn tk cl l t)) H'
def spMow (C : Addr) : Sp := fun vs H Q _ => ∃ (h lp : Addr) (m lt : Nat) (tk cl : List Nat) (l : Nat), vs = [.ref h, vn l] ∧ HallAt C H h m tk cl lt lp ∧ l ≤ 1000 ∧ ∀ v H', Same H H' → MostV tk cl l v → Q v H'
def spMo (C : Addr) : Sp := fun vs H Q _ => ∃ (h lp : Addr) (m lt : Nat) (tk cl : List Nat), vs = [.ref h] ∧ HallAt C H h m tk cl lt lp ∧ ∀ v H', Same H H' → MostV tk cl lt v → Q v H'
def spOt (C : Addr) : Sp := fun vs H Q _ => ∃ (h lp : Addr) (m lt : Nat) (tk cl : List Nat) (t : Nat), vs = [.ref h, vn t] ∧ HallAt C H h m tk cl lt lp ∧ t ≤ 1000000000000000000 ∧
  ∀ r H', H r = none → Same H H' → H' r = some (.tup [vn (cal tk cl (t - lt)), vn (opn tk cl lt t)]) → Q (.ref r) H'
def spLc (C : Addr) : Sp := fun vs H Q _ => ∃ (h lp : Addr) (m lt : Nat) (tk cl : List Nat), vs = [.ref h] ∧ HallAt C H h m tk cl lt lp ∧ ∀ v H', Same H H' → ((0 < grow tk cl ∧ v = .non) ∨ (grow tk cl = 0 ∧ ∃ M : Nat, v = vn (max 1 ((M + m - 1) / m)) ∧ MaxIs (opn tk cl lt) M)) → Q v H'
def spLm (C : Addr) : Sp := fun vs H Q _ => ∃ (h lp : Addr) (m lt : Nat) (tk cl : List Nat), vs = [.ref h] ∧ HallAt C H h m tk cl lt lp ∧ ∀ v H', Same H H' → ((0 < grow tk cl ∧ v = .non) ∨ (grow tk cl = 0 ∧ ∃ M : Nat, v = vn (max 2 M) ∧ MaxIs (opn tk cl lt) M)) → Q v H'
/-- with the lateness l nothing clashes -/
def Fits (tk cl : List Nat) (m l : Nat) : Prop := grow tk cl = 0 ∧ ∀ t, opn tk cl l t ≤ m
inductive GrL (tk cl : List Nat) (m : Nat) : V → Prop where
  | no (h : ∀ l, l ≤ 99 → ¬ Fits tk cl m l) : GrL tk cl m .non
  | some (L : Nat) (h0 : L ≤ 99) (h1 : Fits tk cl m L) (h2 : ∀ l, L < l → l ≤ 99 → ¬ Fits tk cl m l) : GrL tk cl m (vn L)
def spGl (C : Addr) : Sp := fun vs H Q _ => ∃ (h lp : Addr) (m lt : Nat) (tk cl : List Nat), vs = [.ref h] ∧ HallAt C H h m tk cl lt lp ∧ ∀ v H', Same H H' → GrL tk cl m v → Q v H'
def spTickN : Sp := fun vs H Q _ => ∃ t : Nat, vs = [vn t] ∧ t ≤ 1000000000000000000 ∧ Q .non H
section
variable {P : Program} {w : World} {K : PySem.W.Frag} {mg : Str → Option Value} {base : Heap}
theorem grow_gz {tk cl : List Nat} (h : grow tk cl = 0) : wt tk cl (per tk cl + 1) = wt tk cl (per tk cl + 1 + per tk cl) := by
  have u := wt_up (tk := tk) (cl := cl) per_tk per_cl (per tk cl + 1)
  unfold grow at h
  rw [show 2 * per tk cl + 1 = per tk cl + 1 + per tk cl by omega] at h
  omega
theorem grow0 {tk cl : List Nat} : grow tk cl = 0 ↔ wt tk cl (per tk cl + 1) = wt tk cl (per tk cl + 1 + per tk cl) := by
  have u := wt_up (tk := tk) (cl := cl) per_tk per_cl (per tk cl + 1)
  unfold grow
  rw [show 2 * per tk cl + 1 = per tk cl + 1 + per tk cl by omega]
  omega
theorem opn_int {tk cl : List Nat} {l t : Nat} : V.int ((tak tk (t + 1) : Int) - (cal tk cl (t - l) : Int)) = vn (opn tk cl l t) := vn_int (by have := opn_add (tk := tk) (cl := cl) (lt := l) t; omega)
end
end Tk
namespace Tk
open PySem PySem.Spec PyProof.Rows L2 Mm
def ColV (tk cl : List Nat) (m lt : Nat) (v : V) : Prop := (0 < grow tk cl ∧ v = .non) ∨ (grow tk cl = 0 ∧ ∃ M : Nat, v = vn (max 1 ((M + m - 1) / m)) ∧ MaxIs (opn tk cl lt) M)
def LmV (tk cl : List Nat) (lt : Nat) (v : V) : Prop := (0 < grow tk cl ∧ v = .non) ∨ (grow tk cl = 0 ∧ ∃ M : Nat, v = vn (max 2 M) ∧ MaxIs (opn tk cl lt) M)
theorem MostV.uniq {tk cl : List Nat} {lt : Nat} {v u : V} (a : MostV tk cl lt v) (b : MostV tk cl lt u) : v = u := by
  rcases a with ⟨a, rfl⟩ | ⟨a, M, rfl, hM⟩ <;> rcases b with ⟨b, rfl⟩ | ⟨b, N, rfl, hN⟩
  · rfl
  · omega
  · omega
  · rw [hM.uniq hN]
theorem ColV.uniq {tk cl : List Nat} {m lt : Nat} {v u : V} (a : ColV tk cl m lt v) (b : ColV tk cl m lt u) : v = u := by
  rcases a with ⟨a, rfl⟩ | ⟨a, M, rfl, hM⟩ <;> rcases b with ⟨b, rfl⟩ | ⟨b, N, rfl, hN⟩
  · rfl
  · omega
  · omega
  · rw [hM.uniq hN]
theorem LmV.uniq {tk cl : List Nat} {lt : Nat} {v u : V} (a : LmV tk cl lt v) (b : LmV tk cl lt u) : v = u := by
  rcases a with ⟨a, rfl⟩ | ⟨a, M, rfl, hM⟩ <;> rcases b with ⟨b, rfl⟩ | ⟨b, N, rfl, hN⟩
  · rfl
  · omega
  · omega
  · rw [hM.uniq hN]
theorem GrL.uniq {tk cl : List Nat} {m : Nat} {v u : V} (a : GrL tk cl m v) (b : GrL tk cl m u) : v = u := by
  cases a with
  | no h =>
    cases b with
    | no _ => rfl
    | some L h0 h1 h2 => exact absurd h1 (h L h0)
  | some L h0 h1 h2 =>
    cases b with
    | no h => exact absurd h1 (h L h0)
    | some N k0 k1 k2 =>
      rcases Nat.lt_trichotomy L N with z | z | z
      · exact absurd k1 (h2 N z k0)
      · rw [z]
      · exact absurd h1 (k2 L z h0)
namespace Rd
variable {K : PySem.W.Frag} {H : Hp} {Q : VK} {E : XK} {C h lp : Addr} {m lt : Nat} {tk cl : List Nat}
theorem h_mo (hA : HallAt C H h m tk cl lt lp) (k : ∀ v H', Same H H' → MostV tk cl lt v → Q v H') : spMo C [.ref h] H Q E := ⟨h, lp, m, lt, tk, cl, rfl, hA, k⟩
theorem h_lc (hA : HallAt C H h m tk cl lt lp) (k : ∀ v H', Same H H' → ColV tk cl m lt v → Q v H') : spLc C [.ref h] H Q E := ⟨h, lp, m, lt, tk, cl, rfl, hA, k⟩
theorem h_lm (hA : HallAt C H h m tk cl lt lp) (k : ∀ v H', Same H H' → LmV tk cl lt v → Q v H') : spLm C [.ref h] H Q E := ⟨h, lp, m, lt, tk, cl, rfl, hA, k⟩
theorem h_gl (hA : HallAt C H h m tk cl lt lp) (k : ∀ v H', Same H H' → GrL tk cl m v → Q v H') : spGl C [.ref h] H Q E := ⟨h, lp, m, lt, tk, cl, rfl, hA, k⟩
theorem h_ot {t : Nat} (hA : HallAt C H h m tk cl lt lp) (ht : t ≤ 1000000000000000000) (k : ∀ r H', H r = none → Same H H' → H' r = some (.tup [vn (cal tk cl (t - lt)), vn (opn tk cl lt t)]) → Q (.ref r) H') : spOt C [.ref h, .int (t : Int)] H Q E := ⟨h, lp, m, lt, tk, cl, t, rfl, hA, ht, k⟩
end Rd
end Tk

/-! ### first_clash -/
namespace Tk
open PySem PySem.Spec PyProof.Rows L2 Mm LamX Cz
/-- all but functions, cells and such stays -/
def Rm (H G : Hp) : Prop := ∀ b o, H b = some o → (∀ φ, o ≠ .ext φ) → G b = some o
theorem HallAt.rm {C h lp : Addr} {H H1 : Hp} {m lt : Nat} {tk cl : List Nat} (p : HallAt C H h m tk cl lt lp) (b : Rm H H1) : HallAt C H1 h m tk cl lt lp := by
  obtain ⟨dx, tp, cp, h1, h2, h3⟩ := p.ex
  exact ⟨⟨dx, tp, cp, b _ _ h1 (fun _ z => by cases z), b _ _ h2 (fun _ z => by cases z), b _ _ h3 (fun _ z => by cases z)⟩, b _ _ p.lst (fun _ z => by cases z), p.ok⟩
section
variable {X : Cx} {scope : Scope}
theorem capt_cels0 {σ : L2.St} {H : Hp} (h : Capt X scope σ H) : Cels H (kap X scope) := fun c hc => by
  obtain ⟨⟨q, d⟩, hm, rfl⟩ := List.mem_map.mp hc
  rcases cloFrom_mem hm with m | ⟨z1, z2⟩
  · cases m
  · obtain ⟨i, v, o, _, _, e, r⟩ := h _ z1 rfl
    exact ⟨o, v, by rw [show d = kapA X q from z2]; exact e, r⟩
theorem lamR_same {c' : Addr} {tb : TE} {y v : V} {H : Hp} {Q : VK} (σ : L2.St) (hl : σ.length = X.N.length) (hC : Capt X scope σ H) (hcode : H c' = some (CodeO c' (X.env.qual ++ "<lambda>")))
    (h : ∀ (G : Hp) (Q1 : VK), Rm H G → (∀ G', Same G G' → Q1 v G') → tb (σ ++ [some y]) G Q1) (q : ∀ H'', Same H H'' → Q v H'') : LamR X scope c' tb y H Q := by
  have hc := capt_cels0 hC
  refine ⟨σ, hl, hC, hcode, h _ _ (fun b o e n => remL_keep hc e n) fun G' S => q _ fun b o e => ?_⟩
  by_cases z : b ∈ kap X scope
  · rw [putB_in z]
    exact e
  · rw [putB_out z]
    exact S _ _ (by rw [remL_out z]; exact e)
/-- a call of first_excess by a lambda of the caller -/
theorem callCK_fe {σ : L2.St} {Q : VK} {H1 : Hp} {C h lp ts f cd : Addr} {m lt st : Nat} {tk cl ns : List Nat} {fd : FuncData} {tb : TE} {ex : Nat → Int} (hA : HallAt C H1 h m tk cl lt lp) (hts : H1 ts = some (.lst (ns.map vn))) (hn : ns.length ≤ 1000)
    (hns : ∀ n ∈ ns, n ≤ 1000 ∧ -1000000 ≤ ex n ∧ ex n ≤ 1000000) (hf : H1 f = some (FnO f { cls := .type "function", data := .func fd })) (hcd : H1 cd = some (CodeO cd (lnm X))) (LO : LamOk X.prog X.w X.K X.mg X.base 6 { cls := .type "function", data := .func fd } (LamR X scope cd tb))
    (hσ : σ.length = X.N.length) (hcap : ∀ q, q ∈ scope.names → q.2 = .free → ∃ (i : Nat) (v : V), X.N[i]? = some q.1 ∧ X.env.scope.names.lookup q.1 = some .cell ∧ σ[i]? = some (some v))
    (hbody : ∀ n ∈ ns, ∀ (G : Hp) (Q1 : VK), Rm H1 G → (∀ G', Same G G' → Q1 (.int (ex n)) G') → tb (σ ++ [some (vn n)]) G Q1) (k : ∀ v H5, Same H1 H5 → FeV tk cl ns st ex v → Q v H5) :
    callCK X (spFe X.prog X.w X.K X.mg X.base C) σ Q [.ref h, .ref ts, vn st, .ref f] H1 := by
  intro H3 S3 cells
  refine ⟨h, lp, ts, f, m, lt, st, tk, cl, ns, fd, _, ex, rfl, hA.same S3, S3 _ _ hts, hn, hns, S3 _ _ hf, LO, fun n hm H' Q' S' q => ?_, fun v H4 S4 hv => ⟨fun b o e => S4 _ _ e, fun H5 e1 _ => k v H5 (fun b o e => ?_) hv⟩⟩
  · refine lamR_same σ hσ (fun q hq hk => ?_) (S' _ _ (S3 _ _ hcd)) (fun G Q1 R q1 => hbody n hm G Q1 (fun b o e n2 => R b o (S' _ _ (S3 _ _ e)) n2) q1) q
    obtain ⟨i, v, h1, h2, h3⟩ := hcap q hq hk
    obtain ⟨o, h4, h5⟩ := cells i q.1 v h1 h2 h3
    exact ⟨i, v, o, h1, h3, S' _ _ h4, h5⟩
  · rw [e1 b (by rw [e]; simp)]
    exact S4 _ _ (S3 _ _ e)
end
namespace Rd
variable {σ : L2.St} {H : Hp} {Q : VK}
theorem callC {X : Cx} {sp : Sp} {t : TA} (k : t σ H (callCK X sp σ Q)) : tCallC X sp t σ H Q := k
theorem lamV {X : Cx} {T : List (Addr × Str)} {n : Nat} {scope : Scope} {tb : TE} (hT : Tabs T H) (k : ∀ (f cd : Addr) (fd : FuncData) (H1 : Hp), H f = none → ExtN H H1 → Tabs T H1 → H1 f = some (FnO f { cls := .type "function", data := .func fd }) → H1 cd = some (CodeO cd (lnm X)) →
  LamOk X.prog X.w X.K X.mg X.base n { cls := .type "function", data := .func fd } (LamR X scope cd tb) → Q (.ref f) H1) : tLamV X T n scope tb σ H Q := ⟨hT, k⟩
theorem h_co {C h lp : Addr} {m lt t l : Nat} {tk cl : List Nat} {E : XK} (hA : HallAt C H h m tk cl lt lp) (k : ∀ H', Same H H' → Q (vn (opn tk cl l t)) H') : spCo C [.ref h, .int (t : Int), .int (l : Int)] H Q E := ⟨h, lp, m, lt, tk, cl, t, l, rfl, hA, k⟩
end Rd
/-- the first tick with an excess, whichever way it was found -/
inductive FcV (tk cl : List Nat) (m lt : Nat) (H : Hp) : V → Prop where
  | none (h : FeV tk cl (List.range (2 * per tk cl + lt)) (per tk cl + lt) (fun t => (opn tk cl lt t : Int) - (m : Int)) .non) : FcV tk cl m lt H .non
  | some (t : Int) (r : Addr) (h : FeV tk cl (List.range (2 * per tk cl + lt)) (per tk cl + lt) (fun t => (opn tk cl lt t : Int) - (m : Int)) (.int t))
      (hr : H r = some (.tup [.int t, vn (cal tk cl (t - (lt : Int)).toNat), .int ((cal tk cl (t - (lt : Int)).toNat : Int) + (m : Int))])) : FcV tk cl m lt H (.ref r)
section
variable {P : Program} {w : World} {K : PySem.W.Frag} {mg : Str → Option Value} {base : Heap}
def spFc (K : PySem.W.Frag) (C : Addr) : Sp := fun vs H Q _ => ∃ (h lp : Addr) (m lt : Nat) (tk cl : List Nat), vs = [.ref h] ∧ HallAt C H h m tk cl lt lp ∧ Tabs (TT K) H ∧ ∀ v H', Ext K H H' → FcV tk cl m lt H' v → Q v H'
theorem opn_le {tk cl : List Nat} (h : Pat tk) {l t : Nat} : opn tk cl l t ≤ 9 * (t + 1) := by
  have := tak_le h.nine (t + 1)
  unfold opn
  omega
end
end Tk

/-! ### The first excess, said plainly -/
namespace Tk
open PySem PySem.Spec PyProof.Rows L2 Mm LamX
/-- the first t with c t at which ex is above 0 -/
inductive FirstV (c : Nat → Bool) (ex : Nat → Int) : V → Prop where
  | none (h : ∀ t, c t = true → ex t ≤ 0) : FirstV c ex .non
  | some (t : Nat) (h0 : c t = true) (h1 : 0 < ex t) (h2 : ∀ s, s < t → c s = true → ex s ≤ 0) : FirstV c ex (vn t)
theorem FirstV.uniq {c : Nat → Bool} {ex : Nat → Int} {v u : V} (a : FirstV c ex v) (b : FirstV c ex u) : v = u := by
  cases a with
  | none h =>
    cases b with
    | none _ => rfl
    | some t h0 h1 h2 =>
      have := h t h0
      omega
  | some t h0 h1 h2 =>
    cases b with
    | none h =>
      have := h t h0
      omega
    | some s k0 k1 k2 =>
      rcases Nat.lt_trichotomy t s with z | z | z
      · have := k2 t z h0
        omega
      · rw [z]
      · have := h2 s z k0
        omega
theorem mem_later {tk cl ns : List Nat} {st : Nat} {ex : Nat → Int} {z : Int} : z ∈ laterT tk cl ns st ex ↔ ∃ n ∈ ns, st ≤ n ∧ z = (n : Int) + (per tk cl : Int) * (-(ex n) / (grow tk cl : Int) + 1) := by
  unfold laterT
  rw [List.mem_map]
  constructor
  · rintro ⟨i, hi, rfl⟩
    rw [List.mem_filter, List.mem_range] at hi
    obtain ⟨h1, h2⟩ := hi
    refine ⟨ns.getD i 0, ?_, of_decide_eq_true h2, rfl⟩
    rw [List.getD_eq_getElem?_getD, List.getElem?_eq_getElem h1]
    exact List.getElem_mem h1
  · rintro ⟨n, hn, h1, rfl⟩
    obtain ⟨i, hi⟩ := List.getElem?_of_mem hn
    refine ⟨i, ?_, by rw [Rd.getD_of hi]⟩
    rw [List.mem_filter, List.mem_range, Rd.getD_of hi]
    exact ⟨(List.getElem?_eq_some_iff.mp hi).1, decide_eq_true h1⟩
theorem step_k {c : Nat → Bool} {st p : Nat} (hc : ∀ t, st ≤ t → c (t + p) = c t) {t : Nat} (ht : st ≤ t) : ∀ k, c (t + k * p) = c t
  | 0 => by rw [Nat.zero_mul, Nat.add_zero]
  | k + 1 => by
    rw [show t + (k + 1) * p = (t + k * p) + p by rw [Nat.add_mul]; omega, hc _ (by omega), step_k hc ht k]
theorem step_e {ex : Nat → Int} {st p : Nat} {g : Int} (he : ∀ t, st ≤ t → ex (t + p) = ex t + g) {t : Nat} (ht : st ≤ t) : ∀ k : Nat, ex (t + k * p) = ex t + (k : Int) * g
  | 0 => by rw [Nat.zero_mul, Nat.add_zero]; simp
  | k + 1 => by
    rw [show t + (k + 1) * p = (t + k * p) + p by rw [Nat.add_mul]; omega, he _ (by omega), step_e he ht k, Int.natCast_add, Int.add_mul]
    omega
theorem red_p {st p t : Nat} (hp : 0 < p) (h : st ≤ t) : ∃ n k, st ≤ n ∧ n < st + p ∧ t = n + k * p := by
  refine ⟨st + (t - st) % p, (t - st) / p, by omega, ?_, ?_⟩
  · have := Nat.mod_lt (t - st) hp
    omega
  · have := Nat.div_add_mod (t - st) p
    rw [Nat.mul_comm] at this
    omega
theorem fe_first {tk cl : List Nat} {c : Nat → Bool} {ex : Nat → Int} {st : Nat} (hp : 0 < per tk cl) (hc : ∀ t, st ≤ t → c (t + per tk cl) = c t) (he : ∀ t, st ≤ t → ex (t + per tk cl) = ex t + (grow tk cl : Int)) {v : V}
    (h : FeV tk cl ((List.range (st + per tk cl)).filter c) st ex v) : FirstV c ex v := by
  have mem : ∀ {n}, n < st + per tk cl → c n = true → n ∈ (List.range (st + per tk cl)).filter c := fun h1 h2 => List.mem_filter.mpr ⟨List.mem_range.mpr h1, h2⟩
  have mem2 : ∀ {n}, n ∈ (List.range (st + per tk cl)).filter c → n < st + per tk cl ∧ c n = true := fun h => by
    obtain ⟨a, b⟩ := List.mem_filter.mp h
    exact ⟨List.mem_range.mp a, b⟩
  cases h with
  | first i n hi h0 hb =>
    have hn := mem2 (List.mem_of_getElem? hi)
    refine .some n hn.2 h0 fun s hs hcs => ?_
    obtain ⟨j, hj⟩ := List.getElem?_of_mem (mem (n := s) (by omega) hcs)
    refine hb j s ?_ hj
    rcases Nat.lt_trichotomy j i with z | z | z
    · exact z
    · subst z
      have := Option.some.inj (hi.symm.trans hj)
      omega
    · exfalso
      have srt : ((List.range (st + per tk cl)).filter c).Pairwise (· < ·) := List.Pairwise.filter c List.pairwise_lt_range
      have a1 := (List.getElem?_eq_some_iff.mp hi)
      have a2 := (List.getElem?_eq_some_iff.mp hj)
      have := List.pairwise_iff_getElem.mp srt i j a1.1 a2.1 z
      rw [a1.2, a2.2] at this
      omega
  | none hb g =>
    refine .none fun t ht => ?_
    rcases Nat.lt_or_ge t st with z | z
    · exact hb t (mem (by omega) ht)
    · obtain ⟨n, k, h1, h2, rfl⟩ := red_p hp z
      rw [step_k hc h1] at ht
      rw [step_e he h1, g]
      have := hb n (mem h2 ht)
      simp only [Int.natCast_zero, Int.mul_zero]
      omega
  | never hb g hl =>
    refine .none fun t ht => ?_
    rcases Nat.lt_or_ge t st with z | z
    · exact hb t (mem (by omega) ht)
    · obtain ⟨n, k, h1, h2, rfl⟩ := red_p hp z
      rw [step_k hc h1] at ht
      have : (n : Int) + (per tk cl : Int) * (-(ex n) / (grow tk cl : Int) + 1) ∈ laterT tk cl ((List.range (st + per tk cl)).filter c) st ex := mem_later.mpr ⟨n, mem h2 ht, h1, rfl⟩
      rw [hl] at this
      cases this
  | later hb g z hz hm =>
    obtain ⟨n, hn, h1, rfl⟩ := mem_later.mp hz
    have hn := mem2 hn
    have g0 : (0 : Int) < (grow tk cl : Int) := by omega
    have key : ∀ n, n < st + per tk cl → c n = true → st ≤ n → ∃ k : Nat, (k : Int) = -(ex n) / (grow tk cl : Int) + 1 ∧ ∀ j : Nat, (0 < ex (n + j * per tk cl) ↔ k ≤ j) := fun n a b d => by
      have e0 := hb n (mem a b)
      have q0 : 0 ≤ -(ex n) / (grow tk cl : Int) := Int.ediv_nonneg (by omega) (by omega)
      refine ⟨(-(ex n) / (grow tk cl : Int) + 1).toNat, by omega, fun j => ?_⟩
      rw [step_e he d]
      have dm := Int.mul_ediv_add_emod (-(ex n)) (grow tk cl : Int)
      have m0 := Int.emod_nonneg (-(ex n)) (show (grow tk cl : Int) ≠ 0 by omega)
      have m1 := Int.emod_lt_of_pos (-(ex n)) g0
      generalize hq : -(ex n) / (grow tk cl : Int) = q at *
      constructor
      · intro lt
        have : q < (j : Int) := by
          refine Int.not_le.mp fun le => ?_
          have := Int.mul_le_mul_of_nonneg_right le (Int.le_of_lt g0)
          have c1 : (grow tk cl : Int) * q = q * (grow tk cl : Int) := Int.mul_comm _ _
          omega
        omega
      · intro le
        have : q + 1 ≤ (j : Int) := by omega
        have := Int.mul_le_mul_of_nonneg_right this (Int.le_of_lt g0)
        have c1 : (grow tk cl : Int) * q = q * (grow tk cl : Int) := Int.mul_comm _ _
        rw [Int.add_mul] at this
        omega
    obtain ⟨k, hk, kk⟩ := key n hn.1 hn.2 h1
    have ez : (n : Int) + (per tk cl : Int) * (-(ex n) / (grow tk cl : Int) + 1) = ((n + k * per tk cl : Nat) : Int) := by
      rw [← hk, Int.natCast_add, Int.natCast_mul, Int.mul_comm]
    rw [ez] at hm
    show FirstV c ex (V.int _)
    rw [ez]
    refine .some _ (by rw [step_k hc h1]; exact hn.2) ((kk k).mpr (Nat.le_refl _)) fun s hs hcs => ?_
    rcases Nat.lt_or_ge s st with z | z
    · exact hb s (mem (by omega) hcs)
    · obtain ⟨n2, j, d1, d2, rfl⟩ := red_p hp z
      rw [step_k hc d1] at hcs
      obtain ⟨k2, hk2, kk2⟩ := key n2 d2 hcs d1
      refine Int.not_lt.mp fun lt => ?_
      have le := (kk2 j).mp lt
      have hm2 := hm _ (mem_later.mpr ⟨n2, mem d2 hcs, d1, rfl⟩)
      have ez2 : (n2 : Int) + (per tk cl : Int) * (-(ex n2) / (grow tk cl : Int) + 1) = ((n2 + k2 * per tk cl : Nat) : Int) := by
        rw [← hk2, Int.natCast_add, Int.natCast_mul, Int.mul_comm]
      rw [ez2] at hm2
      have := Nat.mul_le_mul_right (per tk cl) le
      omega
theorem opn_step {tk cl : List Nat} (h1 : Pat tk) (h2 : Pat cl) {lt t : Nat} (ht : per tk cl + lt ≤ t) : opn tk cl lt (t + per tk cl) = opn tk cl lt t + grow tk cl := by
  have p0 := per_pos h1.pos h2.pos
  have a1 := opn_add (tk := tk) (cl := cl) (lt := lt) (t + per tk cl)
  have a2 := opn_add (tk := tk) (cl := cl) (lt := lt) t
  rw [show t + per tk cl + 1 = (t + 1) + per tk cl by omega, tak_add _ per_tk] at a1
  have b1 := cal_per (tk := tk) (cl := cl) p0 per_tk per_cl (t := t - lt) (by omega)
  rw [show t - lt + per tk cl = t + per tk cl - lt by omega] at b1
  have b2 := cal_per (tk := tk) (cl := cl) p0 per_tk per_cl (t := per tk cl + 1) (by omega)
  have w1 := wt_cal (tk := tk) (cl := cl) (2 * per tk cl + 1)
  have w2 := wt_cal (tk := tk) (cl := cl) (per tk cl + 1)
  have t1 := tak_add (tk := tk) (per tk cl) per_tk (per tk cl + 1)
  rw [show per tk cl + 1 + per tk cl = 2 * per tk cl + 1 by omega] at b2 t1
  have wu := wt_up (tk := tk) (cl := cl) per_tk per_cl (per tk cl + 1)
  rw [show per tk cl + 1 + per tk cl = 2 * per tk cl + 1 by omega] at wu
  unfold grow
  omega
/-- the first tick with more than m open tickets -/
abbrev OverV (tk cl : List Nat) (lt m : Nat) : V → Prop := FirstV (fun _ => true) fun t => (opn tk cl lt t : Int) - (m : Int)
theorem filter_true (n : Nat) : (List.range n).filter (fun _ => true) = List.range n := List.filter_eq_self.mpr fun _ _ => rfl
theorem over_of {tk cl : List Nat} (h1 : Pat tk) (h2 : Pat cl) {lt m : Nat} {v : V} (h : FeV tk cl (List.range (2 * per tk cl + lt)) (per tk cl + lt) (fun t => (opn tk cl lt t : Int) - (m : Int)) v) : OverV tk cl lt m v := by
  refine fe_first (per_pos h1.pos h2.pos) (fun _ _ => rfl) (fun t ht => ?_) (st := per tk cl + lt) ?_
  · rw [opn_step h1 h2 ht]
    omega
  · rw [filter_true, show per tk cl + lt + per tk cl = 2 * per tk cl + lt by omega]
    exact h
theorem filter_head {c : Nat → Bool} {t : Nat} (h0 : c t = true) (h1 : ∀ s, s < t → c s = true → False) : ∀ {n : Nat}, t < n → ∃ r, (List.range n).filter c = t :: r
  | 0, h => by omega
  | n + 1, h => by
    rw [List.range_succ, List.filter_append]
    rcases Nat.lt_or_ge t n with z | z
    · obtain ⟨r, e⟩ := filter_head h0 h1 z
      rw [e]
      exact ⟨_, rfl⟩
    · obtain rfl : t = n := by omega
      have e : (List.range t).filter c = [] := List.filter_eq_nil_iff.mpr fun s hs hc => h1 s (List.mem_range.mp hs) hc
      rw [e]
      exact ⟨[], by simp [h0]⟩
theorem opn_steps {tk cl : List Nat} (h1 : Pat tk) (h2 : Pat cl) {lt t : Nat} (ht : per tk cl + lt ≤ t) : ∀ k, opn tk cl lt (t + k * per tk cl) = opn tk cl lt t + k * grow tk cl
  | 0 => by simp
  | k + 1 => by
    rw [show t + (k + 1) * per tk cl = (t + k * per tk cl) + per tk cl by rw [Nat.add_mul]; omega, opn_step h1 h2 (by omega), opn_steps h1 h2 ht k, Nat.add_mul]
    omega
theorem over_bound {tk cl : List Nat} (h1 : Pat tk) (h2 : Pat cl) {lt m t : Nat} (hp : per tk cl ≤ 9) (hm : m ≤ 10) (hl : lt ≤ 5) (a : m < opn tk cl lt t) (b : ∀ s, s < t → opn tk cl lt s ≤ m) : t < 200 := by
  refine Nat.lt_of_not_le fun ge => ?_
  have p0 := per_pos h1.pos h2.pos
  by_cases g : grow tk cl = 0
  · have s := opn_step h1 h2 (lt := lt) (t := t - per tk cl) (by omega)
    rw [show t - per tk cl + per tk cl = t by omega, g] at s
    have := b (t - per tk cl) (by omega)
    omega
  · have s := opn_steps h1 h2 (lt := lt) (t := t - 12 * per tk cl) (by omega) 11
    have := b (t - 12 * per tk cl + 11 * per tk cl) (by omega)
    omega
/-- first_clash's answer -/
inductive ClashAt (tk cl : List Nat) (m lt : Nat) (H : Hp) : V → Prop where
  | none (h : ∀ t, opn tk cl lt t ≤ m) : ClashAt tk cl m lt H .non
  | some (t : Nat) (r : Addr) (h0 : m < opn tk cl lt t) (h1 : ∀ s, s < t → opn tk cl lt s ≤ m) (hr : H r = some (.tup [vn t, vn (cal tk cl (t - lt)), vn (cal tk cl (t - lt) + m)])) : ClashAt tk cl m lt H (.ref r)
theorem ClashAt.ext {K : PySem.W.Frag} {tk cl : List Nat} {m lt : Nat} {H H' : Hp} {v : V} (X : Ext K H H') (h : ClashAt tk cl m lt H v) : ClashAt tk cl m lt H' v := by
  cases h with
  | none h => exact .none h
  | some t r h0 h1 hr => exact .some t r h0 h1 (X.tup hr)
theorem clash_of {tk cl : List Nat} (h1 : Pat tk) (h2 : Pat cl) {m lt : Nat} {H : Hp} {v : V} (h : FcV tk cl m lt H v) : ClashAt tk cl m lt H v := by
  cases h with
  | none h =>
    refine .none fun t => ?_
    cases over_of h1 h2 h with
    | none h =>
      have := h t rfl
      omega
  | some z r h hr =>
    have o := over_of h1 h2 h
    generalize hv : V.int z = v at o
    cases o with
    | none _ => cases hv
    | some t h0 h1 h2 =>
      obtain rfl : z = (t : Int) := by injection hv
      rw [show ((t : Int) - (lt : Int)).toNat = t - lt by omega] at hr
      refine .some t r (by omega) (fun s hs => ?_) hr
      have := h2 s hs rfl
      omega
namespace Rd
theorem h_fc {K : PySem.W.Frag} {H : Hp} {Q : VK} {E : XK} {C h lp : Addr} {m lt : Nat} {tk cl : List Nat} (hA : HallAt C H h m tk cl lt lp) (hT : Tabs (TT K) H) (k : ∀ v H', Ext K H H' → ClashAt tk cl m lt H' v → Q v H') : spFc K C [.ref h] H Q E :=
  ⟨h, lp, m, lt, tk, cl, rfl, hA, hT, fun v H' X hv => k v H' X (clash_of hA.ok.tkP hA.ok.clP hv)⟩
end Rd
end Tk

/-! ### Holders of digits, mistaken visitors -/
namespace Tk
open PySem PySem.Spec PyProof.Rows L2 Mm LamX Cz
def misP (s c e m : Nat) : List (Nat × Nat) := (List.range (c - s)).flatMap fun i => (resL c e ((s + i) % m) m).map fun o => (s + i, o)
abbrev dPair (p : Nat × Nat) : PyData := .tuple [dN p.1, dN p.2]
def misD (s c e m : Nat) : List PyData := (List.range (c - s)).flatMap fun i => (resL c e ((s + i) % m) m).map fun o => dPair (s + i, o)
theorem misD_map {s c e m : Nat} : misD s c e m = (misP s c e m).map dPair := by
  unfold misD misP
  rw [List.map_flatMap]
  simp only [List.map_map]
  rfl
theorem resL_len {a b d m : Nat} (hm : 0 < m) (hd : d < m) : (resL a b d m).length ≤ (b - a) / m + 1 := by
  rw [res_steps hm hd, List.length_map, List.length_range]
  generalize (d + (m - a % m)) % m = z
  have : (b - (a + z) + m - 1) / m ≤ ((b - a) + m) / m := Nat.div_le_div_right (by omega)
  rw [Nat.add_div_right _ hm] at this
  exact this
theorem flat_len {α β : Type} {N : Nat} (f : α → List β) : ∀ {l : List α}, (∀ x ∈ l, (f x).length ≤ N) → (l.flatMap f).length ≤ l.length * N
  | [], _ => by simp
  | a :: l, h => by
    have h1 := h a List.mem_cons_self
    have h2 := flat_len f (l := l) fun x hx => h x (List.mem_cons_of_mem _ hx)
    rw [List.flatMap_cons, List.length_append, List.length_cons, Nat.add_mul]
    omega
theorem misD_len {s c e m : Nat} (hm : 0 < m) : (misD s c e m).length ≤ (c - s) * ((e - c) / m + 1) := by
  unfold misD
  have := flat_len (N := (e - c) / m + 1) (fun i => (resL c e ((s + i) % m) m).map fun o => dPair (s + i, o)) (l := List.range (c - s)) fun x hx => by
    rw [List.length_map]
    exact resL_len hm (Nat.mod_lt _ hm)
  rw [List.length_range] at this
  exact this
def spSame : Sp := fun vs H Q _ => ∃ (x a b m : Nat), vs = [vn x, vn a, vn b, vn m] ∧ 0 < m ∧ m ≤ 10000 ∧ a ≤ 4000000000000000000 ∧ b ≤ 4000000000000000000 ∧ (b - a) / m ≤ 1000000 ∧
  ∀ l H', H l = none → Same H H' → H' l = some (.lst ((resL a b (x % m) m).map vn)) → Q (.ref l) H'
def spHold (C : Addr) : Sp := fun vs H Q _ => ∃ (h lp : Addr) (m lt t d : Nat) (tk cl : List Nat), vs = [.ref h, vn t, vn d] ∧ HallAt C H h m tk cl lt lp ∧ t ≤ 400000000000000000 ∧ d < m ∧ opn tk cl lt t / m ≤ 1000 ∧
  ∀ l H', H l = none → Same H H' → H' l = some (.lst ((resL (cal tk cl (t - lt)) (tak tk (t + 1)) d m).map vn)) → Q (.ref l) H'
def spMis (K : PySem.W.Frag) (C : Addr) : Sp := fun vs H Q _ => ∃ (h lp : Addr) (m lt t : Nat) (tk cl : List Nat), vs = [.ref h, vn t] ∧ HallAt C H h m tk cl lt lp ∧ t ≤ 400000000000000000 ∧ wt tk cl (t + 1) / m * (cal tk cl (t + 1) - cal tk cl t) ≤ 1000 ∧
  ∀ l ys H', H l = none → Same H H' → H' l = some (.lst ys) → DpAll K H' ys (misD (cal tk cl t) (cal tk cl (t + 1)) (tak tk (t + 1)) m) → Q (.ref l) H'
def mex (tk cl : List Nat) (m t : Nat) : Int := min (wt tk cl (t + 1) : Int) ((tak tk (t + 1) : Int) - (cal tk cl t : Int) - (m : Int))
def spMex (C : Addr) : Sp := fun vs H Q _ => ∃ (h lp : Addr) (m lt t : Nat) (tk cl : List Nat), vs = [.ref h, vn t] ∧ HallAt C H h m tk cl lt lp ∧ ∀ H', Same H H' → Q (.int (mex tk cl m t)) H'
def calls (tk cl : List Nat) (t : Nat) : Bool := decide (cal tk cl t < cal tk cl (t + 1))
abbrev MistV (tk cl : List Nat) (m : Nat) : V → Prop := FirstV (calls tk cl) (mex tk cl m)
def spFm (K : PySem.W.Frag) (C : Addr) : Sp := fun vs H Q _ => ∃ (h lp : Addr) (m lt : Nat) (tk cl : List Nat), vs = [.ref h] ∧ HallAt C H h m tk cl lt lp ∧ Tabs (TT K) H ∧ ∀ v H', Ext K H H' → MistV tk cl m v → Q v H'
def spDig : Sp := fun vs H Q _ => ∃ (d m : Nat), vs = [vn d, vn m] ∧ d < m ∧ Q .non H
section
variable {P : Program} {w : World} {K : PySem.W.Frag} {mg : Str → Option Value} {base : Heap}
theorem wt_step {tk cl : List Nat} (h1 : Pat tk) (h2 : Pat cl) {t : Nat} (ht : per tk cl ≤ t) : wt tk cl (t + 1 + per tk cl) = wt tk cl (t + 1) + grow tk cl := by
  have z := opn_step h1 h2 (lt := 0) (t := t) (by omega)
  have a := opn_add (tk := tk) (cl := cl) (lt := 0) t
  have b := opn_add (tk := tk) (cl := cl) (lt := 0) (t + per tk cl)
  have p0 := per_pos h1.pos h2.pos
  have c1 := cal_per (tk := tk) (cl := cl) p0 per_tk per_cl (t := t) ht
  have c2 := cal_per (tk := tk) (cl := cl) p0 per_tk per_cl (t := t + 1) (by omega)
  have w1 := wt_cal (tk := tk) (cl := cl) (t + 1)
  have w2 := wt_cal (tk := tk) (cl := cl) (t + 1 + per tk cl)
  rw [Nat.sub_zero] at a b
  rw [show t + per tk cl + 1 = t + 1 + per tk cl by omega] at b
  omega
theorem mex_step {tk cl : List Nat} (h1 : Pat tk) (h2 : Pat cl) {m t : Nat} (ht : per tk cl ≤ t) : mex tk cl m (t + per tk cl) = mex tk cl m t + (grow tk cl : Int) := by
  have z := opn_step h1 h2 (lt := 0) (t := t) (by omega)
  have a := opn_add (tk := tk) (cl := cl) (lt := 0) t
  have b := opn_add (tk := tk) (cl := cl) (lt := 0) (t + per tk cl)
  have w := wt_step h1 h2 ht
  rw [Nat.sub_zero] at a b
  unfold mex
  rw [show t + per tk cl + 1 = t + 1 + per tk cl by omega] at b ⊢
  omega
theorem calls_step {tk cl : List Nat} (h1 : Pat tk) (h2 : Pat cl) {t : Nat} (ht : per tk cl ≤ t) : calls tk cl (t + per tk cl) = calls tk cl t := by
  have p0 := per_pos h1.pos h2.pos
  have c1 := cal_per (tk := tk) (cl := cl) p0 per_tk per_cl (t := t) ht
  have c2 := cal_per (tk := tk) (cl := cl) p0 per_tk per_cl (t := t + 1) (by omega)
  unfold calls
  rw [show t + per tk cl + 1 = t + 1 + per tk cl by omega]
  exact decide_eq_decide.mpr (by omega)
end
theorem opn_up1 {tk cl : List Nat} (h1 : Pat tk) {lt t : Nat} : opn tk cl lt (t + 1) ≤ opn tk cl lt t + 9 := by
  have a := opn_add (tk := tk) (cl := cl) (lt := lt) t
  have b := opn_add (tk := tk) (cl := cl) (lt := lt) (t + 1)
  have c := cal_mono (tk := tk) (cl := cl) (show t - lt ≤ t + 1 - lt by omega)
  have d : tak tk (t + 1 + 1) = tak tk (t + 1) + atp tk (t + 1) := rfl
  have e := atp_le h1.nine (t + 1)
  omega
theorem clash_grow {tk cl : List Nat} (h1 : Pat tk) (h2 : Pat cl) {lt m : Nat} (h : ∀ t, opn tk cl lt t ≤ m) : grow tk cl = 0 := by
  refine Nat.eq_zero_of_not_pos fun g => ?_
  have s := opn_steps h1 h2 (lt := lt) (t := per tk cl + lt) (Nat.le_refl _) (m + 1)
  have := h (per tk cl + lt + (m + 1) * per tk cl)
  have : (m + 1) * 1 ≤ (m + 1) * grow tk cl := Nat.mul_le_mul_left _ g
  omega
theorem clash_bound {tk cl : List Nat} (h1 : Pat tk) (h2 : Pat cl) {lt m t : Nat} (hm : m ≤ 10000) (hl : lt ≤ 99) (a : m < opn tk cl lt t) (b : ∀ s, s < t → opn tk cl lt s ≤ m) : t ≤ 2000000 ∧ opn tk cl lt t ≤ m + 9 := by
  have p0 := per_pos h1.pos h2.pos
  have p144 := per_144 h1 h2
  refine ⟨Nat.le_of_not_lt fun ge => ?_, ?_⟩
  · by_cases g : grow tk cl = 0
    · have s := opn_step h1 h2 (lt := lt) (t := t - per tk cl) (by omega)
      rw [show t - per tk cl + per tk cl = t by omega, g] at s
      have := b (t - per tk cl) (by omega)
      omega
    · have hq : 10002 * per tk cl ≤ 10002 * 144 := Nat.mul_le_mul_left _ p144
      have s := opn_steps h1 h2 (lt := lt) (t := t - 10002 * per tk cl) (by omega) 10001
      have := b (t - 10002 * per tk cl + 10001 * per tk cl) (by omega)
      have : 10001 * 1 ≤ 10001 * grow tk cl := Nat.mul_le_mul_left _ (by omega)
      omega
  · cases t with
    | zero =>
      have := opn_le (cl := cl) h1 (l := lt) (t := 0)
      omega
    | succ t =>
      have := opn_up1 (cl := cl) h1 (lt := lt) (t := t)
      have := b t (by omega)
      omega
theorem resL_cons {a b d m : Nat} (hm : 0 < m) (e : a % m = d) (h : a < b) : resL a b d m = a :: resL (a + m) b d m := by
  have hd : d < m := by rw [← e]; exact Nat.mod_lt _ hm
  have z : (d + (m - a % m)) % m = 0 := by
    rw [e, show d + (m - d) = m by omega, Nat.mod_self]
  have z2 : (d + (m - (a + m) % m)) % m = 0 := by
    rw [Nat.add_mod_right]
    exact z
  rw [res_steps hm hd, res_steps hm hd, z, z2, Nat.add_zero, Nat.add_zero]
  rw [show b - a + m - 1 = (b - (a + 1)) + m by omega, Nat.add_div_right _ hm, List.range_succ_eq_map, List.map_cons, List.map_map, Nat.zero_mul, Nat.add_zero]
  congr 1
  have e3 : (b - (a + m) + m - 1) / m = (b - (a + 1)) / m := by
    rcases Nat.lt_or_ge b (a + m) with q | q
    · rw [show b - (a + m) = 0 by omega, Nat.zero_add, Nat.div_eq_of_lt (by omega), Nat.div_eq_of_lt (by omega)]
    · rw [show b - (a + m) + m - 1 = b - (a + 1) by omega]
  rw [e3]
  refine List.map_congr_left fun k _ => ?_
  show a + (k + 1) * m = a + m + k * m
  rw [Nat.add_mul]
  omega
namespace Rd
variable {K : PySem.W.Frag} {H : Hp} {Q : VK} {E : XK} {C h lp : Addr} {m lt : Nat} {tk cl : List Nat}
theorem h_hold {t d : Nat} (hA : HallAt C H h m tk cl lt lp) (ht : t ≤ 400000000000000000) (hd : d < m) (hz : opn tk cl lt t / m ≤ 1000) (k : ∀ l H', H l = none → Same H H' → H' l = some (.lst ((resL (cal tk cl (t - lt)) (tak tk (t + 1)) d m).map vn)) → Q (.ref l) H') :
    spHold C [.ref h, .int (t : Int), .int (d : Int)] H Q E := ⟨h, lp, m, lt, t, d, tk, cl, rfl, hA, ht, hd, hz, k⟩
theorem h_mis {t : Nat} (hA : HallAt C H h m tk cl lt lp) (ht : t ≤ 400000000000000000) (hz : wt tk cl (t + 1) / m * (cal tk cl (t + 1) - cal tk cl t) ≤ 1000)
    (k : ∀ l ys H', H l = none → Same H H' → H' l = some (.lst ys) → DpAll K H' ys (misD (cal tk cl t) (cal tk cl (t + 1)) (tak tk (t + 1)) m) → Q (.ref l) H') : spMis K C [.ref h, .int (t : Int)] H Q E := ⟨h, lp, m, lt, t, tk, cl, rfl, hA, ht, hz, k⟩
theorem h_fm (hA : HallAt C H h m tk cl lt lp) (hT : Tabs (TT K) H) (k : ∀ v H', Ext K H H' → MistV tk cl m v → Q v H') : spFm K C [.ref h] H Q E := ⟨h, lp, m, lt, tk, cl, rfl, hA, hT, k⟩
end Rd
end Tk

/-! ### Mistakes: when there are some -/
namespace Tk
open PySem PySem.Spec PyProof.Rows L2 Mm LamX
theorem mem_res {a b d m x : Nat} : x ∈ resL a b d m ↔ a ≤ x ∧ x < b ∧ x % m = d := by
  unfold resL
  rw [List.mem_filter, List.mem_map]
  constructor
  · rintro ⟨⟨i, hi, rfl⟩, h⟩
    have := List.mem_range.mp hi
    exact ⟨by omega, by omega, of_decide_eq_true h⟩
  · rintro ⟨h1, h2, h3⟩
    exact ⟨⟨x - a, List.mem_range.mpr (by omega), by omega⟩, decide_eq_true h3⟩
theorem mem_misP {s c e m n o : Nat} : (n, o) ∈ misP s c e m ↔ s ≤ n ∧ n < c ∧ c ≤ o ∧ o < e ∧ o % m = n % m := by
  unfold misP
  rw [List.mem_flatMap]
  constructor
  · rintro ⟨i, hi, h⟩
    have := List.mem_range.mp hi
    obtain ⟨x, hx, ex⟩ := List.mem_map.mp h
    obtain ⟨rfl, rfl⟩ := Prod.mk.inj ex
    obtain ⟨a1, a2, a3⟩ := mem_res.mp hx
    exact ⟨by omega, by omega, a1, a2, a3⟩
  · rintro ⟨h1, h2, h3, h4, h5⟩
    exact ⟨n - s, List.mem_range.mpr (by omega), List.mem_map.mpr ⟨o, mem_res.mpr ⟨h3, h4, by rw [show s + (n - s) = n by omega]; exact h5⟩, by rw [show s + (n - s) = n by omega]⟩⟩
theorem misP_nil {s c e m : Nat} (h : ¬ (s < c ∧ c < e ∧ m < e - s)) (hm : 0 < m) : misP s c e m = [] := by
  refine List.eq_nil_iff_forall_not_mem.mpr fun ⟨n, o⟩ hx => h ?_
  obtain ⟨h1, h2, h3, h4, h5⟩ := mem_misP.mp hx
  refine ⟨by omega, by omega, ?_⟩
  have e : (o - n) % m = 0 := Nat.sub_mod_eq_zero_of_mod_eq h5
  have := Nat.le_of_dvd (by omega) (Nat.dvd_of_mod_eq_zero e)
  omega
theorem misP_some {s c e m : Nat} (h1 : s < c) (h2 : c < e) (h3 : m < e - s) (hm : 0 < m) : misP s c e m ≠ [] := by
  intro z
  have : (max s (c - m), max s (c - m) + m) ∈ misP s c e m := mem_misP.mpr ⟨by omega, by omega, by omega, by omega, Nat.add_mod_right _ _⟩
  rw [z] at this
  cases this
section
variable {tk cl : List Nat} {m t : Nat}
theorem mex_pos (h : 0 < mex tk cl m t) : cal tk cl (t + 1) < tak tk (t + 1) ∧ m < tak tk (t + 1) - cal tk cl t := by
  unfold mex at h
  have := wt_cal (tk := tk) (cl := cl) (t + 1)
  omega
theorem mex_neg (h : mex tk cl m t ≤ 0) : ¬ (cal tk cl (t + 1) < tak tk (t + 1) ∧ m < tak tk (t + 1) - cal tk cl t) := by
  unfold mex at h
  have := wt_cal (tk := tk) (cl := cl) (t + 1)
  omega
/-- no mistake in a tick -/
theorem mis_none (hm : 0 < m) (h : calls tk cl t = true → mex tk cl m t ≤ 0) : misD (cal tk cl t) (cal tk cl (t + 1)) (tak tk (t + 1)) m = [] ∧ (calls tk cl t = true → wt tk cl (t + 1) ≤ m) := by
  have c0 := cal_mono (tk := tk) (cl := cl) (show t ≤ t + 1 by omega)
  have w := wt_cal (tk := tk) (cl := cl) (t + 1)
  refine ⟨?_, fun hc => ?_⟩
  · rw [misD_map, misP_nil ?_ hm]
    · rfl
    · rintro ⟨a, b, c⟩
      exact mex_neg (h (decide_eq_true a)) ⟨b, c⟩
  · have := mex_neg (h hc)
    omega
theorem none_few (h2 : Pat cl) (hm : 0 < m) (h : calls tk cl t = true → mex tk cl m t ≤ 0) : wt tk cl (t + 1) / m * (cal tk cl (t + 1) - cal tk cl t) ≤ 1000 := by
  by_cases hc : calls tk cl t = true
  · have a := (mis_none hm h).2 hc
    have b : wt tk cl (t + 1) / m ≤ 1 := by
      have := Nat.div_le_div_right (c := m) a
      rwa [Nat.div_self hm] at this
    have c : cal tk cl (t + 1) - cal tk cl t ≤ 9 := by
      rw [cal_succ]
      have := atp_le h2.nine t
      omega
    have := Nat.mul_le_mul b c
    omega
  · have : ¬ cal tk cl t < cal tk cl (t + 1) := fun q => hc (decide_eq_true q)
    rw [show cal tk cl (t + 1) - cal tk cl t = 0 by omega, Nat.mul_zero]
    exact Nat.zero_le _
/-- the waiting ones grow by nine a tick at most -/
theorem wt_ups (h1 : Pat tk) (t : Nat) : ∀ k, wt tk cl (t + k) ≤ wt tk cl t + 9 * k
  | 0 => Nat.le_refl _
  | k + 1 => by
    have := wt_ups h1 t k
    have a := wt_succ (tk := tk) (cl := cl) (t + k)
    have b := atp_le h1.nine (t + k)
    rw [show t + (k + 1) = t + k + 1 by omega]
    omega
theorem atp_back {ps : List Nat} (h : 0 < ps.length) {t s : Nat} (e : t % ps.length = s % ps.length) : atp ps t = atp ps s := by
  unfold atp
  rw [e]
/-- few wait in the first tick with a mistake -/
theorem first_few (h1 : Pat tk) (h2 : Pat cl) (hm : 2 ≤ m) (hc : calls tk cl t = true) (hb : ∀ s, s < t → calls tk cl s = true → mex tk cl m s ≤ 0) : wt tk cl (t + 1) ≤ m + 108 ∧ wt tk cl (t + 1) / m * (cal tk cl (t + 1) - cal tk cl t) ≤ 1000 := by
  have l12 := h2.len
  have l0 := h2.pos
  have at0 : 0 < atp cl t := by
    have : cal tk cl t < cal tk cl (t + 1) := of_decide_eq_true hc
    rw [cal_succ] at this
    omega
  have key : wt tk cl (t + 1) ≤ m + 108 := by
    rcases Nat.lt_or_ge t cl.length with q | q
    · have := wt_ups (cl := cl) h1 0 (t + 1)
      have w0 : wt tk cl 0 = 0 := by
        have := wt_cal (tk := tk) (cl := cl) 0
        have : tak tk 0 = 0 := rfl
        omega
      rw [Nat.zero_add, w0] at this
      omega
    · have e : atp cl (t - cl.length) = atp cl t := atp_back l0 (by
        have := Nat.add_mod_right (t - cl.length) cl.length
        rw [show t - cl.length + cl.length = t by omega] at this
        exact this.symm)
      have up := wt_ups (cl := cl) h1 (t - cl.length + 1) cl.length
      rw [show t - cl.length + 1 + cl.length = t + 1 by omega] at up
      have : wt tk cl (t - cl.length + 1) ≤ m := by
        by_cases hc2 : calls tk cl (t - cl.length) = true
        · exact (mis_none (by omega) fun _ => hb _ (by omega) hc2).2 hc2
        · have n : ¬ cal tk cl (t - cl.length) < cal tk cl (t - cl.length + 1) := fun q => hc2 (decide_eq_true q)
          rw [cal_succ] at n
          rw [wt_succ]
          omega
      omega
  refine ⟨key, ?_⟩
  have c : cal tk cl (t + 1) - cal tk cl t ≤ 9 := by
    rw [cal_succ]
    have := atp_le h2.nine t
    omega
  have d : wt tk cl (t + 1) / m ≤ 59 := by
    refine Nat.div_le_of_le_mul ?_
    have : m * 59 ≥ m + 116 := by omega
    omega
  have := Nat.mul_le_mul d c
  omega
theorem mex_steps (h1 : Pat tk) (h2 : Pat cl) (ht : per tk cl ≤ t) : ∀ k : Nat, mex tk cl m (t + k * per tk cl) = mex tk cl m t + (k : Int) * (grow tk cl : Int) :=
  fun k => step_e (fun _ h => mex_step h1 h2 h) ht k
theorem calls_steps (h1 : Pat tk) (h2 : Pat cl) (ht : per tk cl ≤ t) : ∀ k : Nat, calls tk cl (t + k * per tk cl) = calls tk cl t := fun k => step_k (fun _ h => calls_step h1 h2 h) ht k
theorem mex_low : -(m : Int) ≤ mex tk cl m t := by
  unfold mex
  have := cal_le (tk := tk) (cl := cl) t
  have := tak_mono (tk := tk) (show t ≤ t + 1 by omega)
  omega
theorem mist_bound (h1 : Pat tk) (h2 : Pat cl) (hm : m ≤ 10000) (hc : calls tk cl t = true) (h0 : 0 < mex tk cl m t) (hb : ∀ s, s < t → calls tk cl s = true → mex tk cl m s ≤ 0) : t ≤ 2000000 := by
  refine Nat.le_of_not_lt fun ge => ?_
  have p0 := per_pos h1.pos h2.pos
  have p144 := per_144 h1 h2
  have hq : 10002 * per tk cl ≤ 10002 * 144 := Nat.mul_le_mul_left _ p144
  have back : ∀ k, k ≤ 10002 → per tk cl ≤ t - k * per tk cl ∧ t - k * per tk cl + k * per tk cl = t := fun k hk => by
    have := Nat.mul_le_mul_right (per tk cl) hk
    exact ⟨by omega, by omega⟩
  obtain ⟨b1, b2⟩ := back 10002 (Nat.le_refl _)
  have m1 := mex_steps (m := m) h1 h2 b1 10002
  have c1 := calls_steps h1 h2 b1 10002
  rw [b2] at m1 c1
  have lo := mex_low (tk := tk) (cl := cl) (m := m) (t := t - 10002 * per tk cl)
  by_cases g : grow tk cl = 0
  · have := hb (t - 10002 * per tk cl) (by omega) (by rw [← c1]; exact hc)
    rw [g] at m1
    simp at m1
    omega
  · have m2 := mex_steps (m := m) h1 h2 b1 10001
    have c2 := calls_steps h1 h2 b1 10001
    have := hb (t - 10002 * per tk cl + 10001 * per tk cl) (by omega) (by rw [c2, ← c1]; exact hc)
    have g1 : (1 : Int) ≤ (grow tk cl : Int) := by omega
    have := Int.mul_le_mul_of_nonneg_left g1 (show (0 : Int) ≤ ((10001 : Nat) : Int) by omega)
    omega
/-- a hall that grows and calls has a mistake -/
theorem grow_mist (h1 : Pat tk) (h2 : Pat cl) (g : 0 < grow tk cl) (hs : 0 < cl.sum) (h : ∀ t, calls tk cl t = true → mex tk cl m t ≤ 0) : False := by
  have p0 := per_pos h1.pos h2.pos
  have l0 := h2.pos
  -- a tick with calls
  obtain ⟨i, hi, hx⟩ : ∃ i, i < cl.length ∧ 0 < atp cl i := by
    refine Classical.byContradiction fun no => ?_
    have z : ∀ i, i ≤ cl.length → tak cl i = 0 := fun i => by
      induction i with
      | zero => intro _; rfl
      | succ i ih =>
        intro hi
        have a := ih (by omega)
        have b : ¬ 0 < atp cl i := fun q => no ⟨i, by omega, q⟩
        show tak cl i + atp cl i = 0
        omega
    have e := take_sum cl cl.length (Nat.le_refl _)
    rw [List.take_length, z _ (Nat.le_refl _)] at e
    omega
  obtain ⟨q, hq⟩ := per_cl (tk := tk) (cl := cl)
  have at2 : atp cl (i + 3 * per tk cl) = atp cl i := atp_back l0 (by rw [hq, show 3 * (cl.length * q) = cl.length * (3 * q) by rw [Nat.mul_left_comm], Nat.add_mul_mod_self_left])
  have w2 : 0 < wt tk cl (i + 3 * per tk cl) := by
    have := wt_step h1 h2 (t := i + 2 * per tk cl - 1) (by omega)
    rw [show i + 2 * per tk cl - 1 + 1 + per tk cl = i + 3 * per tk cl by omega] at this
    omega
  have hc : calls tk cl (i + 3 * per tk cl) = true := by
    refine decide_eq_true ?_
    rw [cal_succ, at2]
    omega
  have b1 : per tk cl ≤ i + 3 * per tk cl := by omega
  have := h _ ((calls_steps h1 h2 b1 (m + 1)).trans hc)
  rw [mex_steps h1 h2 b1] at this
  have lo := mex_low (tk := tk) (cl := cl) (m := m) (t := i + 3 * per tk cl)
  have g1 : (1 : Int) ≤ (grow tk cl : Int) := by omega
  have := Int.mul_le_mul_of_nonneg_left g1 (show (0 : Int) ≤ ((m + 1 : Nat) : Int) by omega)
  omega
end
/-- a pair's reading -/
theorem dp_pair {K : PySem.W.Frag} {H : Hp} {v : V} {p : Nat × Nat} (h : L2.Dp K H v (dPair p)) : ∃ r, v = .ref r ∧ SqT K H r [vn p.1, vn p.2] := by
  cases h with
  | tup h1 h2 =>
    cases h2 with
    | cons a b =>
      cases b with
      | cons c d =>
        cases d
        cases a
        cases c
        exact ⟨_, rfl, h1⟩
end Tk
namespace Tk
open PySem PySem.Spec PyProof.Rows L2 Mm LamX
theorem sml_mis {tk cl : List Nat} {m t n : Nat} (h2 : Pat cl) (hm : 0 < m) (hz : wt tk cl (t + 1) / m * (cal tk cl (t + 1) - cal tk cl t) ≤ 1000) : (misD (cal tk cl t) (cal tk cl (t + 1)) (tak tk (t + 1)) m).length ≤ 1009 ∧ Sml (n + 3) (.list (misD (cal tk cl t) (cal tk cl (t + 1)) (tak tk (t + 1)) m)) := by
  have c : cal tk cl (t + 1) - cal tk cl t ≤ 9 := by
    rw [cal_succ]
    have := atp_le h2.nine t
    omega
  have w := wt_cal (tk := tk) (cl := cl) (t + 1)
  have l := misD_len (s := cal tk cl t) (c := cal tk cl (t + 1)) (e := tak tk (t + 1)) (m := m) hm
  rw [show tak tk (t + 1) - cal tk cl (t + 1) = wt tk cl (t + 1) by omega, Nat.mul_add, Nat.mul_one, Nat.mul_comm] at l
  have l2 : (misD (cal tk cl t) (cal tk cl (t + 1)) (tak tk (t + 1)) m).length ≤ 1009 := by omega
  refine ⟨l2, by omega, fun x hx => ?_⟩
  rw [misD_map] at hx
  obtain ⟨p, _, rfl⟩ := List.mem_map.mp hx
  exact ⟨by show 2 ≤ 100000; decide, fun y hy => by
    rcases List.mem_cons.mp hy with rfl | hy
    · trivial
    · rw [List.mem_singleton.mp hy]
      trivial⟩
theorem sml_nil {n : Nat} : Sml (n + 1) (.list []) := ⟨by decide, fun _ h => by cases h⟩
theorem sum_vn (ns : List Nat) : (ns.map fun n : Nat => (n : Int)).sum = ((ns.sum : Nat) : Int) := by
  induction ns with
  | nil => rfl
  | cons x r ih => simp [ih]
end Tk

namespace Tk
open PySem PySem.Spec PyProof.Rows L2 Mm LamX
/-- what holds all along -/
structure Env4 (K : PySem.W.Frag) (C : Addr) (H : Hp) (d : Addr) (cs : List V) (t hh : Addr) (m : Nat) (tp : Addr) (tk : List Nat) (cp : Addr) (cl : List Nat) (lt : Nat) (lp : Addr) : Prop where
  prt : PartsAt H t m tp tk cp cl lt
  hall : HallAt C H hh m tk cl lt lp
  tb : Tabs (TT K) H
  src : H d = some (.lst cs)
section
variable {K : PySem.W.Frag} {C : Addr} {H H' : Hp} {d t hh lp tp cp : Addr} {cs : List V} {m lt : Nat} {tk cl : List Nat}
theorem Env4.ext (e : Env4 K C H d cs t hh m tp tk cp cl lt lp) (b : Ext K H H') : Env4 K C H' d cs t hh m tp tk cp cl lt lp := ⟨e.prt.ext b, e.hall.ext b, b.2, b.lst e.src⟩
theorem Env4.same (e : Env4 K C H d cs t hh m tp tk cp cl lt lp) (b : Same H H') : Env4 K C H' d cs t hh m tp tk cp cl lt lp := e.ext (.of e.tb b)
end
end Tk

/-! ### Slices -/
namespace Tk
open PySem PySem.Spec PyProof.Rows L2
theorem cut_pre (xs : List V) (n : Nat) : cutV xs none (some (n : Int)) = xs.take n := by
  unfold cutV
  rw [HT.sIx_none, HT.sIx_nat, List.drop_zero, Nat.sub_zero]
  rcases Nat.le_total n xs.length with h | h
  · rw [Nat.min_eq_left h]
  · rw [Nat.min_eq_right h, List.take_of_length_le h, List.take_length]
theorem cut_preI (xs : List V) {z : Int} {n : Nat} (e : z = (n : Int)) : cutV xs none (some z) = xs.take n := by
  rw [e]
  exact cut_pre xs n
theorem cut_suf (xs : List V) (n : Nat) : cutV xs (some (n : Int)) none = xs.drop n := by
  unfold cutV
  rw [HT.sIx_none, HT.sIx_nat]
  rcases Nat.le_total n xs.length with h | h
  · rw [Nat.min_eq_left h, List.take_of_length_le (by simp)]
  · rw [Nat.min_eq_right h, List.drop_of_length_le h]
    simp
theorem cut_sufI (xs : List V) {z : Int} {n : Nat} (e : z = (n : Int)) : cutV xs (some z) none = xs.drop n := by
  rw [e]
  exact cut_suf xs n
theorem cut_mid (xs : List V) (a b : Nat) : cutV xs (some (a : Int)) (some (b : Int)) = (xs.drop a).take (b - a) := by
  unfold cutV
  rw [HT.sIx_nat, HT.sIx_nat]
  refine List.ext_getElem? fun i => ?_
  rw [List.getElem?_take, List.getElem?_take, List.getElem?_drop, List.getElem?_drop]
  rcases Nat.le_total a xs.length with h | h
  · rw [Nat.min_eq_left h]
    by_cases c : i < b - a
    · by_cases c2 : i < min b xs.length - a
      · rw [if_pos c, if_pos c2]
      · rw [if_pos c, if_neg c2, List.getElem?_eq_none (by omega)]
    · rw [if_neg c, if_neg (by omega)]
  · rw [Nat.min_eq_right h, if_neg (by omega)]
    split
    · rw [List.getElem?_eq_none (by omega)]
    · rfl
/-- without the last item -/
theorem cut_init (xs : List V) : cutV xs none (some (-1)) = xs.dropLast := by
  unfold cutV
  rw [HT.sIx_none]
  have e : HT.sIx xs.length xs.length (some (-1)) = xs.length - 1 := by
    show (if (-1 : Int) < 0 then ((-1 : Int) + (xs.length : Int)).toNat else min (-1 : Int).toNat xs.length) = _
    rw [if_pos (by decide)]
    omega
  rw [e, List.drop_zero, List.dropLast_eq_take]
  rfl
end Tk

/-! ### Tuples cut, joined, repeated: what stands there is tracked -/
namespace Tk
open PySem PySem.Spec PyProof.Rows L2 Mm
namespace Rd
variable {K : PySem.W.Frag} {H : Hp} {Q : VK}
theorem repTr {l : Addr} {xs : List V} {k : Int} (hq : H l = some (.tup xs)) (hne : xs ≠ []) (h2 : 2 ≤ k) (hk : k ≤ 1000) (hl : xs.length ≤ 1000) (kk : ∀ p H', H p = none → Same H H' → H' p = some (.tup (List.replicate k.toNat xs).flatten) → Q (.ref p) H') : rRepT K (.ref l) (.int k) H Q :=
  ⟨l, k, xs, rfl, rfl, SqT.of hq, hne, h2, hk, hl, fun p hp => kk p _ hp (Same.nw hp (Same.refl H)) upd_same⟩
end Rd
theorem flat_map (k : Nat) (ps : List Nat) : (List.replicate k (ps.map vn)).flatten = ((List.replicate k ps).flatten).map vn := by
  rw [List.map_flatten, List.map_replicate]
end Tk

/-! ### Frozen tuples: displays, sums, repetitions -/
namespace Tk
open PySem PySem.Spec PyProof.Rows L2
theorem ne_nw {H : Hp} {b d : Addr} {o : HO} (n : H b = none) (hd : H d = some o) : b ≠ d := fun e => by rw [e, hd] at n; cases n
namespace Rd
variable {K : PySem.W.Frag} {σ : L2.St} {H : Hp} {Q : VK} {te : TE} {R : List V → Hp → Prop}
theorem tupFc {v : V} (k : ∀ p H', H p = none → Same H H' → Cn.FzT H' p [v] → Q (.ref p) H') : Cn.tTupF (tCons (tC v) tNil) σ H Q :=
  ⟨by show 1 ≤ sizeLine; decide, fun p o np ho => k p _ np (Same.nw np (Same.refl H)) ⟨o, upd_same, ho⟩⟩
theorem catFz {a b : Addr} {xs ys : List V} (hx : SqT K H a xs) (hy : SqT K H b ys) (nx : xs ≠ []) (ny : ys ≠ []) (hl : xs.length + ys.length ≤ 1000) (k : ∀ p H', H p = none → Same H H' → Cn.FzT H' p (xs ++ ys) → Q (.ref p) H') : Cn.rCatF K (.ref a) (.ref b) H Q :=
  ⟨a, b, xs, ys, rfl, rfl, hx, hy, Nat.le_trans hl (by decide), fun e => absurd e nx, fun _ e => absurd e ny, fun _ _ p o np ho => k p _ np (Same.nw np (Same.refl H)) ⟨o, upd_same, ho⟩⟩
/-- a sum, either side may be empty -/
theorem catZ {a b : Addr} {xs ys : List V} (hx : SqT K H a xs) (hy : SqT K H b ys) (hl : xs.length + ys.length ≤ 1000) (k : ∀ p H', Same H H' → SqT K H' p (xs ++ ys) → Q (.ref p) H') : Cn.rCatF K (.ref a) (.ref b) H Q :=
  ⟨a, b, xs, ys, rfl, rfl, hx, hy, Nat.le_trans hl (by decide), fun e => k b H (Same.refl H) (by rw [e]; exact hy), fun _ e => k a H (Same.refl H) (by rw [e, List.append_nil]; exact hx),
    fun _ _ p o np ho => k p _ (Same.nw np (Same.refl H)) (Cn.FzT.sq ⟨o, upd_same, ho⟩)⟩
/-- a tuple, tracked or frozen -/
def TF (H : Hp) (p : Addr) (xs : List V) : Prop := H p = some (.tup xs) ∨ Cn.FzT H p xs
theorem TF.same {H H' : Hp} {p : Addr} {xs : List V} (h : TF H p xs) (S : Same H H') : TF H' p xs := h.imp (fun z => S _ _ z) fun z => z.same S
theorem TF.drw {d : Addr} {cs : List V} {H H' : Hp} {p : Addr} {xs : List V} (h : TF H p xs) (B : But d H H') (hd : H d = some (.lst cs)) : TF H' p xs := h.imp (fun z => B _ _ (ne_of z hd (fun q => by cases q)) z) fun z => z.but B (z.nel hd)
theorem TF.sq {H : Hp} {p : Addr} {xs : List V} (h : TF H p xs) : SqT K H p xs := h.elim SqT.of Cn.FzT.sq
/-- a sum, the right side tracked and not empty -/
theorem catP {a b : Addr} {xs ys : List V} (hx : SqT K H a xs) (hy : H b = some (.tup ys)) (ny : ys ≠ []) (hl : xs.length + ys.length ≤ 1000) (k : ∀ p H', Same H H' → TF H' p (xs ++ ys) → Q (.ref p) H') : Cn.rCatF K (.ref a) (.ref b) H Q :=
  ⟨a, b, xs, ys, rfl, rfl, hx, SqT.of hy, Nat.le_trans hl (by decide), fun e => k b H (Same.refl H) (.inl (by rw [e]; exact hy)), fun _ e => absurd e ny,
    fun _ _ p o np ho => k p _ (Same.nw np (Same.refl H)) (.inr ⟨o, upd_same, ho⟩)⟩
theorem idxW {p : Addr} {ys : List V} {y z : V} {j : Nat} (h : SqL K H p ys) (fy : flatV y = true) (fs : ys.all flatV = true) (hz : ys[j]? = some z) (he : eqV z y = true) (hno : (ys.take j).all (fun z => !eqV z y) = true) (k : Q (.int j) H) : rIndex K (.ref p) [y] H Q :=
  ⟨p, ys, y, j, z, rfl, rfl, h, fy, fs, hz, he, fun m z' hm hm' => by
    have : (!eqV z' y) = true := List.all_eq_true.mp hno z' (List.mem_of_getElem? (by rw [List.getElem?_take_of_lt hm]; exact hm'))
    simpa using this, k⟩
theorem repF {l : Addr} {xs : List V} {k : Int} (hq : SqT K H l xs) (hne : xs ≠ []) (h2 : 2 ≤ k) (hk : k ≤ 1000) (hl : xs.length ≤ 1000) (kk : ∀ p H', H p = none → Same H H' → H' p = some (.tup (List.replicate k.toNat xs).flatten) → Q (.ref p) H') : rRepT K (.ref l) (.int k) H Q :=
  ⟨l, k, xs, rfl, rfl, hq, hne, h2, hk, hl, fun p hp => kk p _ hp (Same.nw hp (Same.refl H)) upd_same⟩
end Rd
end Tk

/-! ### What _law_error_of does with a call -/
namespace Tk
open PySem PySem.Spec PyProof.Rows L2 Mm LamX
section
variable {K : PySem.W.Frag} {H : Hp} {Q : VK} {E : XK} {σ : L2.St}
/-- what _law_error_of does with a call -/
theorem Rd.errH {t : XK → TE} (ht : Tabs (TT K) H) (k : ∀ H1, Ext K H H1 → ∀ E : XK, (∀ (e : Ex.Er) cls d H', e.Is K cls d H' → (∀ r H'', Same H' H'' → L2.Dp K H'' (.ref r) e.data → Q (.ref r) H'') → E cls d H') → t E σ H1 fun _ H' => Q .non H') : LamX.tLam (TT K) (Ex.TTerr K) t σ H Q :=
  ⟨ht, fun H1 e1 t1 => k H1 ⟨e1, t1⟩ _ fun e _ _ _ he kq => ⟨e, he, kq⟩⟩
theorem raise_hall {w : Str} {i : Nat} {R : Addr → Hp → Prop} (hE : ∀ (e : Ex.Er) cls d H', e.Is K cls d H' → (∀ r H'', Same H' H'' → L2.Dp K H'' (.ref r) e.data → R r H'') → E cls d H')
    (kq : ∀ r H'', Same H H'' → L2.Dp K H'' (.ref r) (.tuple [.str "hall", .tuple [.str w, .int (i : Int)]]) → R r H'') : RaisesH K E H w i := fun d _ _ S h =>
  hE (.hall w i) _ _ _ ⟨rfl, d, rfl, h⟩ fun r H'' S2 D => kq r H'' (S.trans S2) D
end
end Tk

/-! ### Errors as data, compared with what a law expects -/
namespace Tk
open PySem PySem.Spec PyProof.Rows L2 Mm LamX
section
variable {K : PySem.W.Frag} {H : Hp} {Q : VK}
theorem Rd.ne_er {r : Addr} {v : V} {e : Ex.Er} (he : e.Ok) (D : L2.Dp K H (.ref r) e.data) (Dv : L2.Dp K H v e.data) (k : Q (.bl false) H) : rNeD K (.ref r) v H Q := by
  have sm : Sml 8 e.data := (Ex.Er.sml (n := 5) he).up (by decide)
  refine ned (d := e.data) (e := e.data) D Dv sm sm ?_
  simp only [decide_true, Bool.not_true]
  exact k
theorem dp_one {q : Addr} {x : Str} (hq : SqT K H q [.str x, .int 0]) : L2.Dp K H (.ref q) (Ex.Er.one x).data := .tup hq (.cons (.str _) (.cons (.int _) .nil))
theorem dp_at {q : Addr} {x : Str} {i : Int} (hq : SqT K H q [.str x, .int i]) : L2.Dp K H (.ref q) (Ex.Er.at_ x i).data := .tup hq (.cons (.str _) (.cons (.int _) .nil))
theorem dp_hallE {q u : Addr} {x : Str} {i : Int} (hq : SqT K H q [.str "hall", .ref u]) (hu : SqT K H u [.str x, .int i]) : L2.Dp K H (.ref q) (Ex.Er.hall x i).data := .tup hq (.cons (.str _) (.cons (.tup hu (.cons (.str _) (.cons (.int _) .nil))) .nil))
end
end Tk

/-! ### Patterns that are wrong, and the place that is told -/
namespace Tk
open PySem PySem.Spec PyProof.Rows L2 Mm
namespace Bn
/-! values that are wrong, as the law makes them -/
def XI (xs : List Nat) (i : Nat) : Prop := (xs = [] ∧ i = 0) ∨ (∃ ys, xs = ys ++ [10] ∧ (∀ y ∈ ys, y ≤ 9) ∧ 0 < ys.length ∧ ys.length < 12 ∧ i = ys.length) ∨ (12 < xs.length ∧ (∀ y ∈ xs, y ≤ 9) ∧ i = 12)
theorem inB_no {lo hi z : Int} (h : ¬ (lo ≤ z ∧ z ≤ hi)) : inB lo hi (.int z) = false := by
  show (decide (lo ≤ z) && decide (z ≤ hi)) = false
  rw [← Bool.decide_and]
  exact decide_eq_false h
theorem xi_bad {xs : List Nat} {i : Nat} (h : XI xs i) : badIx (xs.map vn) = some i := by
  have at_ : ∀ (j : Nat) (y : Nat), xs[j]? = some y → y ≤ 9 → j ≠ 12 → badAt (xs.map vn) j = false := fun j y e h9 h12 => by
    have g : (xs.map vn).getD j .non = vn y := by rw [List.getD_eq_getElem?_getD, List.getElem?_map, e]; rfl
    unfold badAt
    rw [beq_eq_false_iff_ne.mpr h12, g, inB_in (by omega) (by omega)]
    rfl
  rcases h with ⟨rfl, rfl⟩ | ⟨ys, rfl, h9, h0, h12, rfl⟩ | ⟨h12, h9, rfl⟩
  · rfl
  · unfold badIx
    rw [if_neg (by simp), List.find?_range_eq_some]
    refine ⟨?_, by simp, fun j hj => ?_⟩
    · have g : ((ys ++ [10]).map vn).getD ys.length .non = vn 10 := by rw [List.getD_eq_getElem?_getD, List.getElem?_map, List.getElem?_append_right (Nat.le_refl _), Nat.sub_self]; rfl
      unfold badAt
      rw [g, inB_no (by omega)]
      simp
    · have e : (ys ++ [10])[j]? = some ys[j] := by rw [List.getElem?_append_left hj, List.getElem?_eq_getElem hj]
      rw [at_ j _ e (h9 _ (List.getElem_mem hj)) (by omega)]
      rfl
  · unfold badIx
    rw [if_neg (by cases xs with | nil => cases h12 | cons _ _ => simp), List.find?_range_eq_some]
    refine ⟨by simp [badAt], by simpa using h12, fun j hj => ?_⟩
    have lt : j < xs.length := by omega
    rw [at_ j _ (List.getElem?_eq_getElem lt) (h9 _ (List.getElem_mem lt)) (by omega)]
    rfl
theorem badIx_at {xs r : List V} {y : V} (h : ∀ x ∈ xs, inB 0 9 x = true) (hl : xs.length ≤ 11) (hy : inB 0 9 y = false) : badIx (xs ++ y :: r) = some xs.length := by
  unfold badIx
  rw [if_neg (by simp), List.find?_range_eq_some]
  refine ⟨?_, by simp, fun j hj => ?_⟩
  · have g : (xs ++ y :: r).getD xs.length .non = y := by rw [List.getD_eq_getElem?_getD, List.getElem?_append_right (Nat.le_refl _), Nat.sub_self]; rfl
    unfold badAt
    rw [g, hy]
    simp
  · have g : (xs ++ y :: r).getD j .non = xs[j] := by rw [List.getD_eq_getElem?_getD, List.getElem?_append_left hj, List.getElem?_eq_getElem hj]; rfl
    unfold badAt
    rw [g, h _ (List.getElem_mem hj), beq_eq_false_iff_ne.mpr (by omega)]
    rfl
theorem PIx.of_tup {H : Hp} {p : Addr} {xs : List V} {i : Nat} (h : H p = some (.tup xs)) (ha : ∀ x ∈ xs, Arg H x) (hi : badIx xs = some i) : PIx H (.ref p) (some i) := by
  rw [← hi]
  exact .tup h ha
end Bn
end Tk

section
local macro_rules | `(tactic| walk_at "hp") => `(tactic| first
  | assumption
  | with_reducible exact L2.upd_same
  | ((with_reducible refine' Tk.Same.get ?k0 ?k1); (case k0 => assumption); (case k1 => walk_at "hp"))
  | fail "hp")
local macro_rules | `(tactic| walk_at "same") => `(tactic| first
  | assumption
  | exact L2.Same.refl _
  | ((with_reducible refine' Tk.Same.nw ?k0 ?k1); (case k0 => assumption); (case k1 => walk_at "same"))
  | ((with_reducible refine' Tk.Same.tr ?k0 ?k1); (case k0 => assumption); (case k1 => walk_at "same")))
local macro_rules | `(tactic| walk_at "sql") => `(tactic| first
  | assumption
  | ((with_reducible refine' L2.SqL.of ?k0); (case k0 => walk_at "hp"))
  | ((with_reducible refine' L2.Same.seq ?k0 ?k1); (case k0 => assumption); (case k1 => walk_at "sql")))
local macro_rules | `(tactic| walk_at "sqt") => `(tactic| first
  | assumption
  | ((with_reducible refine' L2.SqT.of ?k0); (case k0 => walk_at "hp"))
  | ((with_reducible refine' Tk.sqt_sm ?k0 ?k1); (case k0 => assumption); (case k1 => walk_at "sqt")))
local macro_rules | `(tactic| walk_at "sz") => `(tactic| first
  | (show (_ : Nat) ≤ 1000; decide)
  | (simp; done)
  | (simp; omega))
local macro_rules | `(tactic| walk_at "szb") => `(tactic| first
  | assumption
  | (show (_ : Nat) ≤ 100000; decide)
  | (simp; done)
  | (simp; omega))
local macro_rules | `(tactic| walk_at "dp") => `(tactic| first
  | assumption
  | with_reducible exact L2.Dp.non
  | with_reducible exact L2.Dp.int _
  | with_reducible exact L2.Dp.str _
  | with_reducible exact L2.Dp.bl _
  | ((with_reducible refine' L2.Dp.lst ?k0 ?k1); (case k0 => walk_at "sql"); (case k1 => walk_at "dpa"))
  | ((with_reducible refine' L2.Dp.tup ?k0 ?k1); (case k0 => walk_at "sqt"); (case k1 => walk_at "dpa"))
  | ((with_reducible refine' Tk.dp_sm ?k0 ?k1); (case k0 => assumption); (case k1 => walk_at "dp"))
  | fail "dp")
local macro_rules | `(tactic| walk_at "dpa") => `(tactic| first
  | assumption
  | with_reducible exact L2.DpAll.nil
  | ((with_reducible refine' L2.DpAll.cons ?k0 ?k1); (case k0 => walk_at "dp"); (case k1 => walk_at "dpa"))
  | with_reducible exact Tk.dp_nats _
  | ((with_reducible refine' Tk.dpA_sm ?k0 ?k1); (case k0 => assumption); (case k1 => walk_at "dpa"))
  | fail "dpa")
local macro_rules | `(tactic| walk_at "ci") => `(tactic| first
  | exact .inl ⟨by decide, by decide⟩
  | exact .inr ⟨by decide, by decide⟩
  | exact .inl ⟨by omega, by omega⟩
  | exact .inr ⟨by omega, by omega⟩
  | exact ⟨by decide, by decide⟩
  | exact ⟨by omega, by omega⟩
  | (show (0 : Int) < _; decide)
  | (show (0 : Int) < _; omega))
local macro_rules | `(tactic| walk_at "rd1") => `(tactic| first
  | with_reducible refine Tk.Rd.seq ?_
  | with_reducible refine Tk.Rd.star ?_
  | with_reducible refine Tk.Rd.int1_i ?_
  | with_reducible refine Tk.Rd.int1_b ?_
  | with_reducible refine Tk.Rd.tlc2 ?_
  | with_reducible refine Tk.Rd.lrg3 ?_
  | with_reducible refine Tk.Rd.lrg ?_
  | with_reducible refine Tk.Rd.rg1 ?_
  | with_reducible refine Tk.Rd.rg1K_i ?_
  | with_reducible refine Tk.Rd.rg2 ?_
  | with_reducible refine Tk.Rd.rg2K_i ?_
  | ((with_reducible refine' Tk.Rd.catL ?k0 ?k1 ?k2 fun p H' np S hp => ?_); (case k0 => walk_at "hp"); (case k1 => walk_at "hp"); (case k2 => walk_at "szb"))
  | ((with_reducible refine' Tk.Rd.starK_t ?k0 ?_); (case k0 => walk_at "sqt"))
  | ((with_reducible refine' Tk.Rd.starK_l ?k0 ?_); (case k0 => walk_at "sql"))
  | ((with_reducible refine' Tk.Rd.var ?k0 ?_); (case k0 => exact rfl))
  | with_reducible refine Tk.Rd.c ?_
  | with_reducible refine Tk.Rd.op ?_
  | with_reducible refine Tk.Rd.i0 ?_
  | with_reducible refine Tk.Rd.asg ?_
  | with_reducible refine Tk.Rd.name ?_
  | with_reducible refine Tk.Rd.cons ?_
  | with_reducible refine Tk.Rd.nil ?_
  | with_reducible refine Tk.Rd.call ?_
  | with_reducible refine Tk.Rd.callK_i ?_
  | with_reducible refine Tk.Rd.tst ?_
  | with_reducible refine Tk.Rd.bv ?_
  | with_reducible refine Tk.Rd.toB_i ?_
  | with_reducible refine Tk.Rd.ift ?_
  | with_reducible refine Tk.Rd.iff ?_
  | with_reducible refine Tk.Rd.ifnt ?_
  | with_reducible refine Tk.Rd.ifnf ?_
  | with_reducible refine Tk.Rd.not ?_
  | with_reducible refine Tk.Rd.and ?_
  | with_reducible refine Tk.Rd.or ?_
  | with_reducible refine Tk.Rd.andV ?_
  | with_reducible refine Tk.Rd.andK_i ?_
  | with_reducible refine Tk.Rd.orV ?_
  | with_reducible refine Tk.Rd.orK_i ?_
  | with_reducible refine Tk.Rd.notV ?_
  | with_reducible refine Tk.Rd.notK_i ?_
  | with_reducible refine Tk.Rd.tif ?_
  | with_reducible refine Tk.Rd.yes ?_
  | with_reducible refine Tk.Rd.tfor ?_
  | with_reducible refine Tk.Rd.tlc ?_
  | with_reducible refine Tk.Rd.rng ?_
  | ((with_reducible refine' Tk.Rd.rngK_n ?k0 ?_); (case k0 => first | decide | omega))
  | ((with_reducible refine' Tk.Rd.rngK_lit ?k0 ?_); (case k0 => decide))
  | with_reducible refine Tk.Rd.rng2 ?_
  | with_reducible refine Tk.Rd.rng3 ?_
  | with_reducible refine Tk.Rd.ilist ?_
  | with_reducible refine Tk.Rd.zip ?_
  | with_reducible refine Tk.Rd.itup ?_
  | ((with_reducible refine' Tk.Rd.listK_i ?k0 ?_); (case k0 => walk_at "sql"))
  | ((with_reducible refine' Tk.Rd.ituK_i ?k0 ?_); (case k0 => walk_at "sqt"))
  | with_reducible refine Tk.Rd.chain ?_
  | with_reducible refine Tk.Rd.chainL_i ?_
  | with_reducible refine Tk.Rd.un ?_
  | with_reducible refine Tk.Rd.u1 ?_
  | ((with_reducible refine' Tk.Rd.i1 ?k0 ?_); (case k0 => walk_at "ci"))
  | ((with_reducible refine' Tk.Rd.eq ?k0 ?_); (case k0 => exact rfl))
  | ((with_reducible refine' Tk.Rd.ne ?k0 ?_); (case k0 => exact rfl))
  | with_reducible refine Tk.Rd.isN ?_
  | with_reducible refine Tk.Rd.notN ?_
  | with_reducible refine Tk.Rd.fld ?_
  | with_reducible refine Tk.Rd.meth ?_
  | with_reducible refine Tk.Rd.methR ?_
  | with_reducible refine Tk.Rd.prop ?_
  | with_reducible refine Tk.Rd.cb ?_
  | with_reducible refine Tk.Rd.bm ?_
  | with_reducible refine Tk.Rd.m0 ?_
  | with_reducible refine Tk.Rd.m0K_i ?_
  | with_reducible refine Tk.Rd.m1 ?_
  | with_reducible refine Tk.Rd.m1K_i ?_
  | with_reducible refine Tk.Rd.tup ?_
  | ((with_reducible refine' Tk.Rd.tupK_i ?k0 fun p H' np S hp => ?_); (case k0 => walk_at "sz"))
  | with_reducible refine Tk.Rd.lst ?_
  | ((with_reducible refine' Tk.Rd.lstK_i ?k0 fun p H' np S hp => ?_); (case k0 => walk_at "sz"))
  | ((with_reducible refine' Tk.Rd.ixF ?k0 ?k1 ?_); (case k0 => walk_at "hp"); (case k1 => omega))
  | ((with_reducible refine' Tk.Rd.ixF1 ?k0 ?k1 ?_); (case k0 => walk_at "hp"); (case k1 => omega))
  | ((with_reducible refine' Tk.Rd.ixT ?k0 ?k1 ?_); (case k0 => walk_at "sqt"); (case k1 => exact rfl))
  | ((with_reducible refine' Tk.Rd.ixL ?k0 ?k1 ?_); (case k0 => walk_at "sql"); (case k1 => exact rfl))
  | ((with_reducible refine' Tk.Rd.lenL ?k0 ?_); (case k0 => walk_at "sql"))
  | ((with_reducible refine' Tk.Rd.lenT ?k0 ?_); (case k0 => walk_at "sqt"))
  | ((with_reducible refine' Tk.Rd.lenS ?k0 ?_); (case k0 => first | assumption | omega | (simp; omega)))
  | ((with_reducible refine' Tk.Rd.slTr ?k0 fun p H' S hp => ?_); (case k0 => walk_at "hp"))
  | ((with_reducible refine' Tk.Rd.slT ?k0 fun p H' S hq => ?_); (case k0 => walk_at "sqt"))
  | ((with_reducible refine' Tk.Rd.catTr ?k0 ?k1 ?k2 fun p H' S hp => ?_); (case k0 => walk_at "hp"); (case k1 => walk_at "hp"); (case k2 => walk_at "sz"))
  | ((with_reducible refine' Tk.Rd.catA ?k0 ?k1 ?k2 ?k3 ?k4 fun p H' np S hp => ?_); (case k0 => walk_at "sqt"); (case k1 => walk_at "sqt"); (case k2 => simp); (case k3 => simp); (case k4 => first | (simp; done) | (simp; omega)))
  | with_reducible refine Tk.Rd.make ?_
  | ((with_reducible refine' Tk.Rd.tplL ?k0 fun q H' nq S hq => ?_); (case k0 => walk_at "sql"))
  | ((with_reducible refine' Tk.Rd.lstL ?k0 fun q H' nq S hq => ?_); (case k0 => walk_at "sql"))
  | ((with_reducible refine' Tk.Rd.lstT ?k0 fun q H' nq S hq => ?_); (case k0 => walk_at "sqt"))
  | ((with_reducible refine' Tk.Rd.join ?k0 ?k1 ?_); (case k0 => walk_at "sql"); (case k1 => first | assumption | omega))
  | with_reducible refine Tk.Rd.mx ?_
  | with_reducible refine Tk.Rd.mn ?_
  | with_reducible refine Tk.Rd.noPart ?_
  | with_reducible refine Tk.Rd.part ?_
  | with_reducible refine Tk.Rd.partK_i ?_
  | with_reducible refine Tk.Rd.slc ?_
  | ((with_reducible refine' Tk.Rd.gtup ?k0 ?k1 ?_); (case k0 => walk_at "sqt"); (case k1 => exact rfl))
  | ((with_reducible refine' Tk.Rd.glst ?k0 ?k1 ?_); (case k0 => walk_at "sql"); (case k1 => exact rfl))
  | with_reducible refine Tk.Rd.gcons ?_
  | with_reducible refine Tk.Rd.gnil ?_
  | with_reducible refine Tk.Rd.next ?_
  | with_reducible refine Tk.Rd.drop ?_
  | with_reducible refine Tk.Rd.ret ?_
  | with_reducible refine Tk.Rd.retN ?_
  | with_reducible refine Tk.Rd.par ?_
  | with_reducible refine Tk.Rd.parK_i ?_
  | with_reducible refine Tk.Rd.par3 ?_
  | with_reducible refine Tk.Rd.par3K_i ?_
  | ((with_reducible refine' Tk.Rd.aug ?k0 ?_); (case k0 => exact rfl))
  | with_reducible refine Tk.Rd.ip ?_
  | ((with_reducible refine' Tk.Rd.bmK_l ?k0 ?_); (case k0 => walk_at "sql"))
  | ((with_reducible refine' Tk.Rd.addS ?k0 ?_); (case k0 => walk_at "sz"))
  | fail "rd1")
local macro_rules | `(tactic| walk_at "rd1i") => `(tactic| first
  | walk_at "rd1"
  | with_reducible refine Tk.Rd.ifS ?_
  | fail "rd1i")
local macro_rules | `(tactic| walk_at "rd") => `(tactic| (repeat' walk_at "rd1i"))
local macro_rules | `(tactic| walk_at "rs") => `(tactic| ((repeat' walk_at "rd1"); (try dsimp only)))
local macro_rules | `(tactic| walk_at "hall") => `(tactic| first
  | assumption
  | ((with_reducible refine' Tk.HallAt.sm ?k0 ?k1); (case k0 => assumption); (case k1 => walk_at "hall"))
  | fail "hall")
local macro_rules | `(tactic| walk_at "parts") => `(tactic| first
  | assumption
  | ((with_reducible refine' Tk.PartsAt.sm ?k0 ?k1); (case k0 => assumption); (case k1 => walk_at "parts"))
  | fail "parts")
local macro_rules | `(tactic| walk_at "sm") => `(tactic| first
  | assumption
  | exact Tk.Sm.int rfl
  | exact Tk.Sm.flat1 rfl
  | ((with_reducible refine' Tk.Sm.sm ?k0 ?k1); (case k0 => assumption); (case k1 => walk_at "sm"))
  | fail "sm")
local macro_rules | `(tactic| walk_at "rd1") => `(tactic| first
  | ((with_reducible refine' Tk.Rd.f_modulus ?k0 ?k1 ?_); (case k0 => assumption); (case k1 => walk_at "hall"))
  | ((with_reducible refine' Tk.Rd.f_lateness ?k0 ?k1 ?_); (case k0 => assumption); (case k1 => walk_at "hall"))
  | ((with_reducible refine' Tk.Rd.f_takes ?k0 ?k1 fun tp htp => ?_); (case k0 => assumption); (case k1 => walk_at "hall"))
  | ((with_reducible refine' Tk.Rd.f_calls ?k0 ?k1 fun cp hcp => ?_); (case k0 => assumption); (case k1 => walk_at "hall"))
  | ((with_reducible refine' Tk.Rd.h_meth ?k0 ?k1 ?_); (case k0 => walk_at "hall"); (case k1 => decide +kernel))
  | ((with_reducible refine' Tk.Rd.h_prop ?k0 ?_); (case k0 => walk_at "hall"))
  | ((with_reducible refine' Tk.Rd.h_taken0 ?k0 fun H' S => ?_); (case k0 => walk_at "hall"))
  | ((with_reducible refine' Tk.Rd.h_taken1 ?k0 fun H' S => ?_); (case k0 => walk_at "hall"))
  | ((with_reducible refine' Tk.Rd.h_takenL ?k0 fun H' S => ?_); (case k0 => walk_at "hall"))
  | ((with_reducible refine' Tk.Rd.h_called0 ?k0 ?_); (case k0 => walk_at "hall"))
  | ((with_reducible refine' Tk.Rd.h_called1 ?k0 ?_); (case k0 => walk_at "hall"))
  | ((with_reducible refine' Tk.Rd.h_calledL ?k0 ?_); (case k0 => walk_at "hall"))
  | ((with_reducible refine' Tk.Rd.h_waiting ?k0 ?k1 fun H' S => ?_); (case k0 => walk_at "hall"); (case k1 => omega))
  | ((with_reducible refine' Tk.Rd.h_growth ?k0 fun H' S => ?_); (case k0 => walk_at "hall"))
  | ((with_reducible refine' Tk.Rd.h_period ?k0 ?_); (case k0 => walk_at "hall"))
  | ((with_reducible refine' Tk.Rd.h_lhall ?k0 fun h lp H' nh nl S hA => ?_); (case k0 => walk_at "parts"))
  | ((with_reducible refine' Tk.Rd.h_length ?k0 ?_); (case k0 => walk_at "parts"))
  | ((with_reducible refine' Tk.Rd.h_counts ?k0 ?k1 fun r a b H' nr na nb nab S hr ha hb => ?_); (case k0 => walk_at "parts"); (case k1 => omega))
  | ((with_reducible refine' Tk.Rd.h_countsL ?k0 ?k1 fun r a b H' nr na nb nab S hr ha hb => ?_); (case k0 => walk_at "parts"); (case k1 => decide))
  | ((with_reducible refine' Tk.Rd.h_make ?k0 ?k1 ?k2 fun h lp H' nh nl S hA => ?_); (case k0 => assumption); (case k1 => walk_at "hp"); (case k2 => walk_at "hp"))
  | ((with_reducible refine' Tk.Rd.p_0 ?k0 ?_); (case k0 => walk_at "parts"))
  | ((with_reducible refine' Tk.Rd.p_1 ?k0 fun htp => ?_); (case k0 => walk_at "parts"))
  | ((with_reducible refine' Tk.Rd.p_2 ?k0 fun hcp => ?_); (case k0 => walk_at "parts"))
  | ((with_reducible refine' Tk.Rd.p_3 ?k0 ?_); (case k0 => walk_at "parts"))
  | fail "rd1")
local macro_rules | `(tactic| walk_at "sqt") => `(tactic| first | ((with_reducible refine' Tk.PartsAt.sq ?k0); (case k0 => walk_at "parts")) | fail "sqt")
local macro_rules | `(tactic| walk_at "free") => `(tactic| first
  | assumption
  | ((with_reducible refine' Tk.Same.fr ?k0 ?k1); (case k0 => assumption); (case k1 => walk_at "free")))
local macro_rules | `(tactic| walk_at "hp") => `(tactic| first
  | ((with_reducible refine' Tk.But.gt ?k0 ?k1 ?k2); (case k0 => assumption); (case k1 => assumption); (case k2 => walk_at "hp"))
  | ((with_reducible refine' Tk.But.gl ?k0 ?k1 ?k2); (case k0 => assumption); (case k1 => assumption); (case k2 => walk_at "hp"))
  | fail "hp")
local macro_rules | `(tactic| walk_at "hall") => `(tactic| first | ((with_reducible refine' Tk.HallAt.bt ?k0 ?k1 ?k2 ?k3); (case k0 => assumption); (case k1 => assumption); (case k2 => assumption); (case k3 => walk_at "hall")) | fail "hall")
local macro_rules | `(tactic| walk_at "parts") => `(tactic| first | ((with_reducible refine' Tk.PartsAt.bt ?k0 ?k1 ?k2); (case k0 => assumption); (case k1 => assumption); (case k2 => walk_at "parts")) | fail "parts")
local macro_rules | `(tactic| walk_at "rd1") => `(tactic| first
  | ((with_reducible refine' Tk.Rd.h_below ?k0 ?k1 ?k2 ?k3 fun r H' cs hr B hd hcs => ?_); (case k0 => walk_at "hp"); (case k1 => assumption); (case k2 => first | decide | omega); (case k3 => first | decide | omega))
  | ((with_reducible refine' Tk.Rd.h_parts ?k0 ?k1 ?k2 ?k3 fun t tp cp m lt tk cl H' cs nt B hd hcs hP l1 l2 => ?_); (case k0 => walk_at "hp"); (case k1 => assumption); (case k2 => first | decide | omega); (case k3 => first | decide | omega))
  | ((with_reducible refine' Tk.Rd.h_partsL ?k0 ?k1 ?k2 ?k3 fun t tp cp m lt tk cl H' cs nt B hd hcs hP l1 l2 => ?_); (case k0 => walk_at "hp"); (case k1 => assumption); (case k2 => first | decide | omega); (case k3 => first | decide | omega))
  | ((with_reducible refine' Tk.Rd.h_small ?k0 ?k1 fun t tp cp m lt tk cl H' cs nt B hd hcs hP m1 l1 l2 l3 => ?_); (case k0 => walk_at "hp"); (case k1 => assumption))
  | ((with_reducible refine' Tk.Rd.h_tick ?k0 ?k1 fun t H' cs ht B hd hcs => ?_); (case k0 => walk_at "hp"); (case k1 => assumption))
  | ((with_reducible refine' Tk.Rd.h_mo ?k0 fun v H' S hv => ?_); (case k0 => walk_at "hall"))
  | ((with_reducible refine' Tk.Rd.h_lc ?k0 fun v H' S hv => ?_); (case k0 => walk_at "hall"))
  | ((with_reducible refine' Tk.Rd.h_lm ?k0 fun v H' S hv => ?_); (case k0 => walk_at "hall"))
  | ((with_reducible refine' Tk.Rd.h_gl ?k0 fun v H' S hv => ?_); (case k0 => walk_at "hall"))
  | ((with_reducible refine' Tk.Rd.h_ot ?k0 ?k1 fun r H' nr S hr => ?_); (case k0 => walk_at "hall"); (case k1 => first | assumption | omega))
  | ((with_reducible refine' Tk.Rd.h_most2 ?k0 fun v H' S hv => ?_); (case k0 => walk_at "parts"))
  | ((with_reducible refine' Tk.Rd.h_opens2L ?k0 ?k1 fun l ys H' nl S hl hlen hR => ?_); (case k0 => walk_at "parts"); (case k1 => decide))
  | ((with_reducible refine' Tk.Rd.h_opens2 ?k0 ?k1 fun l ys H' nl S hl hlen hR => ?_); (case k0 => walk_at "parts"); (case k1 => first | decide | omega))
  | fail "rd1")
local macro_rules | `(tactic| walk_at "ok") => `(tactic| first
  | assumption
  | ((with_reducible refine' Tk.HallAt.ok ?k0); (case k0 => walk_at "hall"))
  | ((with_reducible refine' Tk.PartsAt.ok ?k0); (case k0 => walk_at "parts"))
  | fail "ok")
local macro_rules | `(tactic| walk_at "sml") => `(tactic| first
  | exact Tk.Sml.ints (by walk_at "szb")
  | exact Tk.Sml.intsT (by walk_at "szb")
  | trivial
  | (simp [Tk.Sml]; done)
  | (simp [Tk.Sml]; omega)
  | fail "sml")
local macro_rules | `(tactic| walk_at "rd1") => `(tactic| first
  | ((with_reducible refine' Tk.Rd.nT ?k0 ?_); (case k0 => with_reducible exact rfl))
  | ((with_reducible refine' Tk.Rd.dT ?k0 ?_); (case k0 => with_reducible exact rfl))
  | with_reducible refine Tk.Rd.nF Tk.Rd.int_non ?_
  | with_reducible refine Tk.Rd.nF Tk.Rd.ref_non ?_
  | with_reducible refine Tk.Rd.dF Tk.Rd.int_non ?_
  | with_reducible refine Tk.Rd.dF Tk.Rd.ref_non ?_
  | ((with_reducible refine' Tk.Rd.h_disp ?k0 ?k1 ?_); (case k0 => first | assumption | omega); (case k1 => walk_at "hall"))
  | ((with_reducible refine' Tk.Rd.h_hold ?k0 ?k1 ?k2 ?k3 fun l H' nl S hl => ?_); (case k0 => walk_at "hall"); (case k1 => first | assumption | omega); (case k2 => first | assumption | omega); (case k3 => first | assumption | omega))
  | ((with_reducible refine' Tk.Rd.h_mis ?k0 ?k1 ?k2 fun l ys H' nl S hl hd => ?_); (case k0 => walk_at "hall"); (case k1 => first | assumption | omega); (case k2 => first | assumption | omega))
  | ((with_reducible refine' Tk.Rd.h_enc ?k0 fun l H' nl S hl => ?_); (case k0 => walk_at "hall"))
  | ((with_reducible refine' Tk.Rd.h_dec ?k0 ?k1 fun h lp H' nh nl S hA => ?_); (case k0 => walk_at "hp"); (case k1 => walk_at "ok"))
  | ((with_reducible refine' Tk.Rd.h_text ?k0 fun H' S => ?_); (case k0 => walk_at "hall"))
  | ((with_reducible refine' Tk.Rd.h_eqd ?k0 ?k1 ?k2 fun H' S => ?_); (case k0 => walk_at "dp"); (case k1 => walk_at "dp"); (case k2 => walk_at "sml"))
  | ((with_reducible refine' Tk.Rd.eqd ?k0 ?k1 ?k2 ?k3 ?_); (case k0 => walk_at "dp"); (case k1 => walk_at "dp"); (case k2 => walk_at "sml"); (case k3 => walk_at "sml"))
  | ((with_reducible refine' Tk.Rd.ned ?k0 ?k1 ?k2 ?k3 ?_); (case k0 => walk_at "dp"); (case k1 => walk_at "dp"); (case k2 => walk_at "sml"); (case k3 => walk_at "sml"))
  | fail "rd1")
namespace Tk
open PySem PySem.Spec PyProof.Rows L2 Mm LamX Bn Cz
def wordN (n : Nat) : Str := (["modulus", "takes", "calls", "lateness"] : List Str).getD n ""
/-- four parts, all good before the n-th; that one is told, with the index -/
inductive PreB (H : Hp) : Nat → List V → Nat → Prop
  | m {v v1 v2 v3 : V} {o1 o2 : Option Nat} (h : Arg H v) (b : inB 2 10000 v = false) (h1 : PIx H v1 o1) (h2 : PIx H v2 o2) (h3 : Arg H v3) : PreB H 0 [v, v1, v2, v3] 0
  | t {m i : Nat} {v v2 v3 : V} {o2 : Option Nat} (m2 : 2 ≤ m) (m4 : m ≤ 10000) (h : PIx H v (some i)) (h2 : PIx H v2 o2) (h3 : Arg H v3) : PreB H 1 [vn m, v, v2, v3] i
  | c {m i : Nat} {v v1 v3 : V} (m2 : 2 ≤ m) (m4 : m ≤ 10000) (h1 : PIx H v1 none) (h : PIx H v (some i)) (h3 : Arg H v3) : PreB H 2 [vn m, v1, v, v3] i
  | l {m : Nat} {v v1 v2 : V} (m2 : 2 ≤ m) (m4 : m ≤ 10000) (h1 : PIx H v1 none) (h2 : PIx H v2 none) (h : Arg H v) (b : inB 0 99 v = false) : PreB H 3 [vn m, v1, v2, v] 0
theorem Arg.drw {d : Addr} {H H' : Hp} {v : V} (a : Arg H v) (n : v ≠ .ref d) (B : But d H H') : Arg H' v := by
  cases a with
  | lst e => exact .lst (B _ _ (fun z => n (by rw [z])) e)
  | tup e => exact .tup (B _ _ (fun z => n (by rw [z])) e)
  | _ => constructor
theorem PreB.sm {H H' : Hp} {n i : Nat} {xs : List V} (h : PreB H n xs i) (S : Same H H') : PreB H' n xs i := by
  cases h with
  | m h b h1 h2 h3 => exact .m (h.smv S) b (h1.sm S) (h2.sm S) (h3.smv S)
  | t a b h h2 h3 => exact .t a b (h.sm S) (h2.sm S) (h3.smv S)
  | c a b h1 h h3 => exact .c a b (h1.sm S) (h.sm S) (h3.smv S)
  | l a b h1 h2 h c => exact .l a b (h1.sm S) (h2.sm S) (h.smv S) c
theorem PreB.xt {H H' : Hp} {n i : Nat} {xs : List V} (h : PreB H n xs i) (S : ExtN H H') : PreB H' n xs i := by
  cases h with
  | m h b h1 h2 h3 => exact .m (h.xt S) b (h1.xt S) (h2.xt S) (h3.xt S)
  | t a b h h2 h3 => exact .t a b (h.xt S) (h2.xt S) (h3.xt S)
  | c a b h1 h h3 => exact .c a b (h1.xt S) (h.xt S) (h3.xt S)
  | l a b h1 h2 h c => exact .l a b (h1.xt S) (h2.xt S) (h.xt S) c
theorem PIx.of_tf {H : Hp} {p : Addr} {xs : List V} {i : Nat} (h : Rd.TF H p xs) (ha : ∀ x ∈ xs, Arg H x) (hi : badIx xs = some i) : PIx H (.ref p) (some i) := by
  rcases h with h | h
  · rw [← hi]
    exact .tup h ha
  · exact .frz h ha hi
theorem PIx.nonv {H : Hp} : PIx H .non (some 0) := .not .non fun r xs _ q => by cases q
theorem PreB.bad {H : Hp} {n i : Nat} {xs : List V} (h : PreB H n xs i) : BadP H xs (wordN n) i := by
  cases h with
  | m h b h1 h2 h3 => exact ⟨_, _, _, _, _, _, rfl, h, h1, h2, h3, by unfold hallErr; rw [b]; rfl⟩
  | t a b h h2 h3 => exact ⟨_, _, _, _, _, _, rfl, .int _, h, h2, h3, by unfold hallErr; rw [inB_in (by omega) (by omega)]; rfl⟩
  | c a b h1 h h3 => exact ⟨_, _, _, _, _, _, rfl, .int _, h1, h, h3, by unfold hallErr; rw [inB_in (by omega) (by omega)]; rfl⟩
  | l a b h1 h2 h c => exact ⟨_, _, _, _, _, _, rfl, .int _, h1, h2, h, by unfold hallErr; rw [inB_in (by omega) (by omega), c]; rfl⟩
theorem PreB.later {H : Hp} {n i : Nat} {xs : List V} (h : PreB H n xs i) : PreB H n (xs.take (n + 1) ++ List.replicate (3 - n) .non) i := by
  cases h with
  | m h b h1 h2 h3 => exact .m h b PIx.nonv PIx.nonv .non
  | t a b h h2 h3 => exact .t a b h PIx.nonv .non
  | c a b h1 h h3 => exact .c a b h1 h .non
  | l a b h1 h2 h c => exact .l a b h1 h2 h c
section
variable {P : Program} {w : World} {K : PySem.W.Frag} {mg : Str → Option Value} {base : Heap}
set_option maxHeartbeats 0 in
theorem ok_law (T : Txt K mg) (B : Tbs K mg base) (hP : Ex.PF P) {fd : FuncData} (F : FnP K "law" "law" s_law (He.ga K "law") fd) : FnOk P w K mg base CX0 29 (He.ga K "law") fd ["_law_script"] (spLawT K (TT K)) := by
  have G__law_random : OkF P w K mg base 1 (He.ga K "_law_random") ["_law_script", "_law_salt"] (spRandom K) := ok__law_random T
  have G__law_below : OkF P w K mg base 1 (He.ga K "_law_below") ["_law_d", "_law_limit"] spBelow := ok__law_below T
  have G__law_parts : OkF P w K mg base 3 (He.ga K "_law_parts") ["_law_d", "_law_most"] spParts := ok__law_parts T
  have G__law_hall : OkF P w K mg base 8 (He.ga K "_law_hall") ["_law_parts_here"] (spLHX K (He.ga K "Hall")) := ok__law_hallX T hP
  have G__law_all_raise : OkF P w K mg base 25 (He.ga K "_law_all_raise") ["_law_calls", "_law_expected"] (spAr P w K mg base) := ok__law_all_raise T
  have G_init : OkF P w K mg base 6 (He.ma K (He.ga K "Hall") "__init__") ["self", "modulus", "takes", "calls", "lateness"] (spInit (He.ga K "Hall")) := ok_init T
  have G_waiting : OkF P w K mg base 4 (He.ma K (He.ga K "Hall") "waiting") ["self", "tick"] (spWaiting (He.ga K "Hall")) := ok_waiting T
  have G_growth : OkF P w K mg base 5 (getAt K (He.ga K "Hall") "growth") ["self"] (spGrowth (He.ga K "Hall")) := ok_growth T
  refine okLawC F sc_law (fun vs H Q E h => ?_) (fun cdv A outer s H vs Q E hcd hr h => ?_)
  · obtain ⟨a, ns, rfl, _⟩ := h
    rfl
  obtain ⟨a, ns, rfl, hS, hlen, hT, k⟩ := h
  have tx : TabX (cxOf CX0 P w K mg base N_law "law" (defScope s_law) (He.ga K "law") cdv A outer s H E) (TT K) := B.tx (p := (fun K => He.ga K "law", "law")) (by simp [mkl]) hcd
  refine ⟨_, (pss_cons (ps_set (i := 1) sc_law.nd rfl (Or.inl rfl) (pe_call G__law_random.one (hr.mono (by decide)) (by rfl) T.g__law_random G__law_random.kp G__law_random.two .nil passL (pa_cons (pv 0) (pa_cons pe_int pa_nil))))
    (pss_cons (ps_set (i := 2) sc_law.nd rfl (Or.inl rfl) (pe_call G__law_parts.one (hr.mono (by decide)) (by rfl) T.g__law_parts G__law_parts.kp G__law_parts.two .nil passL (pa_cons (pv 1) (pa_cons pe_int pa_nil))))
    (pss_cons (ps_set (i := 3) sc_law.nd rfl (Or.inl rfl) (pe_call G__law_below.one (hr.mono (by decide)) (by rfl) T.g__law_below G__law_below.kp G__law_below.two .nil passL (pa_cons (pv 1) (pa_cons pe_int pa_nil))))
    (pss_cons (ps_set (i := 4) sc_law.nd rfl (Or.inl rfl) (pe_op op_add pe_int (pe_call G__law_below.one (hr.mono (by decide)) (by rfl) T.g__law_below G__law_below.kp G__law_below.two .nil passL (pa_cons (pv 1) (pa_cons (pe_ix (ixLK (K := K)) (pe_lst (pa_cons pe_int (pa_cons pe_int pa_nil))) (pe_call G__law_below.one (hr.mono (by decide)) (by rfl) T.g__law_below G__law_below.kp G__law_below.two .nil passL (pa_cons (pv 1) (pa_cons pe_int pa_nil))) (fun _ _ => rfl)) pa_nil)))))
    (pss_cons (ps_set (i := 5) sc_law.nd rfl (Or.inl rfl) (pe_ix (ixLK (K := K)) (pe_lst (pa_cons (pe_op op_sub (pe_op op_sub pe_int pe_int) (pe_call G__law_below.one (hr.mono (by decide)) (by rfl) T.g__law_below G__law_below.kp G__law_below.two .nil passL (pa_cons (pv 1) (pa_cons pe_int pa_nil)))) (pa_cons pe_non (pa_cons pe_bl (pa_cons pe_str (pa_cons (pe_tup (pa_cons pe_int pa_nil)) (pa_cons (pv 4) pa_nil))))))) (pe_call G__law_below.one (hr.mono (by decide)) (by rfl) T.g__law_below G__law_below.kp G__law_below.two .nil passL (pa_cons (pv 1) (pa_cons pe_int pa_nil))) (fun _ _ => rfl)))
    (Evl.pss_cut (ps_if (pt_cmpR (inK (K := K)) (pv 3) (pe_lst (pa_cons pe_int (pa_cons pe_int pa_nil))) (by rfl)) (pss_cons (ps_set (i := 6) sc_law.nd rfl (Or.inl rfl) (pe_ix (ixLK (K := K)) (pe_lst (pa_cons (pv 5) (pa_cons (pe_ix (ixLK (K := K)) (pe_lst (pa_cons pe_int (pa_cons pe_int (pa_cons (pv 5) pa_nil)))) (pe_call G__law_below.one (hr.mono (by decide)) (by rfl) T.g__law_below G__law_below.kp G__law_below.two .nil passL (pa_cons (pv 1) (pa_cons pe_int pa_nil))) (fun _ _ => rfl)) pa_nil))) (pe_callTy (show CallR _ (.type "int") Rd.rInt1 from call_int1) (by rfl) T.g_int (by decide +kernel) (pa_cons (pe_cmpR op_eq (pv 3) pe_int (nomark _)) pa_nil)) (fun _ _ => rfl)))
    (pss_cons (ps_set (i := 15) sc_law.nd rfl (Or.inr rfl) (pe_op (Cn.op_catF (K := K)) (pe_op (Cn.op_catF (K := K)) (pe_slice (slAK (K := K)) (pv 2) po_none (po_some (pv 3))) (pe_tup (pa_cons (pv 6) pa_nil))) (pe_slice (slAK (K := K)) (pv 2) (po_some (pe_op op_add (pv 3) pe_int)) po_none)))
    (pss_one (ps_set (i := 7) sc_law.nd rfl (Or.inl rfl) pe_int)))) (pss_cons (ps_set (i := 8) sc_law.nd rfl (Or.inl rfl) (pe_call G__law_below.one (hr.mono (by decide)) (by rfl) T.g__law_below G__law_below.kp G__law_below.two .nil passL (pa_cons (pv 1) (pa_cons (pe_op op_add (pe_callB (lenK (K := K)) (by rfl) T.g_len (by decide +kernel) (pa_cons (pe_ix (ixTK (K := K)) (pv 2) (pv 3) (fun _ _ => rfl)) pa_nil)) pe_int) pa_nil))))
    (pss_cons (ps_set (i := 9) sc_law.nd rfl (Or.inl rfl) (pe_ix (ixLK (K := K)) (pe_lst (pa_cons pe_int (pa_cons (pe_op op_sub pe_int pe_int) (pa_cons pe_non (pa_cons pe_bl (pa_cons pe_str (pa_cons (pe_tup (pa_cons pe_int pa_nil)) (pa_cons pe_int pa_nil)))))))) (pe_call G__law_below.one (hr.mono (by decide)) (by rfl) T.g__law_below G__law_below.kp G__law_below.two .nil passL (pa_cons (pv 1) (pa_cons pe_int pa_nil))) (fun _ _ => rfl)))
    (pss_cons (ps_set (i := 10) sc_law.nd rfl (Or.inl rfl) (pe_lst (pa_cons (pe_tup (pa_cons (pe_op (Cn.op_catF (K := K)) (pe_slice (slAK (K := K)) (pe_ix (ixTK (K := K)) (pv 2) (pv 3) (fun _ _ => rfl)) po_none (po_some (pv 8))) (pe_tup (pa_cons (pv 9) (pa_cons pe_non pa_nil)))) (pa_cons (pv 8) pa_nil))) (pa_cons (pe_tup (pa_cons (pe_op (catAK (K := K)) (pe_op (repTK (K := K)) (pe_tup (pa_cons pe_int pa_nil)) pe_int) (pe_op (op_repT1 (K := K)) (pe_tup (pa_cons pe_int pa_nil)) (pe_op op_add pe_int (pe_call G__law_below.one (hr.mono (by decide)) (by rfl) T.g__law_below G__law_below.kp G__law_below.two .nil passL (pa_cons (pv 1) (pa_cons pe_int pa_nil)))))) (pa_cons pe_int pa_nil))) (pa_cons (pe_tup (pa_cons (pe_tup pa_nil) (pa_cons pe_int pa_nil))) pa_nil)))))
    (pss_cons (ps_set (i := 10) sc_law.nd rfl (Or.inl rfl) (pe_op op_cat (pv 10) (pe_lst (pa_cons (pe_tup (pa_cons (pe_callTy (lstK (K := K)) (by rfl) T.g_list (by decide +kernel) (pa_cons (pe_ix (ixTK (K := K)) (pv 2) (pv 3) (fun _ _ => rfl)) pa_nil)) (pa_cons pe_int pa_nil))) (pa_cons (pe_tup (pa_cons pe_int (pa_cons pe_int pa_nil))) (pa_cons (pe_tup (pa_cons pe_non (pa_cons pe_int pa_nil))) (pa_cons (pe_tup (pa_cons pe_str (pa_cons pe_int pa_nil))) pa_nil)))))))
    (pss_cons (ps_asg (pe_ix (ixLK (K := K)) (pv 10) (pe_call G__law_below.one (hr.mono (by decide)) (by rfl) T.g__law_below G__law_below.kp G__law_below.two .nil passL (pa_cons (pv 1) (pa_cons pe_int pa_nil))) (fun _ _ => rfl)) (pg_tup rfl (pgs_cons (pg_name (i := 6) sc_law.nd rfl (Or.inl rfl)) (pgs_cons (pg_name (i := 7) sc_law.nd rfl (Or.inl rfl)) pgs_nil))))
    (pss_one (ps_set (i := 15) sc_law.nd rfl (Or.inr rfl) (pe_op (Cn.op_catF (K := K)) (pe_op (Cn.op_catF (K := K)) (pe_slice (slAK (K := K)) (pv 2) po_none (po_some (pv 3))) (pe_tup (pa_cons (pv 6) pa_nil))) (pe_slice (slAK (K := K)) (pv 2) (po_some (pe_op op_add (pv 3) pe_int)) po_none))))))))))
    (pss_cons (ps_set (i := 11) sc_law.nd rfl (Or.inl rfl) (pe_ix (ixLK (K := K)) (pe_lst (pa_cons pe_str (pa_cons pe_str (pa_cons pe_str (pa_cons pe_str pa_nil))))) (pv 3) (fun _ _ => rfl)))
    (pss_cons (ps_set (i := 14) sc_law.nd rfl (Or.inr rfl) (pe_op (Cn.op_catF (K := K)) (pe_slice (slAK (K := K)) (pv 15) po_none (po_some (pe_op op_add (pv 3) pe_int))) (pe_callTy (tplK (K := K)) (by rfl) T.g_tuple (by decide +kernel) (pa_cons (pe_lc (own := [("_law_k", 16)]) (g := gName 16) (tt := tYes) (by rfl) sc_law.nd (pi_range1 (by rfl) T.g_range (pa_cons (pe_op op_sub pe_int (pv 3)) pa_nil)) (blkOk_by (own := [("_law_k", 16)]) (N := N_law) (sc := (defScope s_law)) (by decide +kernel)) (fun _ _ _ _ _ => pg_name (i := 16) sc_law.nd rfl (Or.inl rfl)) (fun _ _ _ _ _ => pts_nil) (fun _ _ _ _ _ => pe_non)) pa_nil))))
    (pss_cons (ps_set (i := 12) sc_law.nd rfl (Or.inl rfl) (pe_lst (pa_cons (Cz.pe_lamD0 (k := 20) tx sc_law.nd (show Cz.LamD (defScope s_law) _ [] from Cz.lamD_by (by decide +kernel)) (show ∀ b ∈ ([] : List PySem.Str), b ∉ N_law from by decide +kernel) (fun A outer s H E f c' hr => (pe_call (X := Cz.lamCxD _ _ A outer s H E _ f c') G__law_hall.one (hr.mono (by decide)) (by rfl) T.g__law_hall G__law_hall.kp G__law_hall.two .nil (passes_call (takes_of rfl rfl rfl rfl) fun _ _ _ _ h => h) (pa_cons (pv 15) pa_nil)))) (pa_cons (Cz.pe_lamD1 (k := 20) tx sc_law.nd (show Cz.LamD (defScope s_law) _ ["_law_a"] from Cz.lamD_by (by decide +kernel)) (show ∀ b ∈ (["_law_a"] : List PySem.Str), b ∉ N_law from by decide +kernel) (fun A outer s H E f c' hr => (pe_call (X := Cz.lamCxD _ _ A outer s H E _ f c') G__law_hall.one (hr.mono (by decide)) (by rfl) T.g__law_hall G__law_hall.kp G__law_hall.two .nil (passes_call (takes_of rfl rfl rfl rfl) fun _ _ _ _ h => h) (pa_cons (pv 14) pa_nil)))) pa_nil))))
    (pss_cons (ps_if (pt_not (pt_val (Cz.pe_callD G__law_all_raise.one (hr.mono (by decide)) (by rfl) T.g__law_all_raise G__law_all_raise.kp G__law_all_raise.two (pa_cons (pv 12) (pa_cons (pe_tup (pa_cons pe_str (pa_cons (pe_tup (pa_cons (pv 11) (pa_cons (pv 7) pa_nil))) pa_nil))) pa_nil))))) (pss_one (ps_ret pe_bl)) pss_nil)
    (pss_cons (ps_set (i := 13) sc_law.nd rfl (Or.inl rfl) (pe_make T.mk_Hall G_init.one (hr.mono (by decide)) (by rfl) T.g_Hall G_init.two .nil passL (pa_cons pe_int (pa_cons (pe_op (repTK (K := K)) (pe_tup (pa_cons pe_int pa_nil)) pe_int) (pa_cons (pe_op (repTK (K := K)) (pe_tup (pa_cons pe_int pa_nil)) pe_int) (pa_cons pe_int pa_nil))))))
    (pss_one (ps_ret (pe_and (pe_cmpR op_eq (pe_meth (pv 13) T.cl_Hall T.m_waiting G_waiting.one (hr.mono (by decide)) G_waiting.two .nil passL (pa_cons pe_int pa_nil)) pe_int (nomark _)) (pe_one (pe_cmpR op_eq (pe_prop (pe_make T.mk_Hall G_init.one (hr.mono (by decide)) (by rfl) T.g_Hall G_init.two .nil passL (pa_cons pe_int (pa_cons (pe_tup (pa_cons pe_int pa_nil)) (pa_cons (pe_tup (pa_cons pe_int pa_nil)) (pa_cons pe_int pa_nil))))) T.cl_Hall T.p_growth G_growth.one (hr.mono (by decide)) G_growth.two .nil passL (by rfl)) pe_int (nomark _))))))))))))))))), ?_⟩
  refine ⟨_, rfl, a, ns, 3, rfl, hS, hlen, by decide, by decide, fun d cs H1 hd0 S1 hd hcs => ?_⟩
  walk_at "rd"
  rename_i t tp cp m lt tk cl H2 cs2 nt B2 hd2 hcs2 hPt l1 l2 r3 H3 cs3 hr3 B3 hd3 hcs3 p4 H4 n4 S4 h4 r5 H5 cs5 hr5 B5 hd5 hcs5
  have hP5 := ((hPt.but B3 hd2).same S4).but B5 (S4 _ _ hd3)
  have hT5 : Tabs (TT K) H5 := tabs_but ((tabs_but (tabs_but (hT.ext S1) hd B2) hd2 B3).ext S4) (S4 _ _ hd3) B5
  obtain ⟨lim, hlim, lim0, lim9⟩ : ∃ lim : Nat, atI [V.int 2, V.int 99] (r5 : Int) = some (vn lim) ∧ 0 < lim ∧ lim ≤ 99 := by
    have : r5 = 0 ∨ r5 = 1 := by omega
    rcases this with rfl | rfl
    · exact ⟨2, rfl, by decide, by decide⟩
    · exact ⟨99, rfl, by decide, by decide⟩
  refine Rd.ixL (SqL.of (B5 _ _ (ne_nw n4 hd3) h4)) hlim ?_
  clear h4 n4 S4 B5 hPt B3 B2 hd2 hcs2 hd hcs hd3 hcs3 hS S1 hT
  walk_at "rd"
  rename_i r6 H6 cs6 hr6 B6 hd6 hcs6 r7 H7 cs7 hr7 B7 hd7 hcs7 p8 H8 n8 S8 h8 p9 H9 n9 S9 h9 r10 H10 cs10 hr10 B10 hd10 hcs10
  have d8 := S8 _ _ hd7
  have d9 := S9 _ _ d8
  have hP10 := (((((hP5.but B6 hd5).but B7 hd6).same S8).same S9).but B10 d9)
  have hT10 : Tabs (TT K) H10 := tabs_but (((tabs_but (tabs_but hT5 hd5 B6) hd6 B7).ext S8).ext S9) d9 B10
  obtain ⟨odd, hodd, oA, o2, o9, od⟩ : ∃ v, [V.int (0 - 1 - (r7 : Int)), V.non, V.bl true, V.str ("1" : Str), V.ref p8, V.int (10001 + (r6 : Int))][r10]? = some v ∧ Arg H10 v ∧ inB 2 10000 v = false ∧ inB 0 99 v = false ∧ v ≠ .ref d := by
    have : r10 = 0 ∨ r10 = 1 ∨ r10 = 2 ∨ r10 = 3 ∨ r10 = 4 ∨ r10 = 5 := by omega
    rcases this with rfl | rfl | rfl | rfl | rfl | rfl
    · exact ⟨_, rfl, .int _, inB_no (by omega), inB_no (by omega), fun e => (by cases e)⟩
    · exact ⟨_, rfl, .non, rfl, rfl, fun e => (by cases e)⟩
    · exact ⟨_, rfl, .bl _, rfl, rfl, fun e => (by cases e)⟩
    · exact ⟨_, rfl, .str _, rfl, rfl, fun e => (by cases e)⟩
    · exact ⟨_, rfl, .tup (B10 _ _ (ne_nw n8 hd7) (S9 _ _ h8)), rfl, rfl, fun e => ne_nw n8 hd7 (by injection e)⟩
    · exact ⟨_, rfl, .int _, inB_no (by omega), inB_no (by omega), fun e => (by cases e)⟩
  refine Rd.ixL (SqL.of (B10 _ _ (ne_nw n9 d8) h9)) (atn hodd) ?_
  clear h9 n9 S9 h8 n8 S8 B10 B7 B6 hd5 hcs5 hd6 hcs6 hd7 hcs7 hP5 hT5 d8 d9 hlim lim0 lim9 hr5 hr6 hr7 hr10 hodd
  walk_at "rd"
  refine Rd.cut (fun σ' H' => ∃ u4 u5 u6 u8 u9 u10 u11 u12 u13 u14 u16 q xs ix cs', σ' = [some (.ref a), some (.ref d), some (.ref t), some (vn r3), u4, u5, u6, some (vn ix), u8, u9, u10, u11, u12, u13, u14, some (.ref q), u16] ∧ H' d = some (.lst cs') ∧ DSt cs' ∧ Tabs (TT K) H' ∧ SqT K H' q xs ∧ PreB H' r3 xs ix) ?_ fun σ' H' h => ?_
  ·
    --<
    walk_at "rd"
    rename_i p11 H11 n11 S11 h11
    refine Rd.inS (xs := [.int 0, .int 3]) (.inl (SqL.of h11)) rfl rfl ?_
    have hP11 := hP10.same S11
    have oA11 := oA.smv S11
    have hT11 := hT10.ext S11
    have d11 := S11 _ _ hd10
    clear h11 n11 S11 hP10 oA hT10 hd10
    have : r3 = 0 ∨ r3 = 1 ∨ r3 = 2 ∨ r3 = 3 := by omega
    rcases this with rfl | rfl | rfl | rfl
    · refine Rd.toB_i (Rd.ift ?_)
      walk_at "rd"
      rename_i p12 H12 n12 S12 h12 r13 H13 cs13 hr13 B13 hd13 hcs13
      have d12 := S12 _ _ d11
      obtain ⟨v0, hv0, a0, b0⟩ : ∃ v, [V.int 0, V.int 1, odd][r13]? = some v ∧ Arg H13 v ∧ inB 2 10000 v = false := by
        have : r13 = 0 ∨ r13 = 1 ∨ r13 = 2 := by omega
        rcases this with rfl | rfl | rfl
        · exact ⟨_, rfl, .int _, rfl⟩
        · exact ⟨_, rfl, .int _, rfl⟩
        · exact ⟨_, rfl, (oA11.smv S12).drw od B13, o2⟩
      refine Rd.ixL (SqL.of (B13 _ _ (ne_nw n12 d11) h12)) (atn hv0) ?_
      have hP13 := (hP11.same S12).but B13 d12
      have hT13 := tabs_but (hT11.ext S12) d12 B13
      clear h12 n12 S12 B13 d12 d11 hP11 hT11 oA11
      walk_at "rd"
      rename_i p14 H14 n14 S14 h14 p15 H15 S15 h15 p16 H16 n16 S16 h16
      rw [cut_preI _ (n := 0) rfl] at h15
      refine Rd.catZ (sqt_sm S16 h15) (SqT.of h16) (by simp) fun p17 H17 S17 h17 => ?_
      walk_at "rd"
      rename_i p18 H18 S18 h18
      rw [cut_sufI _ (z := ((0 : Nat) : Int) + 1) (n := 1) rfl] at h18
      refine Rd.catZ (sqt_sm S18 h17) h18 (by simp) fun p19 H19 S19 h19 => ?_
      have SS := ((((S14.trans S15).trans S16).trans S17).trans S18).trans S19
      have hP19 := hP13.same SS
      walk_at "rd"
      exact ⟨_, _, _, _, _, _, _, _, _, _, _, p19, _, 0, cs13, rfl, SS _ _ hd13, hcs13, hT13.ext SS, h19, .m (a0.smv SS) b0 (PIx.of_pat hP19.tkA hP19.ok.tkP) (PIx.of_pat hP19.clA hP19.ok.clP) (.int _)⟩
    · refine Rd.toB_i (Rd.iff ?_)
      walk_at "rd"
      refine Rd.lenT (SqT.of hP11.tkA) ?_
      walk_at "rd"
      rw [show V.int (((tk.map vn).length : Int) + 1) = vn (tk.length + 1) from vn_int (by rw [List.length_map]; omega)]
      walk_at "rd"
      rename_i r12 H12 cs12 hr12 B12 hd12 hcs12 p13 H13 n13 S13 h13 p14 H14 n14 S14 h14 r15 H15 cs15 hr15 B15 hd15 hcs15
      have d13 := S13 _ _ hd12
      have d14 := S14 _ _ d13
      obtain ⟨w, hw, wA, w9, wd⟩ : ∃ v, [V.int 10, V.int (0 - 1), V.non, V.bl true, V.str ("1" : Str), V.ref p13, V.int 99][r15]? = some v ∧ Arg H15 v ∧ inB 0 9 v = false ∧ v ≠ .ref d := by
        have : r15 = 0 ∨ r15 = 1 ∨ r15 = 2 ∨ r15 = 3 ∨ r15 = 4 ∨ r15 = 5 ∨ r15 = 6 := by omega
        rcases this with rfl | rfl | rfl | rfl | rfl | rfl | rfl
        · exact ⟨_, rfl, .int _, rfl, fun e => (by cases e)⟩
        · exact ⟨_, rfl, .int _, rfl, fun e => (by cases e)⟩
        · exact ⟨_, rfl, .non, rfl, fun e => (by cases e)⟩
        · exact ⟨_, rfl, .bl _, rfl, fun e => (by cases e)⟩
        · exact ⟨_, rfl, .str _, rfl, fun e => (by cases e)⟩
        · exact ⟨_, rfl, .tup (B15 _ _ (ne_nw n13 hd12) (S14 _ _ h13)), rfl, fun e => ne_nw n13 hd12 (by injection e)⟩
        · exact ⟨_, rfl, .int _, rfl, fun e => (by cases e)⟩
      refine Rd.ixL (SqL.of (B15 _ _ (ne_nw n14 d13) h14)) (atn hw) ?_
      have hP15 := ((((hP11.but B12 d11).same S13).same S14).but B15 d14)
      have hT15 := tabs_but (((tabs_but hT11 d11 B12).ext S13).ext S14) d14 B15
      clear h14 n14 S14 h13 n13 S13 B15 B12 hd12 hcs12 d13 d14 d11 hP11 hT11 oA11
      walk_at "rd"
      refine Rd.slT (SqT.of hP15.tkA) fun p16 H16 S16 h16 => ?_
      rw [cut_pre] at h16
      walk_at "rd"
      rename_i p17 H17 n17 S17 h17
      refine Rd.catP (sqt_sm S17 h16) h17 (by simp) (by simp; omega) fun p18 H18 S18 h18 => ?_
      have hP18 := ((hP15.same S16).same S17).same S18
      have hT18 := ((hT15.ext S16).ext S17).ext S18
      have w18 := ((wA.smv S16).smv S17).smv S18
      have d18 := S18 _ _ (S17 _ _ (S16 _ _ hd15))
      clear h17 n17 h16 S18 S17 S16 hd15 hT15 hP15 wA
      walk_at "rd"
      rename_i p19 H19 n19 S19 h19 p20 H20 n20 S20 h20
      refine Rd.repTr h20 (by simp) (by decide) (by decide) (by simp) fun p21 H21 n21 S21 h21 => ?_
      walk_at "rd"
      rename_i p22 H22 n22 S22 h22 r23 H23 cs23 hr23 B23 hd23 hcs23
      have S12 := ((S19.trans S20).trans S21).trans S22
      have d22 := S12 _ _ d18
      have tt : ∀ {p : Addr} {xs : List V}, H22 p = some (.tup xs) → H23 p = some (.tup xs) := fun {p xs} e => B23 _ _ (ne_of e d22 (fun q => by cases q)) e
      have h18' := (h18.same S12).drw B23 d22
      have h19' := tt (S22 _ _ (S21 _ _ (S20 _ _ h19)))
      have h21' := tt (S22 _ _ h21)
      have h22' := tt h22
      have hP23 := (hP18.same S12).but B23 d22
      have hT23 := tabs_but (hT18.ext S12) d22 B23
      have w23 : Arg H23 w := by
        have a := w18.smv S12
        exact a.drw wd B23
      clear tt h22 n22 h21 n21 h20 n20 h19 n19 h18 S12 S19 S20 S21 S22 B23 d22 d18 hP18 hT18 w18
      refine Rd.rep1 h22' (by simp) (by omega) (by omega) (by simp) fun p24 H24 S24 h24 => ?_
      refine Rd.catTr (S24 _ _ h21') h24 (by simp; omega) fun p25 H25 S25 h25 => ?_
      have S235 := S24.trans S25
      have hP25 := hP23.same S235
      have hT25 := hT23.ext S235
      have w25 := w23.smv S235
      have h18b := h18'.same S235
      have h19b := S235 _ _ h19'
      have d25 := S235 _ _ hd23
      clear S235 hP23 hT23 w23 h18' h19' h21' h22' h24 S24 S25 hd23
      walk_at "rd"
      rename_i p26 H26 n26 S26 h26 p27 H27 n27 S27 h27 p28 H28 n28 S28 h28 p29 H29 n29 S29 h29
      have S259 := ((S26.trans S27).trans S28).trans S29
      refine Rd.lstT (SqT.of (S259 _ _ hP25.tkA)) fun p30 H30 n30 S30 h30 => ?_
      walk_at "rd"
      rename_i p31 H31 n31 S31 h31 p32 H32 n32 S32 h32 p33 H33 n33 S33 h33 p34 H34 n34 S34 h34 p35 H35 n35 S35 h35 p36 H36 n36 S36 h36 r37 H37 cs37 hr37 B37 hd37 hcs37
      have S30_6 := ((((S31.trans S32).trans S33).trans S34).trans S35).trans S36
      have S29_6 := S30.trans S30_6
      have S25_6 := S259.trans S29_6
      have d36 := S25_6 _ _ d25
      have tt : ∀ {p : Addr} {xs : List V}, H36 p = some (.tup xs) → H37 p = some (.tup xs) := fun {p xs} e => B37 _ _ (ne_of e d36 (fun q => by cases q)) e
      have hP37 := (hP25.same S25_6).but B37 d36
      have hT37 := tabs_but (hT25.ext S25_6) d36 B37
      have w37 := (w25.smv S25_6).drw wd B37
      obtain ⟨y, bad, ix, hy, hyt, hbad⟩ : ∃ (y : Addr) (bad : V) (ix : Nat), [V.ref p19, V.ref p26, V.ref p28, V.ref p31, V.ref p32, V.ref p33, V.ref p34][r37]? = some (.ref y) ∧ H37 y = some (.tup [bad, vn ix]) ∧ PIx H37 bad (some ix) := by
        have : r37 = 0 ∨ r37 = 1 ∨ r37 = 2 ∨ r37 = 3 ∨ r37 = 4 ∨ r37 = 5 ∨ r37 = 6 := by omega
        rcases this with rfl | rfl | rfl | rfl | rfl | rfl | rfl
        · refine ⟨p19, .ref p18, r12, rfl, tt (S25_6 _ _ h19b), PIx.of_tf ((h18b.same S25_6).drw B37 d36) (fun x hx => ?_) ?_⟩
          · rcases List.mem_append.mp hx with hx | hx
            · obtain ⟨n, _, rfl⟩ := List.mem_map.mp (List.mem_of_mem_take hx)
              exact .int _
            · simp only [List.mem_cons, List.not_mem_nil, or_false] at hx
              rcases hx with rfl | rfl
              · exact w37
              · exact .non
          · have e := badIx_at (xs := List.take r12 (List.map vn tk)) (r := [V.non]) (fun x hx => by
              obtain ⟨n, hn, rfl⟩ := List.mem_map.mp (List.mem_of_mem_take hx)
              exact inB_in (by omega) (by have := hP37.ok.tkP.nine n hn; omega)) (by rw [List.length_take, List.length_map]; omega) w9
            rw [List.length_take, List.length_map, Nat.min_eq_left (by omega)] at e
            exact e
        · refine ⟨p26, .ref p25, 12, rfl, tt (S29_6 _ _ (S29 _ _ (S28 _ _ (S27 _ _ h26)))), ?_⟩
          have e25 := tt (S25_6 _ _ h25)
          rw [show (List.replicate (Int.toNat 12) [V.int 0]).flatten ++ (List.replicate (1 + (r23 : Int)).toNat [V.int 1]).flatten = (List.replicate 12 0 ++ List.replicate (1 + (r23 : Int)).toNat 1).map vn from by rw [List.map_append, List.map_replicate, List.map_replicate, List.flatten_replicate_singleton, List.flatten_replicate_singleton]; rfl] at e25
          refine PIx.of_tf (.inl e25) (fun x hx => by obtain ⟨n, _, rfl⟩ := List.mem_map.mp hx; exact .int _) (xi_bad (.inr (.inr ⟨by simp; omega, fun z hz => ?_, rfl⟩)))
          rcases List.mem_append.mp hz with hz | hz <;> rw [(List.mem_replicate.mp hz).2] <;> omega
        · exact ⟨p28, .ref p27, 0, rfl, tt (S29_6 _ _ (S29 _ _ h28)), PIx.of_tf (.inl (tt (S29_6 _ _ (S29 _ _ (S28 _ _ h27))))) (fun x hx => nomatch hx) rfl⟩
        · have h30' : H37 p30 = some (.lst (tk.map vn)) := B37 _ _ (ne_nw n30 (S259 _ _ d25)) (S30_6 _ _ h30)
          exact ⟨p31, .ref p30, 0, rfl, tt (S36 _ _ (S35 _ _ (S34 _ _ (S33 _ _ (S32 _ _ h31))))), .not (.lst h30') fun r xs e q => by cases q; rw [h30'] at e; cases e⟩
        · exact ⟨p32, .int 5, 0, rfl, tt (S36 _ _ (S35 _ _ (S34 _ _ (S33 _ _ h32)))), .not (.int _) fun r xs e q => by cases q⟩
        · exact ⟨p33, .non, 0, rfl, tt (S36 _ _ (S35 _ _ (S34 _ _ h33))), PIx.nonv⟩
        · exact ⟨p34, .str "12", 0, rfl, tt (S36 _ _ (S35 _ _ h34)), .not (.str _) fun r xs e q => by cases q⟩
      have n36d : p36 ≠ d := ne_nw n36 ((S259.trans S30).trans ((((S31.trans S32).trans S33).trans S34).trans S35) _ _ d25)
      refine Rd.ixL (SqL.of (B37 _ _ n36d h36)) (atn hy) ?_
      clear h36 n36 h35 n35 h34 n34 h33 n33 h32 n32 h31 n31 h30 n30 h29 n29 h28 n28 h27 n27 h26 n26 h25 h18b h19b w25 hT25 hP25 d25 S25_6 S29_6 S30_6 S259 S26 S27 S28 S29 S30 S31 S32 S33 S34 S35 S36 d36 tt B37
      walk_at "rd"
      rename_i p45 H45 S45 h45 p46 H46 n46 S46 h46
      rw [cut_preI _ (n := 1) rfl] at h45
      refine Rd.catZ (sqt_sm S46 h45) (SqT.of h46) (by simp) fun p47 H47 S47 h47 => ?_
      walk_at "rd"
      rename_i p48 H48 S48 h48
      rw [cut_sufI _ (z := ((1 : Nat) : Int) + 1) (n := 2) rfl] at h48
      refine Rd.catZ (sqt_sm S48 h47) h48 (by simp) fun p49 H49 S49 h49 => ?_
      have SS := (((S45.trans S46).trans S47).trans S48).trans S49
      have hP49 := hP37.same SS
      walk_at "rd"
      exact ⟨_, _, _, _, _, _, _, _, _, _, _, p49, _, ix, cs37, rfl, SS _ _ hd37, hcs37, hT37.ext SS, h49, .t hP49.ok.m2 hP49.ok.m4 (hbad.sm SS) (PIx.of_pat hP49.clA hP49.ok.clP) (.int _)⟩
    · refine Rd.toB_i (Rd.iff ?_)
      walk_at "rd"
      refine Rd.lenT (SqT.of hP11.clA) ?_
      walk_at "rd"
      rw [show V.int (((cl.map vn).length : Int) + 1) = vn (cl.length + 1) from vn_int (by rw [List.length_map]; omega)]
      walk_at "rd"
      rename_i r12 H12 cs12 hr12 B12 hd12 hcs12 p13 H13 n13 S13 h13 p14 H14 n14 S14 h14 r15 H15 cs15 hr15 B15 hd15 hcs15
      have d13 := S13 _ _ hd12
      have d14 := S14 _ _ d13
      obtain ⟨w, hw, wA, w9, wd⟩ : ∃ v, [V.int 10, V.int (0 - 1), V.non, V.bl true, V.str ("1" : Str), V.ref p13, V.int 99][r15]? = some v ∧ Arg H15 v ∧ inB 0 9 v = false ∧ v ≠ .ref d := by
        have : r15 = 0 ∨ r15 = 1 ∨ r15 = 2 ∨ r15 = 3 ∨ r15 = 4 ∨ r15 = 5 ∨ r15 = 6 := by omega
        rcases this with rfl | rfl | rfl | rfl | rfl | rfl | rfl
        · exact ⟨_, rfl, .int _, rfl, fun e => (by cases e)⟩
        · exact ⟨_, rfl, .int _, rfl, fun e => (by cases e)⟩
        · exact ⟨_, rfl, .non, rfl, fun e => (by cases e)⟩
        · exact ⟨_, rfl, .bl _, rfl, fun e => (by cases e)⟩
        · exact ⟨_, rfl, .str _, rfl, fun e => (by cases e)⟩
        · exact ⟨_, rfl, .tup (B15 _ _ (ne_nw n13 hd12) (S14 _ _ h13)), rfl, fun e => ne_nw n13 hd12 (by injection e)⟩
        · exact ⟨_, rfl, .int _, rfl, fun e => (by cases e)⟩
      refine Rd.ixL (SqL.of (B15 _ _ (ne_nw n14 d13) h14)) (atn hw) ?_
      have hP15 := ((((hP11.but B12 d11).same S13).same S14).but B15 d14)
      have hT15 := tabs_but (((tabs_but hT11 d11 B12).ext S13).ext S14) d14 B15
      clear h14 n14 S14 h13 n13 S13 B15 B12 hd12 hcs12 d13 d14 d11 hP11 hT11 oA11
      walk_at "rd"
      refine Rd.slT (SqT.of hP15.clA) fun p16 H16 S16 h16 => ?_
      rw [cut_pre] at h16
      walk_at "rd"
      rename_i p17 H17 n17 S17 h17
      refine Rd.catP (sqt_sm S17 h16) h17 (by simp) (by simp; omega) fun p18 H18 S18 h18 => ?_
      have hP18 := ((hP15.same S16).same S17).same S18
      have hT18 := ((hT15.ext S16).ext S17).ext S18
      have w18 := ((wA.smv S16).smv S17).smv S18
      have d18 := S18 _ _ (S17 _ _ (S16 _ _ hd15))
      clear h17 n17 h16 S18 S17 S16 hd15 hT15 hP15 wA
      walk_at "rd"
      rename_i p19 H19 n19 S19 h19 p20 H20 n20 S20 h20
      refine Rd.repTr h20 (by simp) (by decide) (by decide) (by simp) fun p21 H21 n21 S21 h21 => ?_
      walk_at "rd"
      rename_i p22 H22 n22 S22 h22 r23 H23 cs23 hr23 B23 hd23 hcs23
      have S12 := ((S19.trans S20).trans S21).trans S22
      have d22 := S12 _ _ d18
      have tt : ∀ {p : Addr} {xs : List V}, H22 p = some (.tup xs) → H23 p = some (.tup xs) := fun {p xs} e => B23 _ _ (ne_of e d22 (fun q => by cases q)) e
      have h18' := (h18.same S12).drw B23 d22
      have h19' := tt (S22 _ _ (S21 _ _ (S20 _ _ h19)))
      have h21' := tt (S22 _ _ h21)
      have h22' := tt h22
      have hP23 := (hP18.same S12).but B23 d22
      have hT23 := tabs_but (hT18.ext S12) d22 B23
      have w23 : Arg H23 w := by
        have a := w18.smv S12
        exact a.drw wd B23
      clear tt h22 n22 h21 n21 h20 n20 h19 n19 h18 S12 S19 S20 S21 S22 B23 d22 d18 hP18 hT18 w18
      refine Rd.rep1 h22' (by simp) (by omega) (by omega) (by simp) fun p24 H24 S24 h24 => ?_
      refine Rd.catTr (S24 _ _ h21') h24 (by simp; omega) fun p25 H25 S25 h25 => ?_
      have S235 := S24.trans S25
      have hP25 := hP23.same S235
      have hT25 := hT23.ext S235
      have w25 := w23.smv S235
      have h18b := h18'.same S235
      have h19b := S235 _ _ h19'
      have d25 := S235 _ _ hd23
      clear S235 hP23 hT23 w23 h18' h19' h21' h22' h24 S24 S25 hd23
      walk_at "rd"
      rename_i p26 H26 n26 S26 h26 p27 H27 n27 S27 h27 p28 H28 n28 S28 h28 p29 H29 n29 S29 h29
      have S259 := ((S26.trans S27).trans S28).trans S29
      refine Rd.lstT (SqT.of (S259 _ _ hP25.clA)) fun p30 H30 n30 S30 h30 => ?_
      walk_at "rd"
      rename_i p31 H31 n31 S31 h31 p32 H32 n32 S32 h32 p33 H33 n33 S33 h33 p34 H34 n34 S34 h34 p35 H35 n35 S35 h35 p36 H36 n36 S36 h36 r37 H37 cs37 hr37 B37 hd37 hcs37
      have S30_6 := ((((S31.trans S32).trans S33).trans S34).trans S35).trans S36
      have S29_6 := S30.trans S30_6
      have S25_6 := S259.trans S29_6
      have d36 := S25_6 _ _ d25
      have tt : ∀ {p : Addr} {xs : List V}, H36 p = some (.tup xs) → H37 p = some (.tup xs) := fun {p xs} e => B37 _ _ (ne_of e d36 (fun q => by cases q)) e
      have hP37 := (hP25.same S25_6).but B37 d36
      have hT37 := tabs_but (hT25.ext S25_6) d36 B37
      have w37 := (w25.smv S25_6).drw wd B37
      obtain ⟨y, bad, ix, hy, hyt, hbad⟩ : ∃ (y : Addr) (bad : V) (ix : Nat), [V.ref p19, V.ref p26, V.ref p28, V.ref p31, V.ref p32, V.ref p33, V.ref p34][r37]? = some (.ref y) ∧ H37 y = some (.tup [bad, vn ix]) ∧ PIx H37 bad (some ix) := by
        have : r37 = 0 ∨ r37 = 1 ∨ r37 = 2 ∨ r37 = 3 ∨ r37 = 4 ∨ r37 = 5 ∨ r37 = 6 := by omega
        rcases this with rfl | rfl | rfl | rfl | rfl | rfl | rfl
        · refine ⟨p19, .ref p18, r12, rfl, tt (S25_6 _ _ h19b), PIx.of_tf ((h18b.same S25_6).drw B37 d36) (fun x hx => ?_) ?_⟩
          · rcases List.mem_append.mp hx with hx | hx
            · obtain ⟨n, _, rfl⟩ := List.mem_map.mp (List.mem_of_mem_take hx)
              exact .int _
            · simp only [List.mem_cons, List.not_mem_nil, or_false] at hx
              rcases hx with rfl | rfl
              · exact w37
              · exact .non
          · have e := badIx_at (xs := List.take r12 (List.map vn cl)) (r := [V.non]) (fun x hx => by
              obtain ⟨n, hn, rfl⟩ := List.mem_map.mp (List.mem_of_mem_take hx)
              exact inB_in (by omega) (by have := hP37.ok.clP.nine n hn; omega)) (by rw [List.length_take, List.length_map]; omega) w9
            rw [List.length_take, List.length_map, Nat.min_eq_left (by omega)] at e
            exact e
        · refine ⟨p26, .ref p25, 12, rfl, tt (S29_6 _ _ (S29 _ _ (S28 _ _ (S27 _ _ h26)))), ?_⟩
          have e25 := tt (S25_6 _ _ h25)
          rw [show (List.replicate (Int.toNat 12) [V.int 0]).flatten ++ (List.replicate (1 + (r23 : Int)).toNat [V.int 1]).flatten = (List.replicate 12 0 ++ List.replicate (1 + (r23 : Int)).toNat 1).map vn from by rw [List.map_append, List.map_replicate, List.map_replicate, List.flatten_replicate_singleton, List.flatten_replicate_singleton]; rfl] at e25
          refine PIx.of_tf (.inl e25) (fun x hx => by obtain ⟨n, _, rfl⟩ := List.mem_map.mp hx; exact .int _) (xi_bad (.inr (.inr ⟨by simp; omega, fun z hz => ?_, rfl⟩)))
          rcases List.mem_append.mp hz with hz | hz <;> rw [(List.mem_replicate.mp hz).2] <;> omega
        · exact ⟨p28, .ref p27, 0, rfl, tt (S29_6 _ _ (S29 _ _ h28)), PIx.of_tf (.inl (tt (S29_6 _ _ (S29 _ _ (S28 _ _ h27))))) (fun x hx => nomatch hx) rfl⟩
        · have h30' : H37 p30 = some (.lst (cl.map vn)) := B37 _ _ (ne_nw n30 (S259 _ _ d25)) (S30_6 _ _ h30)
          exact ⟨p31, .ref p30, 0, rfl, tt (S36 _ _ (S35 _ _ (S34 _ _ (S33 _ _ (S32 _ _ h31))))), .not (.lst h30') fun r xs e q => by cases q; rw [h30'] at e; cases e⟩
        · exact ⟨p32, .int 5, 0, rfl, tt (S36 _ _ (S35 _ _ (S34 _ _ (S33 _ _ h32)))), .not (.int _) fun r xs e q => by cases q⟩
        · exact ⟨p33, .non, 0, rfl, tt (S36 _ _ (S35 _ _ (S34 _ _ h33))), PIx.nonv⟩
        · exact ⟨p34, .str "12", 0, rfl, tt (S36 _ _ (S35 _ _ h34)), .not (.str _) fun r xs e q => by cases q⟩
      have n36d : p36 ≠ d := ne_nw n36 ((S259.trans S30).trans ((((S31.trans S32).trans S33).trans S34).trans S35) _ _ d25)
      refine Rd.ixL (SqL.of (B37 _ _ n36d h36)) (atn hy) ?_
      clear h36 n36 h35 n35 h34 n34 h33 n33 h32 n32 h31 n31 h30 n30 h29 n29 h28 n28 h27 n27 h26 n26 h25 h18b h19b w25 hT25 hP25 d25 S25_6 S29_6 S30_6 S259 S26 S27 S28 S29 S30 S31 S32 S33 S34 S35 S36 d36 tt B37
      walk_at "rd"
      rename_i p45 H45 S45 h45 p46 H46 n46 S46 h46
      rw [cut_preI _ (n := 2) rfl] at h45
      refine Rd.catZ (sqt_sm S46 h45) (SqT.of h46) (by simp) fun p47 H47 S47 h47 => ?_
      walk_at "rd"
      rename_i p48 H48 S48 h48
      rw [cut_sufI _ (z := ((2 : Nat) : Int) + 1) (n := 3) rfl] at h48
      refine Rd.catZ (sqt_sm S48 h47) h48 (by simp) fun p49 H49 S49 h49 => ?_
      have SS := (((S45.trans S46).trans S47).trans S48).trans S49
      have hP49 := hP37.same SS
      walk_at "rd"
      exact ⟨_, _, _, _, _, _, _, _, _, _, _, p49, _, ix, cs37, rfl, SS _ _ hd37, hcs37, hT37.ext SS, h49, .c hP49.ok.m2 hP49.ok.m4 (PIx.of_pat hP49.tkA hP49.ok.tkP) (hbad.sm SS) (.int _)⟩
    · refine Rd.toB_i (Rd.ift ?_)
      walk_at "rd"
      rename_i p12 H12 n12 S12 h12 r13 H13 cs13 hr13 B13 hd13 hcs13
      have d12 := S12 _ _ d11
      obtain ⟨v0, hv0⟩ : ∃ v, [V.int 0, V.int 1, odd][r13]? = some v := by
        have : r13 = 0 ∨ r13 = 1 ∨ r13 = 2 := by omega
        rcases this with rfl | rfl | rfl <;> exact ⟨_, rfl⟩
      refine Rd.ixL (SqL.of (B13 _ _ (ne_nw n12 d11) h12)) (atn hv0) ?_
      have hP13 := (hP11.same S12).but B13 d12
      have hT13 := tabs_but (hT11.ext S12) d12 B13
      have oA13 := (oA11.smv S12).drw od B13
      clear h12 n12 S12 B13 d12 d11 hP11 hT11 oA11
      walk_at "rd"
      rename_i p14 H14 n14 S14 h14 p15 H15 S15 h15 p16 H16 n16 S16 h16
      rw [cut_preI _ (n := 3) rfl] at h15
      refine Rd.catZ (sqt_sm S16 h15) (SqT.of h16) (by simp) fun p17 H17 S17 h17 => ?_
      walk_at "rd"
      rename_i p18 H18 S18 h18
      rw [cut_sufI _ (z := ((3 : Nat) : Int) + 1) (n := 4) rfl] at h18
      refine Rd.catZ (sqt_sm S18 h17) h18 (by simp) fun p19 H19 S19 h19 => ?_
      have SS := ((((S14.trans S15).trans S16).trans S17).trans S18).trans S19
      have hP19 := hP13.same SS
      walk_at "rd"
      exact ⟨_, _, _, _, _, _, _, _, _, _, _, p19, _, 0, cs13, rfl, SS _ _ hd13, hcs13, hT13.ext SS, h19, .l hP19.ok.m2 hP19.ok.m4 (PIx.of_pat hP19.tkA hP19.ok.tkP) (PIx.of_pat hP19.clA hP19.ok.clP) (oA13.smv SS) o9⟩
    -->
  · obtain ⟨u4, u5, u6, u8, u9, u10, u11, u12, u13, u14, u16, q, xs, ix, cs', rfl, hd, hcs, hT, hq, hB⟩ := h
    obtain ⟨wn, hwn⟩ : ∃ wn, atI [V.str ("modulus" : Str), V.str "takes", V.str "calls", V.str "lateness"] (r3 : Int) = some (.str wn) ∧ wn = wordN r3 := by
      have : r3 = 0 ∨ r3 = 1 ∨ r3 = 2 ∨ r3 = 3 := by omega
      rcases this with rfl | rfl | rfl | rfl <;> exact ⟨_, rfl, rfl⟩
    obtain ⟨hwn, rfl⟩ := hwn
    have l4 : xs.length = 4 := by cases hB <;> rfl
    walk_at "rd"
    rename_i p1 H1 n1 S1 h1
    refine Rd.ixL (SqL.of h1) hwn ?_
    have hB1 := hB.sm S1
    walk_at "rd"
    rename_i q2 H2 S2 h2
    rw [cut_preI xs (n := r3 + 1) (by omega)] at h2
    rw [show (3 - (r3 : Int)) = ((3 - r3 : Nat) : Int) from by omega]
    walk_at "rd"
    refine Rd.lc_rng (fun _ => V.non) (by omega) (fun i hi => ?_) fun D H3 nD S3 h3 => ?_
    · exact Rd.turn1 rfl fun H'' S Q' q => q _ (Same.refl _)
    walk_at "rd"
    rename_i q4 H4 n4 S4 h4
    refine Rd.catZ (sqt_sm (S3.trans S4) h2) (SqT.of h4) (by simp; omega) fun q5 H5 S5 h5 => ?_
    rw [show List.map (fun _ => V.non) (List.range (3 - r3)) = List.replicate (3 - r3) V.non from by rw [List.map_const', List.length_range]] at h5
    have S15 := ((S2.trans S3).trans S4).trans S5
    have hL := (hB1.sm S15).later
    have hB5 := hB1.sm S15
    have hq5 := sqt_sm (S1.trans S15) hq
    have hT5 := hT.ext (S1.trans S15)
    clear h4 n4 h3 nD h2 h1 n1 hB1 S15 S5 S4 S3 S2 S1 hq hT hB hwn
    walk_at "rd"
    refine Rd.lamE hT5 fun f1 cd1 T1 o1 fd1 H6 n6 n61 X6 hT6 hf1 hT1 hc1 LO1 => ?_
    walk_at "rd"
    refine Rd.lamE hT6 fun f2 cd2 T2 o2 fd2 H7 n7 n71 X7 hT7 hf2 hT2 hc2 LO2 => ?_
    walk_at "rd"
    refine Rd.callD ?_
    walk_at "rd"
    rename_i p8 H8 n8 S8 h8 p9 H9 n9 S9 h9 p10 H10 n10 S10 h10
    have S710 := (S8.trans S9).trans S10
    have X57 := X6.trans X7
    have hq10 := sqt_sm S710 (sqt_xt X57 hq5)
    have hB10 := (hB5.xt X57).sm S710
    have hq510 := sqt_sm S710 (sqt_xt X57 h5)
    have hL10 := (hL.xt X57).sm S710
    have f110 := S710 _ _ (X7 _ _ hf1 fun _ z => by cases z)
    have t110 := S710 _ _ (X7 _ _ hT1 fun _ z => by cases z)
    have c110 := S710 _ _ (X7 _ _ hc1 codeO_ne)
    have f210 := S710 _ _ hf2
    have t210 := S710 _ _ hT2
    have c210 := S710 _ _ hc2
    have l810 := S10 _ _ (S9 _ _ h8)
    have h910 := S10 _ _ h9
    clear hf1 hT1 hc1 hf2 hT2 hc2 h8 h9 X6 X7 X57 S710 S8 S9 S10 hq5 hB5 h5 hL hT5 hT6 hT7 n6 n61 n7 n71
    intro H11 up free cells
    refine ⟨p8, .ref p10, [f1, f2], .hall (wordN r3) ix, fun H' => Same H11 H', rfl, by simp, ?_, Same.refl _, fun _ _ a b => a.trans b, fun H12 S12 => ⟨S12 _ _ (up _ _ l810), ?_⟩, fun f hf => ?_, fun H12 S12 => ⟨fun b o e => S12 _ _ e, fun H13 k1 k2 => ?_⟩⟩
    · have : r3 = 0 ∨ r3 = 1 ∨ r3 = 2 ∨ r3 = 3 := by omega
      rcases this with rfl | rfl | rfl | rfl <;> simp [Ex.Er.Ok, wordN]
    · exact dp_hallE (SqT.of (S12 _ _ (up _ _ h10))) (SqT.of (S12 _ _ (up _ _ h910)))
    · simp only [List.mem_cons, List.not_mem_nil, or_false] at hf
      have cap1 : CaptOk (cxOf CX0 P w K mg base N_law "law" (defScope s_law) (He.ga K "law") cdv A outer s H E).nox { kind := .function, names := [("_law_parts_here", .free), ("_law_hall", .globalImplicit)], isGenerator := false, isCoroutine := false } ((([some (V.ref a), some (V.ref d), some (V.ref t), some (vn r3), u4, u5, u6, some (vn ix), u8, u9, u10, u11, u12, u13, u14, some (V.ref q), u16].set 11 (some (V.str (wordN r3)))).set 14 (some (V.ref q5))).set 12 (some (V.ref p8))) := by
        intro y hy e
        simp only [List.mem_cons, List.not_mem_nil, or_false] at hy
        rcases hy with rfl | rfl
        · exact ⟨15, _, rfl, by show (defScope s_law).names.lookup _ = _; decide +kernel, rfl⟩
        · cases e
      have cap2 : CaptOk (cxOf CX0 P w K mg base N_law "law" (defScope s_law) (He.ga K "law") cdv A outer s H E).nox { kind := .function, names := [("_law_a", .local), ("_law_later", .free), ("_law_hall", .globalImplicit)], isGenerator := false, isCoroutine := false } ((([some (V.ref a), some (V.ref d), some (V.ref t), some (vn r3), u4, u5, u6, some (vn ix), u8, u9, u10, u11, u12, u13, u14, some (V.ref q), u16].set 11 (some (V.str (wordN r3)))).set 14 (some (V.ref q5))).set 12 (some (V.ref p8))) := by
        intro y hy e
        simp only [List.mem_cons, List.not_mem_nil, or_false] at hy
        rcases hy with rfl | rfl | rfl
        · cases e
        · exact ⟨14, _, rfl, by show (defScope s_law).names.lookup _ = _; decide +kernel, rfl⟩
        · cases e
      rcases hf with rfl | rfl
      · refine ⟨fd1, _, fun H12 S12 => S12 _ _ (up _ _ f110), LO1, fun H12 E' Q' S12 hE => ?_⟩
        have S112 : Same H10 H12 := fun b o e => S12 _ _ (up _ _ e)
        have SR := same_rem S112 (free _ cap1.fre)
        refine ⟨_, rfl, capt_of cap1 cells fun b o e => S12 _ _ e, S112 _ _ c110, S112 _ _ t110, ?_⟩
        walk_at "rd"
        exact ⟨q, xs, _, ix, rfl, sqt_sm SR hq10, (hB10.sm SR).bad, fun d4 H4 nd S4 hd4 out => hE _ _ _ ⟨rfl, d4, rfl, put_new out hd4⟩ (same_put S12 S4) fun D _ eD => put_keep S4 eD⟩
      · refine ⟨fd2, _, fun H12 S12 => S12 _ _ (up _ _ f210), LO2, fun H12 E' Q' S12 hE => ?_⟩
        have S112 : Same H10 H12 := fun b o e => S12 _ _ (up _ _ e)
        have SR := same_rem S112 (free _ cap2.fre)
        refine ⟨_, rfl, capt_of cap2 cells fun b o e => S12 _ _ e, S112 _ _ c210, S112 _ _ t210, ?_⟩
        walk_at "rd"
        exact ⟨q5, _, _, ix, rfl, sqt_sm SR hq510, (hL10.sm SR).bad, fun d4 H4 nd S4 hd4 out => hE _ _ _ ⟨rfl, d4, rfl, put_new out hd4⟩ (same_put S12 S4) fun D _ eD => put_keep S4 eD⟩
    · walk_at "rd"
      rename_i p14 H14 n14 S14 h14
      refine Rd.repTr h14 (by simp) (by decide) (by decide) (by simp) fun p15 H15 n15 S15 h15 => ?_
      walk_at "rd"
      rename_i p16 H16 n16 S16 h16
      refine Rd.repTr h16 (by simp) (by decide) (by decide) (by simp) fun p17 H17 n17 S17 h17 => ?_
      walk_at "rd"
      refine Rd.h_make (m := 10000) (lt := 99) (tk := List.replicate 12 9) (cl := List.replicate 12 0) ⟨by decide, by decide, ⟨by decide, by decide, by decide⟩, ⟨by decide, by decide, by decide⟩, by decide⟩ (S17 _ _ (S16 _ _ h15)) h17 fun h lp H18 nh nl S18 hA => ?_
      walk_at "rd"
      refine Rd.h_waiting (n := 0) hA (by decide) fun H19 S19 => ?_
      rw [show wt (List.replicate 12 9) (List.replicate 12 0) (0 + 1) = 9 from by decide +kernel]
      walk_at "rd"
      rw [if_pos (decide_eq_true (show vn 9 = V.int 9 from rfl))]
      walk_at "rd"
      rename_i p20 H20 n20 S20 h20 p21 H21 n21 S21 h21
      refine Rd.h_make (m := 2) (lt := 0) (tk := [0]) (cl := [9]) ⟨by decide, by decide, ⟨by decide, by decide, by decide⟩, ⟨by decide, by decide, by decide⟩, by decide⟩ (S21 _ _ h20) h21 fun h2 lp2 H22 nh2 nl2 S22 hA2 => ?_
      walk_at "rd"
      rw [show grow [0] [9] = 0 from by decide +kernel, decide_eq_true (show vn 0 = V.int 0 from rfl)]
      exact k _
end
end Tk

end

/-! ### The end -/
namespace Tk
open PySem PySem.Spec PyProof.Rows L2
theorem pf_law : Ex.PF (PySem.Challenge.rw_ticketwrap_k03_invalid_halls).prog := ⟨by kernel_rfl, by kernel_rfl⟩
theorem facts {w : World} {K : PySem.W.Frag} {h : Heap} {mg : Str → Option Value} {f : Addr} (X : K.In h) (G : h.Ns mainGlobals mg) (hfa : mg ("law" : Str) = some (.ref f)) (c : Says fcts dps K) (t : Tells mks h K) :
    LamX.LawAtS PySem.Challenge.rw_ticketwrap_k03_invalid_halls w K CX0 29 63 "_law_script" mg f h := by
  obtain ⟨fd, F⟩ := law_fn c
  have T := txt X G c
  have e := hfa.symm.trans (He.glo_ok X G (c.fact lawF rfl))
  cases e
  have b := FunD.bindsA (ps := ["_law_script"]) F fun _ _ _ _ _ _ us hl => match us, hl with | [_], _ => rfl
  have mem : ∀ p ∈ mkl.map (fun p => ctAt K (p.1 K)), ∃ q ∈ mks, p = ctAt K (q K) := fun p hp => by
    obtain ⟨q, hq, rfl⟩ := List.mem_map.mp hp
    exact ⟨q.1, List.mem_map.mpr ⟨q, hq, rfl⟩, rfl⟩
  refine ⟨fd, mkl.map (fun p => ctAt K (p.1 K)), spLawT K (TT K), fun p hp => ?_, fun p hp => ?_, fun p hp => ?_, fun s v => b s [v] rfl, fun H a ns hl _ ht hS => ⟨a, ns, rfl, hS, hl, tabs_nil fun p hp => ?_, fun _ => rfl⟩, fun base _ _ hB => ok_law T ⟨fun p hp => hB _ (List.mem_map.mpr ⟨p, hp, rfl⟩), ?_⟩ pf_law F⟩
  · obtain ⟨q, hq, rfl⟩ := mem p hp
    exact t.empty q hq
  · obtain ⟨q, hq, rfl⟩ := mem p hp
    exact t.out q hq
  · obtain ⟨q, hq, rfl⟩ := mem p hp
    exact PySem.W.codeHd_of_K X (t.hd q hq)
  · obtain ⟨q, hq, rfl⟩ := List.mem_map.mp hp
    exact ht _ (List.mem_map.mpr ⟨q, hq, rfl⟩)
  · have z := t.apart
    unfold mks at z
    rw [List.map_map] at z
    exact z
end Tk
open PySem PySem.W PySem.Calls PyProof.Rows
set_option maxRecDepth 100000 in
set_option maxHeartbeats 0 in
theorem PySem.Challenge.cw_ticketwrap_k03_invalid_halls_holds : PySem.Challenge.rw_ticketwrap_k03_invalid_halls.Holds := by
  w_on; o_law
  refine HeadRun.head_imp (r := OpenLaw.row PySem.Challenge.rw_ticketwrap_k03_invalid_halls) (q := view (OpenLaw.row PySem.Challenge.rw_ticketwrap_k03_invalid_halls).prog [0, 48]) (H := Tk.hk) (ob := Tk.ob) (M := 20000) (loose := Tk.names) (d := HeadRun.topDef (OpenLaw.row PySem.Challenge.rw_ticketwrap_k03_invalid_halls).prog 48) (kwd := []) Tk.ob_eq Tk.run
    (by kernel_rfl) (by kernel_rfl) (by kernel_rfl) (by rfl) (by first | assumption | decide +kernel) (by decide +kernel) ⟨rfl, rfl, rfl, rfl, rfl, by decide +kernel⟩ ?hw ?hc
  case hw => w_witness2
  case hc =>
    refine LamX.walk_ofTsE (l := PySem.Challenge.rw_ticketwrap_k03_invalid_halls) (n := 63) (k := 29) (x := "_law_script") (CX := fun _ => L2.CX0) rfl (by decide) (by kernel_rfl) ⟨rfl, by decide, by decide⟩ ?F (fun _ _ _ _ _ z => z)
    intro w mg fa h Y G hmg0
    obtain ⟨K, KX, c, t⟩ := Y
    have hmg : mg ("law" : PySem.Str) = some (.ref fa) := by
      have e : (HeadRun.topDef (OpenLaw.row PySem.Challenge.rw_ticketwrap_k03_invalid_halls).prog 48).name = ("law" : PySem.Str) := by kernel_rfl
      rw [← e]
      exact hmg0
    exact ⟨K, KX, Tk.facts KX G hmg c t⟩
