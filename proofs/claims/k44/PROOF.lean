import PyProof.Rows.All
import Wide.All
import OpenK.AllK
import Wide.FinOn
import KE.KStateDown
import KE.KMathGC
import KE.KTupSum
import KE.GoesEnum
import KE.KUnpackStar
import HandS.StrMore
import HandS.Zip
import HandS.ClsMeth
import HandS.Codes
import HandS.ForMost
import HandS.Exc
import HandS.TryOnly
import HandS.ExcOwn
import HandS.ExcValue
import HandS.WordsExc
import HandS.Defaults
import HandS.Property
import HandS.Conv
import HandS.Flow
import HandS.Wide
import HandS.IsInst
import HandS.TupAny
import HandS.Deep
import HandS.Evl
import HandS.Lambda
import HandS.EndTab
import HandS.HeadWalk
import HandS.GenList
import HandS.RevRange
import HandS.Gcd
import HandS.CallLocal
import HandS.TryMany
import HandS.SetKeys
import HandS.Star
import HandS.TupMul
import HandS.Style
import HandS.SortKw
import KE.DatumOrd
import PyProof.GenComp
import KE.HD3
import HandS.HeadEnd
import HandS.HeadHook1
import HandS.HeadHook2
import HandS.HeadHook4
import HandS.NestedK
import KE.KExcIs
import KE.KExcSuper
import KE.KSuperObj
import HandS.ExcSuper
import HandS.ExcInit
import HandS.ExcField
import HandS.ExcIs
import HandS.FStr
import HandS.SetFor
import PySem.Challenge.RW_ticketwrap_k44_whole_plans_by_trying_all
set_option Elab.async false
set_option linter.all false
set_option maxRecDepth 100000
set_option maxHeartbeats 4000000
/-! ### A. Rules and facts of our own -/
namespace Tk
open PySem PySem.Spec PyProof.Rows L2
section
variable {X : Cx}

/-! math.lcm, sum of a tuple -/
def rLcm : List V → Hp → VK → Prop := fun vs H Q => ∃ a b : Nat, vs = [.int a, .int b] ∧ a < 1000000 ∧ b < 1000000 ∧ Q (.int ((Nat.lcm a b : Nat) : Int)) H
theorem cr_lcm : CallR X (.builtin "math.lcm") rLcm := by
  intro pins s σ H vs us Q I r h
  obtain ⟨a, b, rfl, ha, hb, q⟩ := h
  obtain ⟨t, u, rfl⟩ := Vals.int2 r
  refine PySem.W.mc_lcm (by simp; omega) (by simp; omega) fun _ => ⟨.int _, H, I.tok _, ⟨_, rfl⟩, ?_⟩
  simpa using q
def rSumT (K : PySem.W.Frag) : List V → Hp → VK → Prop := fun vs H Q => ∃ (a : Addr) (ns : List Int), vs = [V.ref a] ∧ SqT K H a (ns.map V.int) ∧ Q (.int ns.sum) H
theorem istup_old {h : Heap} {t : Addr} {its : List Value} (p : IsTup h t its.toArray) : h.IsTuple t its.toArray := by
  obtain ⟨o, ho, hc, n, hd⟩ := p
  exact ⟨o, ho, hc, n, hd⟩
theorem cr_sumT (hc : X.calm = true) : CallR X (.builtin "sum") (rSumT X.K) := by
  intro pins s σ H vs us Q I r h
  obtain ⟨a, ns, rfl, hs, q⟩ := h
  obtain ⟨its, rv, hl, _⟩ := I.tuple hs
  rw [Vals.ref1 r]
  have hi := rv.ints
  obtain ⟨xs, hx⟩ := hi.allInts.items
  have hn : numsOf its.toArray.toList = ns := by rw [show its.toArray.toList = its from rfl, hi.numsOf]
  have ht := istup_old hl
  rw [hx] at ht hn
  rw [nums_intItems] at hn
  refine PySem.W.ktm_sumG (I.ok.hd hc) ht fun h' tk t' hk => ?_
  rw [preSum_eq, List.take_of_length_le (by simp), hn]
  exact ⟨.int _, H, I.kept hk, ⟨_, rfl⟩, q⟩
/-- f(e, ..), f a name for a built-in function of a module -/
theorem pfun {x : Str} {p pos : Pos} {e : Expr} {es : List Expr} {t : TA} {id : String} {r : List V → Hp → VK → Prop} (hc : CallR X (.builtin id) r) (hg : Gl X x) (hm : X.mg x = some (.builtin id)) (ha : PA X (e :: es) t) (hdb : (x == ("__debug__" : Str)) = false := by decide)
    (he : starEach (e :: es) X.env = (false, eval e X.env) :: starEach es X.env := by rfl) (hpl : (backTo pos (starEach es X.env)).any (·.1) = false := by rfl) : PE X (.Call (.Name x p) (e :: es) [] pos) (tCB r t) :=
  ⟨fun pins s σ H _ I h => wpAny_Call_Name_kw (ld_glob I hg hm (PyProof.Rows.callWith_builtin1 (thn (ha.run pos pins s σ H _ I h) fun us s1 ⟨vs, H1, I1, r1, q1⟩ => hc pins s1 σ H1 vs us _ I1 r1 q1) he hpl) hdb)⟩

/-! a comprehension within a comprehension -/
theorem look_relabel {env : Env} : ∀ {names : List (Str × NameKind)} {x : Str}, names.lookup x = some .cell ∨ names.lookup x = some .free →
    (names.map fun (n, k) => if (k == NameKind.free && env.scope.kind == .function && env.kindOf n == some .cell) then (n, NameKind.cell) else (n, k)).lookup x = some .cell ∨
    (names.map fun (n, k) => if (k == NameKind.free && env.scope.kind == .function && env.kindOf n == some .cell) then (n, NameKind.cell) else (n, k)).lookup x = some .free
  | [], x, h => by rcases h with h | h <;> simp at h
  | (n, k) :: r, x, h => by
    have ih := @look_relabel env r x
    show List.lookup x ((if (k == NameKind.free && env.scope.kind == .function && env.kindOf n == some .cell) = true then (n, NameKind.cell) else (n, k)) :: _) = _ ∨ List.lookup x ((if (k == NameKind.free && env.scope.kind == .function && env.kindOf n == some .cell) = true then (n, NameKind.cell) else (n, k)) :: _) = _
    cases hx : x == n with
    | true =>
      simp only [List.lookup_cons, hx] at h
      by_cases hc : (k == NameKind.free && env.scope.kind == .function && env.kindOf n == some .cell) = true
      · rw [if_pos hc]
        simp [List.lookup_cons, hx]
      · rw [if_neg hc]
        simp only [List.lookup_cons, hx]
        exact h
    | false =>
      simp only [List.lookup_cons, hx] at h
      by_cases hc : (k == NameKind.free && env.scope.kind == .function && env.kindOf n == some .cell) = true
      · rw [if_pos hc]; simp only [List.lookup_cons, hx]; exact ih h
      · rw [if_neg hc]; simp only [List.lookup_cons, hx]; exact ih h
theorem blkRe {N : List Str} {sc scope : Scope} {own : List (Str × Nat)} {env : Env} (h : BlkOk N sc scope own) : BlkOk N (relabel sc env) scope own :=
  ⟨h.kind, h.uniq, h.ix, fun y hy e => look_relabel (h.free y hy e), h.own⟩
/-! a def that stands at a and keeps a promise; its calls -/
structure OkF (P : Program) (w : World) (K : PySem.W.Frag) (mg : Str → Option Value) (base : Heap) (k : Nat) (a : Addr) (ps : List Str) (sp : Sp) : Prop where
  ex : ∃ fd, FnOk P w K mg base (L2.CX P w) k a fd ps sp ∧ Binds K fd ps []
  kp : PySem.W.keepIn K (.ref a) = true
theorem OkF.one {P : Program} {w : World} {K : PySem.W.Frag} {mg : Str → Option Value} {base : Heap} {k : Nat} {a : Addr} {ps : List Str} {sp : Sp} (O : OkF P w K mg base k a ps sp) : FnOk P w K mg base (L2.CX P w) k a (Classical.choose O.ex) ps sp := (Classical.choose_spec O.ex).1
theorem OkF.two {P : Program} {w : World} {K : PySem.W.Frag} {mg : Str → Option Value} {base : Heap} {k : Nat} {a : Addr} {ps : List Str} {sp : Sp} (O : OkF P w K mg base k a ps sp) : Binds K (Classical.choose O.ex) ps [] := (Classical.choose_spec O.ex).2
variable {x : Str} {pos : Pos}
/-- a constant of the module -/
theorem pe_gint {v : Int} (hg : Gl X x) (h : ∃ t, X.mg x = some (.int v t)) (hd : (x == ("__debug__" : Str)) = false := by decide) : PE X (.Name x pos) (tC (.int v)) := by
  obtain ⟨t, h⟩ := h
  exact pe_glob hg h ⟨t, rfl⟩ hd
end

/-! facts of the top, read by a Hook -/
abbrev FnP (K : PySem.W.Frag) (x qual : Str) (st : Stmt) (f : Addr) (fd : FuncData) : Prop := FunD K x qual (defArgs st) (defBody st) (defScope st) [] [] f fd
/-- where a def stands, and the def -/
structure Dp where
  at_ : PySem.W.Frag → Addr
  d : He.DefD
  cl : Option ((PySem.W.Frag → Addr) × Str) := none
def look (K : PySem.W.Frag) (a : Addr) : He.FnW := match K.lookup a with
  | some o => (match o.data with
    | .func fd => some (fd.name, fd.qualname, fd.params, fd.body, fd.scope, fd.globals, fd.closure, fd.builtins)
    | _ => none)
  | none => none
def okA (K : PySem.W.Frag) (a : Addr) (d : He.DefD) : Bool := PySem.W.keepIn K (.ref a) && (match K.lookup a with
  | some o => (match o.data with
    | .func fd => PySem.W.codeIn K fd.code d.qual && (He.dflB K fd.defaults (d.dvs K) && He.kwdB K fd.kwdefaults (d.kws K))
    | _ => false)
  | none => false)
theorem fun_at {K : PySem.W.Frag} {a : Addr} {d : He.DefD} (e : look K a = d.val) (c : okA K a d = true) : ∃ fd, FunD K d.name d.qual d.params d.body d.scope (d.dvs K) (d.kws K) a fd := by
  obtain ⟨kp, c2⟩ := He.ba c
  unfold look at e
  cases q : K.lookup a with
  | none => rw [q] at c2; cases c2
  | some o =>
    obtain ⟨oc, od, dt, osl⟩ := o
    rw [q] at c2 e
    cases dt with
    | func fd =>
      obtain ⟨n1, n2, n3, n4, n5, n6, n7, n8, n9, n10, n11, n12, n13, n14, n15⟩ := fd
      have z : (some (n1, n2, n3, n4, n5, n6, n7, n15) : He.FnW) = d.val := e
      unfold He.DefD.val at z
      simp only [Option.some.injEq, Prod.mk.injEq] at z
      obtain ⟨rfl, rfl, rfl, rfl, rfl, rfl, rfl, rfl⟩ := z
      obtain ⟨c3, c4⟩ := He.ba (show (PySem.W.codeIn K n13 d.qual && (He.dflB K n8 (d.dvs K) && He.kwdB K n9 (d.kws K))) = true from c2)
      obtain ⟨c5, c6⟩ := He.ba c4
      exact ⟨_, ⟨oc, od, n8, n9, n10, n11, n12, n13, n14, osl, rfl, q, c3, He.dflB_ok c5, He.kwdB_ok c6⟩, kp⟩
    | _ => cases c2
/-! an __init__ that says super(): its closure is one cell, which holds the class -/
def lookX (K : PySem.W.Frag) (a : Addr) : He.FnW := match K.lookup a with
  | some o => (match o.data with
    | .func fd => some (fd.name, fd.qualname, fd.params, fd.body, fd.scope, fd.globals, fd.closure.map (fun q => (q.1, 0)), fd.builtins)
    | _ => none)
  | none => none
def valX (d : He.DefD) : He.FnW := some ("__init__", d.qual, d.params, .stmts d.body, d.scope, mainGlobals, [("__class__", 0)], builtinsNs)
def codeFB (K : PySem.W.Frag) (cd : Value) (file : Str) : Bool := match cd with
  | .ref c => (match K.lookup c with
    | some ⟨_, _, .fields vs, _⟩ => (match (vs[2]? : Option Value) with
      | some (.str y _) => decide (y = file)
      | _ => false)
    | _ => false)
  | _ => false
def cellB (K : PySem.W.Frag) (cl : List (Str × Addr)) (C : Addr) : Bool := match cl with
  | [(_, cc)] => (match K.lookup cc with
    | some ⟨_, _, .cell (some v), _⟩ => decide (v = .ref C)
    | _ => false)
  | _ => false
def okX (K : PySem.W.Frag) (a C : Addr) (qual file : Str) : Bool := PySem.W.keepIn K (.ref a) && (match K.lookup a with
  | some ⟨oc, _, .func fd, _⟩ => decide (oc = .type "function") && (decide (fd.defaults = .none) && (decide (fd.kwdefaults = .none) && (PySem.W.codeIn K fd.code qual && (codeFB K fd.code file && cellB K fd.closure C))))
  | _ => false)
def Dp.look (K : PySem.W.Frag) (p : Dp) : He.FnW := match p.cl with
  | none => Tk.look K (p.at_ K)
  | some _ => lookX K (p.at_ K)
def Dp.ok (K : PySem.W.Frag) (p : Dp) : Bool := match p.cl with
  | none => okA K (p.at_ K) p.d
  | some q => okX K (p.at_ K) (q.1 K) p.d.qual q.2
def Dp.val (p : Dp) : He.FnW := match p.cl with
  | none => p.d.val
  | some _ => valX p.d
theorem init_at {K : PySem.W.Frag} {a C : Addr} {d : He.DefD} {file : Str} (e : lookX K a = valX d) (c : okX K a C d.qual file = true) : PySem.W.keepIn K (.ref a) = true ∧
    ∃ (od : Option Addr) (doc pm ctv : Value) (an : Option Addr) (osl : Array (Option Value)) (c cc : Addr) (oc ocl : Obj) (vs : Array Value) (tf : Tok),
      K.lookup a = some ⟨.type "function", od, .func (PySem.W.fnX "__init__" d.qual d.params d.body d.scope [("__class__", cc)] .none .none doc pm an (.ref c) ctv), osl⟩ ∧ PySem.W.codeIn K (.ref c) d.qual = true ∧
        K.lookup c = some oc ∧ oc.data = .fields vs ∧ vs[2]? = some (.str file tf) ∧ K.lookup cc = some ocl ∧ ocl.data = .cell (some (.ref C)) := by
  obtain ⟨kp, c2⟩ := He.ba c
  refine ⟨kp, ?_⟩
  unfold lookX at e
  cases q : K.lookup a with
  | none => rw [q] at c2; cases c2
  | some o =>
    obtain ⟨oc, od, dt, osl⟩ := o
    rw [q] at c2 e
    cases dt with
    | func fd =>
      obtain ⟨n1, n2, n3, n4, n5, n6, n7, n8, n9, n10, n11, n12, n13, n14, n15⟩ := fd
      have z : (some (n1, n2, n3, n4, n5, n6, n7.map (fun q => (q.1, 0)), n15) : He.FnW) = valX d := e
      unfold valX at z
      simp only [Option.some.injEq, Prod.mk.injEq] at z
      obtain ⟨rfl, rfl, rfl, rfl, rfl, rfl, z7, rfl⟩ := z
      obtain ⟨c3, c4⟩ := He.ba (show (decide (oc = .type "function") && (decide (n8 = .none) && (decide (n9 = .none) && (PySem.W.codeIn K n13 d.qual && (codeFB K n13 file && cellB K n7 C))))) = true from c2)
      obtain ⟨c5, c6⟩ := He.ba c4
      obtain ⟨c7, c8⟩ := He.ba c6
      obtain ⟨c9, c10⟩ := He.ba c8
      obtain ⟨c11, c12⟩ := He.ba c10
      obtain rfl := of_decide_eq_true c3
      obtain rfl := of_decide_eq_true c5
      obtain rfl := of_decide_eq_true c7
      obtain ⟨c0, rfl⟩ := He.codeIn_ref c9
      unfold codeFB at c11
      dsimp only at c11
      obtain ⟨ob, vs, tf, lb, hv, hf⟩ : ∃ (ob : Obj) (vs : Array Value) (tf : Tok), K.lookup c0 = some ob ∧ ob.data = .fields vs ∧ vs[2]? = some (.str file tf) := by
        cases q0 : K.lookup c0 with
        | none => rw [q0] at c11; cases c11
        | some ob =>
          obtain ⟨b1, b2, dt, b4⟩ := ob
          rw [q0] at c11
          cases dt with
          | fields vs =>
            have c11 : (match (vs[2]? : Option Value) with
              | some (.str y _) => decide (y = file)
              | _ => false) = true := c11
            cases q2 : (vs[2]? : Option Value) with
            | none => rw [q2] at c11; cases c11
            | some v =>
              rw [q2] at c11
              cases v with
              | str y tf =>
                obtain rfl : y = file := of_decide_eq_true c11
                exact ⟨_, vs, tf, rfl, rfl, q2⟩
              | _ => cases c11
          | _ => cases c11
      unfold cellB at c12
      cases n7 with
      | nil => cases c12
      | cons p r =>
        obtain ⟨pn, cc⟩ := p
        cases r with
        | cons p2 r2 => cases c12
        | nil =>
          obtain ⟨z7, _⟩ := List.cons.inj (show [(pn, (0 : Addr))] = [(("__class__" : Str), (0 : Addr))] from z7)
          obtain rfl : pn = "__class__" := (Prod.mk.inj z7).1
          have c12 : (match K.lookup cc with
            | some ⟨_, _, .cell (some v), _⟩ => decide (v = .ref C)
            | _ => false) = true := c12
          cases q3 : K.lookup cc with
          | none => rw [q3] at c12; cases c12
          | some ocl =>
            obtain ⟨b1, b2, dt, b4⟩ := ocl
            rw [q3] at c12
            cases dt with
            | cell v =>
              cases v with
              | none => cases c12
              | some v =>
                obtain rfl : v = .ref C := of_decide_eq_true c12
                exact ⟨od, _, _, _, _, osl, c0, cc, ob, _, vs, tf, rfl, c9, lb, hv, hf, q3, rfl⟩
            | _ => cases c12
    | _ => cases c2
abbrev Al : Type := Bool × List He.FnW
def obsT (fa : List (PySem.W.Frag → Bool)) (fn : List Dp) (K : PySem.W.Frag) : Al := ((fa.all fun f => f K) && fn.all fun d => d.ok K, fn.map fun d => d.look K)
def valT (fn : List Dp) : Al := (true, fn.map fun d => d.val)
def Says (fa : List (PySem.W.Frag → Bool)) (fn : List Dp) (K : PySem.W.Frag) : Prop := obsT fa fn K = valT fn
/-! defs that make functions: their code objects, the tables of these -/
def codeAt (K : PySem.W.Frag) (a : Addr) : Addr := match K.lookup a with
  | some ⟨_, _, .func fd, _⟩ => (match fd.code with
    | .ref c => c
    | _ => 0)
  | _ => 0
def ctAt (K : PySem.W.Frag) (a : Addr) : Addr × Addr := (codeAt K a, He.tabOf K (codeAt K a))
theorem codeAt_eq {K : PySem.W.Frag} {a : Addr} {oc : Value} {od : Option Addr} {osl : Array (Option Value)} {fd : FuncData} {cd : Value} {q : Str} (lk : K.lookup a = some ⟨oc, od, .func fd, osl⟩) (e : fd.code = cd) (h : PySem.W.codeIn K cd q = true) : cd = .ref (codeAt K a) := by
  obtain ⟨c, rfl⟩ := He.codeIn_ref h
  unfold codeAt
  rw [lk]
  show Value.ref c = .ref (match fd.code with | .ref c => c | _ => 0)
  rw [e]
abbrev Mk_ : Type := PySem.W.Frag → Addr
/-- what is looked at: what is reached from the module, and the notes on builtins -/
def asX (g : Addr → Option Obj) (n : Nat) : List Addr := cStatics :: He.asD g n
structure Tells (tf : List Mk_) (h : Heap) (K : PySem.W.Frag) : Prop where
  hd : ∀ p ∈ tf, PySem.W.codeHdIn K (ctAt K (p K)).1 (ctAt K (p K)).2 = true
  out : ∀ p ∈ tf, K.lookup (ctAt K (p K)).2 = none
  empty : ∀ p ∈ tf, h.get? (ctAt K (p K)).2 = some { cls := .none, data := .fields #[] }
  apart : (tf.map fun p => (ctAt K (p K)).2).Nodup
def tabsB (g : Addr → Option Obj) (tf : List Mk_) (K : PySem.W.Frag) : Bool := (tf.all fun p => PySem.W.codeHdIn K (ctAt K (p K)).1 (ctAt K (p K)).2 && (match g (ctAt K (p K)).2 with
  | some o => He.emptyTab o
  | none => false)) && decide ((tf.map fun p => (ctAt K (p K)).2).Nodup)
abbrev AlX : Type := Al × Bool
def obsG (n : Nat) (fa : List (PySem.W.Frag → Bool)) (fn : List Dp) (tf : List Mk_) (g : Addr → Option Obj) : AlX := (obsT fa fn (He.frT g (asX g n)), tabsB g tf (He.frT g (asX g n)))
theorem tells_of {n : Nat} {tf : List Mk_} {h : Heap} (e : tabsB h.get? tf (He.frT h.get? (asX h.get? n)) = true) : Tells tf h (He.frT h.get? (asX h.get? n)) := by
  obtain ⟨h2, h5⟩ := He.ba e
  have key : ∀ p ∈ tf, PySem.W.codeHdIn (He.frT h.get? (asX h.get? n)) (ctAt (He.frT h.get? (asX h.get? n)) (p (He.frT h.get? (asX h.get? n)))).1 (ctAt (He.frT h.get? (asX h.get? n)) (p (He.frT h.get? (asX h.get? n)))).2 = true ∧
      ∃ o, h.get? (ctAt (He.frT h.get? (asX h.get? n)) (p (He.frT h.get? (asX h.get? n)))).2 = some o ∧ He.emptyTab o = true := fun p hp => by
    obtain ⟨h3, h4⟩ := He.ba (List.all_eq_true.mp h2 p hp)
    refine ⟨h3, ?_⟩
    generalize h.get? (ctAt (He.frT h.get? (asX h.get? n)) (p (He.frT h.get? (asX h.get? n)))).2 = z at h4
    cases z with
    | none => cases h4
    | some o => exact ⟨o, rfl, h4⟩
  exact ⟨fun p hp => (key p hp).1, fun p hp => by
    obtain ⟨_, o, q, z⟩ := key p hp
    exact He.frT_none q z, fun p hp => by
    obtain ⟨_, o, q, z⟩ := key p hp
    rw [q, He.emptyTab_eq z], of_decide_eq_true h5⟩
def hook (n : Nat) (fa : List (PySem.W.Frag → Bool)) (fn : List Dp) (tf : List Mk_) : PySem.W.Hook where
  α := AlX
  obs := fun s => obsG n fa fn tf s.heap.get?
  val := fun _ => (valT fn, true)
  says := fun _ h => ∃ K : PySem.W.Frag, K.In h ∧ Says fa fn K ∧ Tells tf h K
  of := fun _ _ e => ⟨_, He.frT_in, congrArg (fun z : AlX => z.1) e, tells_of (congrArg (fun z : AlX => z.2) e)⟩
  keeps := fun _ _ _ ⟨K, hK, c, t⟩ q => ⟨K, PySem.W.Frag.In.keeps hK q, c, t.hd, t.out, fun p hp => q _ _ (t.empty p hp), t.apart⟩
theorem obsG_eq {n : Nat} {fa : List (PySem.W.Frag → Bool)} {fn : List Dp} {tf : List Mk_} {g : Addr → Option Obj} {s : Shared} (h : ∀ a, g a = s.heap.get? a) : obsG n fa fn tf g = (hook n fa fn tf).obs s :=
  congrArg (obsG n fa fn tf) (funext h)
section
variable {fa : List (PySem.W.Frag → Bool)} {fn : List Dp} {K : PySem.W.Frag}
theorem Says.fact (c : Says fa fn K) (i : Nat) {f : PySem.W.Frag → Bool} (h : fa[i]? = some f := by rfl) : f K = true :=
  List.all_eq_true.mp (He.ba (show ((fa.all fun f => f K) && fn.all fun d => d.ok K) = true from congrArg (fun z : Al => z.1) c)).1 f (List.mem_of_getElem? h)
theorem Says.at_ (c : Says fa fn K) (i : Nat) {d : Dp} (h : fn[i]? = some d) : d.look K = d.val ∧ d.ok K = true := by
  have c2 := (He.ba (show ((fa.all fun f => f K) && fn.all fun d => d.ok K) = true from congrArg (fun z : Al => z.1) c)).2
  have c3 := List.all_eq_true.mp c2 d (List.mem_of_getElem? h)
  have e : (fn.map fun d => d.look K)[i]? = (fn.map fun d => d.val)[i]? := congrArg (fun z : Al => z.2[i]?) c
  rw [List.getElem?_map, List.getElem?_map, h] at e
  exact ⟨Option.some.inj e, c3⟩
theorem Says.def_ (c : Says fa fn K) (i : Nat) {at_ : PySem.W.Frag → Addr} {d : He.DefD} (h : fn[i]? = some ⟨at_, d, none⟩ := by rfl) : (∃ fd, FunD K d.name d.qual d.params d.body d.scope (d.dvs K) (d.kws K) (at_ K) fd) ∧ PySem.W.keepIn K (.ref (at_ K)) = true := by
  obtain ⟨e, c3⟩ := c.at_ i h
  exact ⟨fun_at e c3, (He.ba (show okA K (at_ K) d = true from c3)).1⟩
theorem Says.init_ (c : Says fa fn K) (i : Nat) {at_ C : PySem.W.Frag → Addr} {d : He.DefD} {file : Str} (h : fn[i]? = some ⟨at_, d, some (C, file)⟩ := by rfl) : PySem.W.keepIn K (.ref (at_ K)) = true ∧
    ∃ (od : Option Addr) (doc pm ctv : Value) (an : Option Addr) (osl : Array (Option Value)) (c cc : Addr) (oc ocl : Obj) (vs : Array Value) (tf : Tok),
      K.lookup (at_ K) = some ⟨.type "function", od, .func (PySem.W.fnX "__init__" d.qual d.params d.body d.scope [("__class__", cc)] .none .none doc pm an (.ref c) ctv), osl⟩ ∧ PySem.W.codeIn K (.ref c) d.qual = true ∧
        K.lookup c = some oc ∧ oc.data = .fields vs ∧ vs[2]? = some (.str file tf) ∧ K.lookup cc = some ocl ∧ ocl.data = .cell (some (.ref (C K))) := by
  obtain ⟨e, c3⟩ := c.at_ i h
  exact init_at e c3
end
/-! single facts -/
/-- where the property f of the class C has its getter -/
def propAt (K : PySem.W.Frag) (C : Addr) (f : Str) : Addr := match PySem.W.findIn K (.ref C) f with
  | some (some (.ref p)) => p
  | _ => 0
def getAt (K : PySem.W.Frag) (C : Addr) (f : Str) : Addr := match PySem.W.recIn K (propAt K C f) "property" with
  | some (.ref g :: _) => g
  | _ => 0
def propB (K : PySem.W.Frag) (C : Addr) (f : Str) : Bool := decide (PySem.W.findIn K (.ref C) f = some (some (.ref (propAt K C f)))) && (decide (PySem.W.specialIn K (.ref (propAt K C f)) "__get__" = some (some (.builtin "property.__get__"))) &&
  (decide (PySem.W.takesIn K (.ref (propAt K C f)) = some true) && (match PySem.W.recIn K (propAt K C f) "property" with
    | some (v :: _) => decide (v = .ref (getAt K C f))
    | _ => false)))
theorem prop_ok {K : PySem.W.Frag} {C : Addr} {f : Str} (h : propB K C f = true) : PropOf K C f (propAt K C f) (getAt K C f) := by
  obtain ⟨h1, h⟩ := He.ba h
  obtain ⟨h2, h⟩ := He.ba h
  obtain ⟨h3, h4⟩ := He.ba h
  refine ⟨of_decide_eq_true h1, of_decide_eq_true h2, of_decide_eq_true h3, ?_⟩
  cases e : PySem.W.recIn K (propAt K C f) "property" with
  | none => rw [e] at h4; cases h4
  | some l =>
    rw [e] at h4
    cases l with
    | nil => cases h4
    | cons v r => exact ⟨r, by rw [show v = _ from of_decide_eq_true h4]⟩
def bltB (x : Str) (id : String) (K : PySem.W.Frag) : Bool := decide (PySem.W.nsIn K mainGlobals x = some (some (.builtin id)))
theorem blt_ok {K : PySem.W.Frag} {h : Heap} {mg : Str → Option Value} (X : K.In h) (G : h.Ns mainGlobals mg) {x : Str} {id : String} (c : bltB x id K = true) : mg x = some (.builtin id) := PySem.W.mg_of X G (of_decide_eq_true c)
def fcB (f : He.Fa) (K : PySem.W.Frag) : Bool := f.ok K

/-- the class method m of the class C: its record, its def -/
def cmAt (K : PySem.W.Frag) (C : Addr) (m : Str) : Addr := match PySem.W.findIn K (.ref C) m with
  | some (some (.ref p)) => p
  | _ => 0
def cmFn (K : PySem.W.Frag) (C : Addr) (m : Str) : Addr := match PySem.W.recIn K (cmAt K C m) "classmethod" with
  | some (.ref g :: _) => g
  | _ => 0
def cmB (K : PySem.W.Frag) (C : Addr) (m : Str) : Bool := PySem.W.readsIn K C (.type "type") && (decide (PySem.W.specialIn K (.ref C) "__getattribute__" = some (some (.builtin "type.__getattribute__"))) && ((match PySem.W.findCls K (.ref C) (.type "type") m with
    | some (.get a b c d) => decide (a = .builtin "classmethod.__get__") && (decide (b = .ref (cmAt K C m)) && (decide (c = .none) && decide (d = .ref C)))
    | _ => false) && ((match PySem.W.recIn K (cmAt K C m) "classmethod" with
    | some (v :: _) => decide (v = .ref (cmFn K C m))
    | _ => false) && PySem.W.fnIn K (cmFn K C m))))
theorem cm_ok {K : PySem.W.Frag} {C : Addr} {m : Str} (h : cmB K C m = true) : ClX.CRead K C (.type "type") ∧ ClX.CMet K C (.type "type") m (cmAt K C m) (cmFn K C m) := by
  obtain ⟨h1, h⟩ := He.ba h
  obtain ⟨h2, h⟩ := He.ba h
  obtain ⟨h3, h⟩ := He.ba h
  obtain ⟨h4, h5⟩ := He.ba h
  refine ⟨⟨h1, of_decide_eq_true h2⟩, ?_, ?_, h5⟩
  · cases e : PySem.W.findCls K (.ref C) (.type "type") m with
    | none => rw [e] at h3; cases h3
    | some z =>
      rw [e] at h3
      cases z with
      | get a b c d =>
        obtain ⟨z1, z⟩ := He.ba (show (decide (a = .builtin "classmethod.__get__") && (decide (b = .ref (cmAt K C m)) && (decide (c = .none) && decide (d = .ref C)))) = true from h3)
        obtain ⟨z2, z⟩ := He.ba z
        obtain ⟨z3, z4⟩ := He.ba z
        rw [of_decide_eq_true z1, of_decide_eq_true z2, of_decide_eq_true z3, of_decide_eq_true z4]
      | _ => cases h3
  · cases e : PySem.W.recIn K (cmAt K C m) "classmethod" with
    | none => rw [e] at h4; cases h4
    | some l =>
      rw [e] at h4
      cases l with
      | nil => cases h4
      | cons v r => exact ⟨r, by rw [show v = _ from of_decide_eq_true h4]⟩
/-- a tuple of texts of the module -/
def strsB : List Value → List Str → Bool
  | [], [] => true
  | .str x _ :: r, y :: s => decide (x = y) && strsB r s
  | _, _ => false
theorem strs_ok : ∀ {l : List Value} {ss : List Str}, strsB l ss = true → Vals (ss.map V.str) l
  | [], [], _ => .nil
  | [], _ :: _, h => by cases h
  | v :: r, ss, h => by
    cases v with
    | str x t =>
      cases ss with
      | nil => cases h
      | cons y s =>
        obtain ⟨h1, h2⟩ := He.ba (show (decide (x = y) && strsB r s) = true from h)
        rw [List.map_cons]
        exact .cons ⟨t, by rw [of_decide_eq_true h1]⟩ (strs_ok h2)
    | _ => cases h
def tupB (x : Str) (ss : List Str) (K : PySem.W.Frag) : Bool := match K.lookup (He.ga K x) with
  | some ⟨.type c, _, .seq its _, _⟩ => decide (c = "tuple") && (decide (its.size ≤ 1000) && strsB its.toList ss)
  | _ => false
theorem tup_ok {K : PySem.W.Frag} {x : Str} {ss : List Str} (h : tupB x ss K = true) (H : Hp) : SqT K H (He.ga K x) (ss.map V.str) := by
  unfold tupB at h
  cases q : K.lookup (He.ga K x) with
  | none => rw [q] at h; cases h
  | some o =>
    obtain ⟨oc, od, dt, osl⟩ := o
    rw [q] at h
    cases oc with
    | type c =>
      cases dt with
      | seq its n =>
        obtain ⟨h1, h⟩ := He.ba (show (decide (c = "tuple") && (decide (its.size ≤ 1000) && strsB its.toList ss)) = true from h)
        obtain ⟨h2, h3⟩ := He.ba h
        refine .inr ⟨_, its, n, q, congrArg Value.type (of_decide_eq_true h1), rfl, ?_, strs_ok h3⟩
        have := of_decide_eq_true h2
        rw [sizeLine_eq]
        omega
      | _ => cases h
    | _ => cases dt <;> cases h
/-- a place, as a value -/
abbrev vnI (i : Nat) : V := .int (i : Int)

/-! named readings -/
namespace Rd
def rJoin (K : PySem.W.Frag) : V → List V → Hp → VK → Prop := fun x xs H Q => ∃ a p, ∃ ys : List Str, x = .str a ∧ xs = [.ref p] ∧ (SqL K H p (ys.map V.str) ∨ SqT K H p (ys.map V.str)) ∧ (ys.map (·.length)).sum + ys.length * a.length ≤ 16777216 ∧ Q (.str (Txt.join a ys)) H
def rSplit : V → List V → Hp → VK → Prop := fun x xs H Q => ∃ a b, x = .str a ∧ xs = [.str b] ∧ (b.length == 0) = false ∧ a.length + 2 ≤ sizeLine ∧ rNewStrs (Txt.split a b) H Q
def rMax2 : List V → Hp → VK → Prop := fun xs H Q => ∃ i j, xs = [.int i, .int j] ∧ Q (.int (if j > i then j else i)) H
def rMin2 : List V → Hp → VK → Prop := fun xs H Q => ∃ i j, xs = [.int i, .int j] ∧ Q (.int (if j < i then j else i)) H
def rIsN : R2 := fun x y H Q => y = .non ∧ Q (.bl (decide (x = .non))) H
def rNotN : R2 := fun x y H Q => y = .non ∧ Q (.bl (!decide (x = .non))) H
def rLst (K : PySem.W.Frag) : List V → Hp → VK → Prop := fun xs H Q => ∃ p ys, xs = [.ref p] ∧ (SqL K H p ys ∨ SqT K H p ys) ∧ ∀ l, H l = none → Q (.ref l) (upd H l (.lst ys))
def rTpl (K : PySem.W.Frag) : List V → Hp → VK → Prop := fun xs H Q => ∃ p ys, xs = [.ref p] ∧ ((SqL K H p ys ∧ ∀ l, H l = none → Q (.ref l) (upd H l (.tup ys))) ∨ (SqT K H p ys ∧ Q (.ref p) H))
def rInt1 : List V → Hp → VK → Prop := fun xs H Q => (∃ i, xs = [V.int i] ∧ Q (V.int i) H) ∨ ∃ k, xs = [V.bl k] ∧ Q (V.int (if k = true then 1 else 0)) H
def rStrI : List V → Hp → VK → Prop := fun xs H Q => ∃ i : Int, xs = [.int i] ∧ i.natAbs.log2 < 1920 ∧ Q (.str (toString i)) H
def rAddS : R2 := fun x y H Q => ∃ i j, x = .str i ∧ y = .str j ∧ i.length + j.length ≤ sizeLine ∧ Q (.str (i ++ j)) H
def rLenStr : List V → Hp → VK → Prop := fun xs H Q => ∃ z, xs = [.str z] ∧ z.length ≤ sizeLine ∧ Q (.int z.length) H
end Rd
section
variable {X : Cx} {o e : Expr} {to te : TE} {K : PySem.W.Frag}
theorem pe_fldK {f : Str} {pos : Pos} {ta : TE} (he : PE X e ta) (hb : attributeBase e f X.env (eval e X.env) = eval e X.env) (hK : X.K = K := by rfl) : PE X (.Attribute e f pos) (tFld K ta f) := hK ▸ pe_fld he hb
theorem repTK (hK : X.K = K := by rfl) : OpR X (binaryOp .Mult) (rRepT K) := hK ▸ op_repT
theorem starAK {e : Expr} {p : Pos} {es : List Expr} {te : TE} {t : TA} (he : PE X e te) (hr : PA X es t) (hK : X.K = K := by rfl) (hs : starEach (.Starred e p :: es) X.env = (true, eval e X.env) :: starEach es X.env := by rfl) : PA X (.Starred e p :: es) (StX.tStar K te t) := hK ▸ StX.pa_star he hr hs
theorem ixLK (hK : X.K = K := by rfl) : IxR X (rIxL K) := hK ▸ ix_list
theorem ixTK (hK : X.K = K := by rfl) : IxR X (rIxT K) := hK ▸ ix_tup
theorem ixSK (hK : X.K = K := by rfl) : IxR X (rIx K) := hK ▸ ix_seq
theorem lenK (hK : X.K = K := by rfl) : CallR X (.builtin "len") (Evl.rLenS K) := hK ▸ call_len_seq
theorem tplK (hK : X.K = K := by rfl) : CallR X (.type "tuple") (Rd.rTpl K) := hK ▸ call_tuple_of
theorem lstK (hK : X.K = K := by rfl) : CallR X (.type "list") (Rd.rLst K) := hK ▸ call_list_of
theorem slLK (hK : X.K = K := by rfl) : SlR X (rSlL K) := hK ▸ sl_list
theorem slAK (hK : X.K = K := by rfl) : SlR X (rSlA K) := hK ▸ sl_tupA
theorem eqDK (hu : X.A.units + 64 < cLine) (hK : X.K = K := by rfl) : OpR X (compareOp .Eq) (rEqD K) := hK ▸ op_eqD hu
theorem neDK (hu : X.A.units + 64 < cLine) (hK : X.K = K := by rfl) : OpR X (compareOp .NotEq) (rNeD K) := hK ▸ op_neD hu
theorem inK (hK : X.K = K := by rfl) : OpR X (compareOp .In) (rIn K false) := hK ▸ op_in_seq
theorem notInK (hK : X.K = K := by rfl) : OpR X (compareOp .NotIn) (rIn K true) := hK ▸ op_notIn_seq
theorem sumTK (hc : X.calm = true := by rfl) (hK : X.K = K := by rfl) : CallR X (.builtin "sum") (rSumT K) := hK ▸ cr_sumT hc
theorem sumLK (hc : X.calm = true := by rfl) (hK : X.K = K := by rfl) : CallR X (.builtin "sum") (rSum K) := hK ▸ cr_sum hc
theorem maxLK (hc : X.calm = true := by rfl) (hK : X.K = K := by rfl) : CallR X (.builtin "max") (rMax K) := hK ▸ cr_max hc
theorem minLK (hc : X.calm = true := by rfl) (hK : X.K = K := by rfl) : CallR X (.builtin "min") (rMin K) := hK ▸ cr_min hc
theorem allLK (hc : X.calm = true := by rfl) (hK : X.K = K := by rfl) : CallR X (.builtin "all") (rAll K) := hK ▸ cr_all hc
theorem isiK (hK : X.K = K := by rfl) : CallR X (.builtin "isinstance") (rIsi K) := hK ▸ call_isi
theorem catAK (hK : X.K = K := by rfl) : OpR X (binaryOp .Add) (rCatA K) := hK ▸ op_catA
theorem pi_listK {tg l : Expr} {tl : TE} (hl : PE X l tl) (hK : X.K = K := by rfl) : PI X tg l (iList K tl) := hK ▸ pi_list hl
theorem pi_tupK {tg l : Expr} {tl : TE} (hl : PE X l tl) (hK : X.K = K := by rfl) : PI X tg l (iTup K tl) := hK ▸ pi_tup hl
theorem pe_joinR {apos pos : Pos} (ho : PE X o to) (he : PE X e te) (hK : X.K = K := by rfl) (hs : starEach [e] X.env = [(false, eval e X.env)] := by rfl) (hbase : attributeBase o "join" X.env (eval o X.env) = eval o X.env := by rfl) (hline : (apos.endLine == pos.line) = true := by rfl) :
    PE X (.Call (.Attribute o "join" apos) [e] [] pos) (tM1 (Rd.rJoin K) to te) := by
  subst hK
  exact pe_join ho he hs hbase hline
theorem pe_splitR {apos pos : Pos} (ho : PE X o to) (he : PE X e te) (hs : starEach [e] X.env = [(false, eval e X.env)] := by rfl) (hbase : attributeBase o "split" X.env (eval o X.env) = eval o X.env := by rfl) (hline : (apos.endLine == pos.line) = true := by rfl) :
    PE X (.Call (.Attribute o "split" apos) [e] [] pos) (tM1 Rd.rSplit to te) := pe_split ho he hs hbase hline
end
/-! small words -/
theorem own_cx {X : Cx} {K : Value → Shared → Prop} {E₁ : Value → Shared → Prop} (hx : X.xe = fun e s' => wpAny (model X.prog X.w) X.A (leaving X.env e) (fun _ s'' => K e s'') E₁ s' := by rfl) : PassesOwn (model X.prog X.w) X.A X.env X.xe := passes_of hx
theorem FnP.okF {P : Program} {w : World} {K : PySem.W.Frag} {mg : Str → Option Value} {base : Heap} {x qual : Str} {st : Stmt} {f : Addr} {N ps : List Str} {k : Nat} {sp : Sp} (F : ∃ fd, FnP K x qual st f fd) (S : FnScope N ps (defScope st))
    (hb : ∀ (kV doc pm : Value) (an : Option Addr) (cdv ct : Value) (us : List Value), us.length = ps.length → bindArgs (PySem.W.fnOf x qual (defArgs st) (defBody st) (defScope st) .none kV doc pm an cdv ct) ⟨us, []⟩ = pure (ps.zip us))
    (len : ∀ vs H Q E, sp vs H Q E → vs.length = ps.length)
    (hbody : ∀ (cdv : Value) (A : Around) (outer : List Env) (s : Shared) (H : Hp) (vs : List V) (Q : VK) (E : XK), Room k (A.deeper (envOfC qual (defScope st) s.heap.objs.size f cdv)) → sp vs H Q E →
      ∃ t, PSs (cxOf (L2.CX P w) P w K mg base N qual (defScope st) f cdv A outer s H E) (defBody st) t ∧ t { nx := fun _ H' => Q .non H', rt := Q } (start N vs) H) : OkF P w K mg base (k + 1) f ps sp := by
  obtain ⟨fd, F⟩ := F
  exact ⟨⟨fd, F.ok S len hbody, F.bindsN hb⟩, F.kp⟩
/-- the law's own def: nothing leaves it -/
theorem okLaw {P : Program} {w : World} {K : PySem.W.Frag} {mg : Str → Option Value} {base : Heap} {x qual : Str} {st : Stmt} {f : Addr} {fd : FuncData} {N ps : List Str} {k : Nat} {sp : Sp} (F : FnP K x qual st f fd) (S : FnScope N ps (defScope st)) (len : ∀ vs H Q E, sp vs H Q E → vs.length = ps.length)
    (hbody : ∀ (cdv : Value) (A : Around) (outer : List Env) (s : Shared) (H : Hp) (vs : List V) (Q : VK) (E : XK), Room k (A.deeper (envOfC qual (defScope st) s.heap.objs.size f cdv)) → sp vs H Q E →
      ∃ t, PSs (cxOf CX0 P w K mg base N qual (defScope st) f cdv A outer s H E).nox (defBody st) t ∧ t { nx := fun _ H' => Q .non H', rt := Q } (start N vs) H) : FnOk P w K mg base CX0 (k + 1) f fd ps sp :=
  F.ok S len fun cdv A outer s H vs Q E hr h => by
    obtain ⟨t, h1, h2⟩ := hbody cdv A outer s H vs Q E hr h
    exact ⟨t, h1.nox, h2⟩
def spLaw (K : PySem.W.Frag) : Sp := fun vs H Q _ => ∃ (a : Addr) (ns : List Int), vs = [.ref a] ∧ SqL K H a (ns.map V.int) ∧ ns.length ≤ 63 ∧ ∀ H', Q (.bl true) H'
/-- the same, the tables of the defs that make functions there -/
def spLawT (K : PySem.W.Frag) (T : List (Addr × Str)) : Sp := fun vs H Q _ => ∃ (a : Addr) (ns : List Int), vs = [.ref a] ∧ SqL K H a (ns.map V.int) ∧ ns.length ≤ 63 ∧ LamX.Tabs T H ∧ ∀ H', Q (.bl true) H'
/-- all but what stands at d is as it was -/
def But (d : Addr) (H H' : Hp) : Prop := ∀ b o, b ≠ d → H b = some o → H' b = some o
end Tk
/-! ### Error classes: what is looked at -/
namespace Tk
open PySem PySem.Spec PyProof.Rows L2
namespace Ex
/-- what the written part says of the class beside OexC: of super().__init__ -/
structure SupC (K : PySem.W.Frag) (C : Addr) : Prop where
  oex : OexC K C
  up : PySem.W.ks_superIn K C C "__init__" = some (some (.builtin "ValueError.__init__"))
  op : PySem.W.nsIn K cStatics "thirdparty.any" = some none
  self : PySem.W.subIn K (.ref C) (.ref C) = some true
  ve : PySem.W.subIn K (.ref C) (.type "ValueError") = some true
def oexB (K : PySem.W.Frag) (C : Addr) : Bool := (match K.lookup C with
  | some ⟨.type "type", _, .cls cd, sl⟩ => (match cd.mro, sl.toList with
    | .ref C' :: bm, [_, _, _, _, some (.builtin n), _] => decide (C' = C) && (decide (n = "ValueError.__new__") && (PySem.HandSPX.refsVE bm && (cd.hasDict && !cd.hasDel)))
    | _, _ => false)
  | _ => false) && (decide (PySem.W.findIn K (.ref C) "__setattr__" = some (some (.builtin "object.__setattr__"))) && (decide (PySem.W.subIn K (.ref C) (.type "BaseException") = some true) && (decide (PySem.W.typeIn K (.ref C) = some (.type "type")) && PySem.W.keepIn K (.ref C))))
theorem oexB_ok {K : PySem.W.Frag} {C : Addr} (h : oexB K C = true) : OexC K C := by
  obtain ⟨h1, h⟩ := He.ba h
  obtain ⟨h2, h⟩ := He.ba h
  obtain ⟨h3, h⟩ := He.ba h
  obtain ⟨h4, h5⟩ := He.ba h
  refine ⟨?_, of_decide_eq_true h2, of_decide_eq_true h3, of_decide_eq_true h4, h5⟩
  split at h1
  · rename_i dd cd sl ho
    split at h1
    · rename_i C' bm k0 k1 k2 k3 n k5 hm hs
      obtain ⟨e1, h1⟩ := He.ba h1
      obtain ⟨e2, h1⟩ := He.ba h1
      obtain ⟨e3, h1⟩ := He.ba h1
      obtain ⟨e4, e5⟩ := He.ba h1
      obtain rfl := of_decide_eq_true e1
      obtain rfl := of_decide_eq_true e2
      obtain ⟨nm, bs, mro, ns, qn, hd, sn, sub, ab, col, del⟩ := cd
      dsimp only at hm e4 e5
      subst hm e4
      have e5 : del = false := by
        cases del with
        | true => cases e5
        | false => rfl
      subst e5
      have hsl : sl = #[k0, k1, k2, k3, some (.builtin "ValueError.__new__"), k5] := by
        obtain ⟨l⟩ := sl
        simp only at hs
        rw [hs]
      subst hsl
      exact ⟨nm, qn, ns, bs, bm, sn, sub, ab, col, dd, k0, k1, k2, k3, k5, ho, e3⟩
    · cases h1
  · cases h1
/-- a class with an own __init__ that says super().__init__(..), the attributes fs -/
def supB (x : Str) (fs : List Str) (K : PySem.W.Frag) : Bool := oexB K (He.ga K x) && (decide (PySem.W.ks_superIn K (He.ga K x) (He.ga K x) "__init__" = some (some (.builtin "ValueError.__init__"))) && (decide (PySem.W.nsIn K cStatics "thirdparty.any" = some none) &&
  (decide (PySem.W.subIn K (.ref (He.ga K x)) (.ref (He.ga K x)) = some true) && (decide (PySem.W.subIn K (.ref (He.ga K x)) (.type "ValueError") = some true) && (decide (PySem.W.findIn K (.ref (He.ga K x)) "__init__" = some (some (.ref (He.ma K (He.ga K x) "__init__")))) &&
    (decide (PySem.W.typeIn K (.ref (He.ma K (He.ga K x) "__init__")) = some (.type "function")) && fs.all fun f => decide (PySem.W.findIn K (.ref (He.ga K x)) f = some none)))))))
structure SupX (K : PySem.W.Frag) (x : Str) (fs : List Str) : Prop where
  sup : SupC K (He.ga K x)
  iC : PySem.W.findIn K (.ref (He.ga K x)) "__init__" = some (some (.ref (He.ma K (He.ga K x) "__init__")))
  tI : PySem.W.typeIn K (.ref (He.ma K (He.ga K x) "__init__")) = some (.type "function")
  no : ∀ f ∈ fs, PySem.W.findIn K (.ref (He.ga K x)) f = some none
theorem supB_ok {x : Str} {fs : List Str} {K : PySem.W.Frag} (h : supB x fs K = true) : SupX K x fs := by
  obtain ⟨h1, h⟩ := He.ba h
  obtain ⟨h2, h⟩ := He.ba h
  obtain ⟨h3, h⟩ := He.ba h
  obtain ⟨h4, h⟩ := He.ba h
  obtain ⟨h5, h⟩ := He.ba h
  obtain ⟨h6, h⟩ := He.ba h
  obtain ⟨h7, h8⟩ := He.ba h
  exact ⟨⟨oexB_ok h1, of_decide_eq_true h2, of_decide_eq_true h3, of_decide_eq_true h4, of_decide_eq_true h5⟩, of_decide_eq_true h6, of_decide_eq_true h7, fun f hf => of_decide_eq_true (List.all_eq_true.mp h8 f hf)⟩
/-- what every error class says, so that isinstance and the reading of its attributes go -/
def isB (x : Str) (K : PySem.W.Frag) : Bool := (PySem.W.clsIn K (He.ga K x)).isSome && (decide (PySem.W.findIn K (.ref (He.ga K x)) "__getattribute__" = some (some (.builtin "BaseException.__getattribute__"))) && (decide (PySem.W.findIn K (.ref (He.ga K x)) "__getattr__" = some none) &&
  (decide (PySem.W.subIn K (.ref (He.ga K x)) (.type "BaseException") = some true) && (decide (PySem.W.findIn K (.ref (He.ga K x)) "__class__" = some (some (.builtin "object.__class__"))) && (decide (PySem.W.specialIn K (.builtin "object.__class__") "__get__" = some (some (.builtin "getset_descriptor.__get__"))) &&
    (decide (PySem.W.takesIn K (.builtin "object.__class__") = some true) && (decide (PySem.W.mroIn K (He.ga K x) (.type "object") = some true) && PySem.W.hasDictIn K (He.ga K x))))))))
structure IsX (K : PySem.W.Frag) (C : Addr) : Prop where
  cl : (PySem.W.clsIn K C).isSome = true
  hg : PySem.W.findIn K (.ref C) "__getattribute__" = some (some (.builtin "BaseException.__getattribute__"))
  hk : PySem.W.findIn K (.ref C) "__getattr__" = some none
  hs : PySem.W.subIn K (.ref C) (.type "BaseException") = some true
  ha : PySem.W.findIn K (.ref C) "__class__" = some (some (.builtin "object.__class__"))
  hn : PySem.W.specialIn K (.builtin "object.__class__") "__get__" = some (some (.builtin "getset_descriptor.__get__"))
  ht : PySem.W.takesIn K (.builtin "object.__class__") = some true
  hm : PySem.W.mroIn K C (.type "object") = some true
  hd : PySem.W.hasDictIn K C = true
theorem isB_ok {x : Str} {K : PySem.W.Frag} (h : isB x K = true) : IsX K (He.ga K x) := by
  obtain ⟨h1, h⟩ := He.ba h
  obtain ⟨h2, h⟩ := He.ba h
  obtain ⟨h3, h⟩ := He.ba h
  obtain ⟨h4, h⟩ := He.ba h
  obtain ⟨h5, h⟩ := He.ba h
  obtain ⟨h6, h⟩ := He.ba h
  obtain ⟨h7, h⟩ := He.ba h
  obtain ⟨h8, h9⟩ := He.ba h
  exact ⟨h1, of_decide_eq_true h2, of_decide_eq_true h3, of_decide_eq_true h4, of_decide_eq_true h5, of_decide_eq_true h6, of_decide_eq_true h7, of_decide_eq_true h8, h9⟩
/-- which is an instance of which -/
def kitB (xs : List Str) (K : PySem.W.Frag) : Bool := xs.all fun x => decide (PySem.W.kitOne K (.ref (He.ga K x)) (.type "ValueError") = some true) && xs.all fun y => decide (PySem.W.kitOne K (.ref (He.ga K x)) (.ref (He.ga K y)) = some (decide (x = y)))
structure KitX (xs : List Str) (K : PySem.W.Frag) : Prop where
  ve : ∀ x ∈ xs, PySem.W.kitOne K (.ref (He.ga K x)) (.type "ValueError") = some true
  two : ∀ x ∈ xs, ∀ y ∈ xs, PySem.W.kitOne K (.ref (He.ga K x)) (.ref (He.ga K y)) = some (decide (x = y))
theorem kitB_ok {xs : List Str} {K : PySem.W.Frag} (h : kitB xs K = true) : KitX xs K :=
  ⟨fun x hx => of_decide_eq_true (He.ba (List.all_eq_true.mp h x hx)).1, fun x hx y hy => of_decide_eq_true (List.all_eq_true.mp (He.ba (List.all_eq_true.mp h x hx)).2 y hy)⟩
def InitAt (K : PySem.W.Frag) (a C : Addr) (qual : Str) (params : Arguments) (body : List Stmt) (scope : Scope) (file : Str) : Prop := PySem.W.keepIn K (.ref a) = true ∧
    ∃ (od : Option Addr) (doc pm ctv : Value) (an : Option Addr) (osl : Array (Option Value)) (c cc : Addr) (oc ocl : Obj) (vs : Array Value) (tf : Tok),
      K.lookup a = some ⟨.type "function", od, .func (PySem.W.fnX "__init__" qual params body scope [("__class__", cc)] .none .none doc pm an (.ref c) ctv), osl⟩ ∧ PySem.W.codeIn K (.ref c) qual = true ∧
        K.lookup c = some oc ∧ oc.data = .fields vs ∧ vs[2]? = some (.str file tf) ∧ K.lookup cc = some ocl ∧ ocl.data = .cell (some (.ref C))
end Ex
end Tk
/-! ### B. The text by places -/
namespace Tk
open PySem PySem.Spec PyProof.Rows L2
def top (i : Nat) : Stmt := PySem.Challenge.pw_ticketwrap_k44_whole_plans_by_trying_all.main.body.getD i (.Pass ⟨0, 0, 0, 0⟩)
abbrev s_is_integer_within : Stmt := top 11
abbrev N_is_integer_within : List Str := ["value", "low", "high"]
theorem sc_is_integer_within : FnScope N_is_integer_within ["value", "low", "high"] (defScope s_is_integer_within) := ⟨rfl, rfl, rfl, by decide +kernel, rfl, by decide +kernel, by decide +kernel⟩
abbrev s_check_tick : Stmt := top 12
abbrev N_check_tick : List Str := ["tick"]
theorem sc_check_tick : FnScope N_check_tick ["tick"] (defScope s_check_tick) := ⟨rfl, rfl, rfl, by decide +kernel, rfl, by decide +kernel, by decide +kernel⟩
abbrev s_count_open : Stmt := top 14
abbrev N_count_open : List Str := ["hall", "tick", "lateness"]
theorem sc_count_open : FnScope N_count_open ["hall", "tick", "lateness"] (defScope s_count_open) := ⟨rfl, rfl, rfl, by decide +kernel, rfl, by decide +kernel, by decide +kernel⟩
abbrev s_most_open_with : Stmt := top 15
abbrev N_most_open_with : List Str := ["hall", "lateness", "start", "tick"]
theorem sc_most_open_with : FnScope N_most_open_with ["hall", "lateness"] (defScope s_most_open_with) := ⟨rfl, rfl, rfl, by decide +kernel, rfl, by decide +kernel, by decide +kernel⟩
abbrev s_first_excess : Stmt := top 16
abbrev N_first_excess : List Str := ["hall", "ticks", "steady", "excess", "tick", "growth", "later"]
theorem sc_first_excess : FnScope N_first_excess ["hall", "ticks", "steady", "excess"] (defScope s_first_excess) := ⟨rfl, rfl, rfl, by decide +kernel, rfl, by decide +kernel, by decide +kernel⟩
abbrev s_most_open : Stmt := top 17
abbrev N_most_open : List Str := ["hall"]
theorem sc_most_open : FnScope N_most_open ["hall"] (defScope s_most_open) := ⟨rfl, rfl, rfl, by decide +kernel, rfl, by decide +kernel, by decide +kernel⟩
abbrev s_first_clash : Stmt := top 18
abbrev N_first_clash : List Str := ["hall", "steady", "ticks", "tick", "older"]
theorem sc_first_clash : FnScope N_first_clash ["hall"] (defScope s_first_clash) := ⟨rfl, rfl, rfl, by decide +kernel, rfl, by decide +kernel, by decide +kernel⟩
abbrev s_least_colors : Stmt := top 19
abbrev N_least_colors : List Str := ["hall", "most"]
theorem sc_least_colors : FnScope N_least_colors ["hall"] (defScope s_least_colors) := ⟨rfl, rfl, rfl, by decide +kernel, rfl, by decide +kernel, by decide +kernel⟩
abbrev s_write_line : Stmt := top 25
abbrev N_write_line : List Str := ["word", "numbers", "number"]
theorem sc_write_line : FnScope N_write_line ["word", "numbers"] (defScope s_write_line) := ⟨rfl, rfl, rfl, by decide +kernel, rfl, by decide +kernel, by decide +kernel⟩
abbrev s_first_invalid_item : Stmt := top 35
abbrev N_first_invalid_item : List Str := ["pattern", "index", "item"]
theorem sc_first_invalid_item : FnScope N_first_invalid_item ["pattern"] (defScope s_first_invalid_item) := ⟨rfl, rfl, rfl, by decide +kernel, rfl, by decide +kernel, by decide +kernel⟩
abbrev s_check_pattern : Stmt := top 36
abbrev N_check_pattern : List Str := ["part", "pattern", "index"]
theorem sc_check_pattern : FnScope N_check_pattern ["part", "pattern"] (defScope s_check_pattern) := ⟨rfl, rfl, rfl, by decide +kernel, rfl, by decide +kernel, by decide +kernel⟩
abbrev s_check_hall : Stmt := top 37
abbrev N_check_hall : List Str := ["modulus", "takes", "calls", "lateness"]
theorem sc_check_hall : FnScope N_check_hall ["modulus", "takes", "calls", "lateness"] (defScope s_check_hall) := ⟨rfl, rfl, rfl, by decide +kernel, rfl, by decide +kernel, by decide +kernel⟩
abbrev s_count_calls : Stmt := top 38
abbrev N_count_calls : List Str := ["takes", "calls", "ticks", "called", "waiting", "tick", "now"]
theorem sc_count_calls : FnScope N_count_calls ["takes", "calls", "ticks"] (defScope s_count_calls) := ⟨rfl, rfl, rfl, by decide +kernel, rfl, by decide +kernel, by decide +kernel⟩
abbrev s_init : Stmt := inClass (top 39) 0
abbrev N_init : List Str := ["self", "modulus", "takes", "calls", "lateness"]
theorem sc_init : FnScope N_init ["self", "modulus", "takes", "calls", "lateness"] (defScope s_init) := ⟨rfl, rfl, rfl, by decide +kernel, rfl, by decide +kernel, by decide +kernel⟩
abbrev s_period : Stmt := inClass (top 39) 1
abbrev N_period : List Str := ["self"]
theorem sc_period : FnScope N_period ["self"] (defScope s_period) := ⟨rfl, rfl, rfl, by decide +kernel, rfl, by decide +kernel, by decide +kernel⟩
abbrev s_growth : Stmt := inClass (top 39) 2
abbrev N_growth : List Str := ["self"]
theorem sc_growth : FnScope N_growth ["self"] (defScope s_growth) := ⟨rfl, rfl, rfl, by decide +kernel, rfl, by decide +kernel, by decide +kernel⟩
abbrev s_taken : Stmt := inClass (top 39) 3
abbrev N_taken : List Str := ["self", "tick", "rounds", "rest"]
theorem sc_taken : FnScope N_taken ["self", "tick"] (defScope s_taken) := ⟨rfl, rfl, rfl, by decide +kernel, rfl, by decide +kernel, by decide +kernel⟩
abbrev s_called : Stmt := inClass (top 39) 4
abbrev N_called : List Str := ["self", "tick", "period", "skipped", "in_period"]
theorem sc_called : FnScope N_called ["self", "tick"] (defScope s_called) := ⟨rfl, rfl, rfl, by decide +kernel, rfl, by decide +kernel, by decide +kernel⟩
abbrev s_waiting : Stmt := inClass (top 39) 5
abbrev N_waiting : List Str := ["self", "tick"]
theorem sc_waiting : FnScope N_waiting ["self", "tick"] (defScope s_waiting) := ⟨rfl, rfl, rfl, by decide +kernel, rfl, by decide +kernel, by decide +kernel⟩
abbrev s_text : Stmt := inClass (top 39) 7
abbrev N_text : List Str := ["self", "parts", "word", "numbers"]
theorem sc_text : FnScope N_text ["self"] (defScope s_text) := ⟨rfl, rfl, rfl, by decide +kernel, rfl, by decide +kernel, by decide +kernel⟩
abbrev s_never_clashes : Stmt := top 42
abbrev N_never_clashes : List Str := ["hall", "most"]
theorem sc_never_clashes : FnScope N_never_clashes ["hall"] (defScope s_never_clashes) := ⟨rfl, rfl, rfl, by decide +kernel, rfl, by decide +kernel, by decide +kernel⟩
abbrev s_with_calls_at : Stmt := top 43
abbrev N_with_calls_at : List Str := ["hall", "plan", "calls", "place", "item"]
theorem sc_with_calls_at : FnScope N_with_calls_at ["hall", "plan"] (defScope s_with_calls_at) := ⟨rfl, rfl, rfl, by decide +kernel, rfl, by decide +kernel, by decide +kernel⟩
abbrev s_last_place : Stmt := top 44
abbrev N_last_place : List Str := ["plan"]
theorem sc_last_place : FnScope N_last_place ["plan"] (defScope s_last_place) := ⟨rfl, rfl, rfl, by decide +kernel, rfl, by decide +kernel, by decide +kernel⟩
abbrev s_longer_plans : Stmt := top 45
abbrev N_longer_plans : List Str := ["calls", "plans", "plan", "place"]
theorem sc_longer_plans : FnScope N_longer_plans ["calls", "plans"] (defScope s_longer_plans) := ⟨rfl, rfl, rfl, by decide +kernel, rfl, by decide +kernel, by decide +kernel⟩
abbrev s_plan_calls : Stmt := top 46
abbrev N_plan_calls : List Str := ["hall", "limit", "plans", "_", "plan"]
theorem sc_plan_calls : FnScope N_plan_calls ["hall", "limit"] (defScope s_plan_calls) := ⟨rfl, rfl, rfl, by decide +kernel, rfl, by decide +kernel, by decide +kernel⟩
abbrev s_with_part : Stmt := top 48
abbrev N_with_part : List Str := ["hall", "part", "value", "parts"]
theorem sc_with_part : FnScope N_with_part ["hall", "part", "value"] (defScope s_with_part) := ⟨rfl, rfl, rfl, by decide +kernel, rfl, by decide +kernel, by decide +kernel⟩
abbrev s_is_operation : Stmt := top 49
abbrev N_is_operation : List Str := ["entry"]
theorem sc_is_operation : FnScope N_is_operation ["entry"] (defScope s_is_operation) := ⟨rfl, rfl, rfl, by decide +kernel, rfl, by decide +kernel, by decide +kernel⟩
abbrev s_check_list : Stmt := top 50
abbrev N_check_list : List Str := ["operations"]
theorem sc_check_list : FnScope N_check_list ["operations"] (defScope s_check_list) := ⟨rfl, rfl, rfl, by decide +kernel, rfl, by decide +kernel, by decide +kernel⟩
abbrev s_check_entry : Stmt := top 51
abbrev N_check_entry : List Str := ["entry", "place"]
theorem sc_check_entry : FnScope N_check_entry ["entry", "place"] (defScope s_check_entry) := ⟨rfl, rfl, rfl, by decide +kernel, rfl, by decide +kernel, by decide +kernel⟩
abbrev s_Bench_init : Stmt := inClass (top 52) 0
abbrev N_Bench_init : List Str := ["self", "hall"]
theorem sc_Bench_init : FnScope N_Bench_init ["self", "hall"] (defScope s_Bench_init) := ⟨rfl, rfl, rfl, by decide +kernel, rfl, by decide +kernel, by decide +kernel⟩
abbrev s_Bench_undo : Stmt := inClass (top 52) 5
abbrev N_Bench_undo : List Str := ["self"]
theorem sc_Bench_undo : FnScope N_Bench_undo ["self"] (defScope s_Bench_undo) := ⟨rfl, rfl, rfl, by decide +kernel, rfl, by decide +kernel, by decide +kernel⟩
abbrev s_Bench_redo : Stmt := inClass (top 52) 6
abbrev N_Bench_redo : List Str := ["self"]
theorem sc_Bench_redo : FnScope N_Bench_redo ["self"] (defScope s_Bench_redo) := ⟨rfl, rfl, rfl, by decide +kernel, rfl, by decide +kernel, by decide +kernel⟩
abbrev s_Bench_text : Stmt := inClass (top 52) 7
abbrev N_Bench_text : List Str := ["self"]
theorem sc_Bench_text : FnScope N_Bench_text ["self"] (defScope s_Bench_text) := ⟨rfl, rfl, rfl, by decide +kernel, rfl, by decide +kernel, by decide +kernel⟩
abbrev s_Bench_batch : Stmt := inClass (top 52) 11
abbrev N_Bench_batch : List Str := ["self", "operations", "place", "entry", "before", "operation"]
theorem sc_Bench_batch : FnScope N_Bench_batch ["self", "operations"] (defScope s_Bench_batch) := ⟨rfl, rfl, rfl, by decide +kernel, rfl, by decide +kernel, by decide +kernel⟩
abbrev s_Bench__replace : Stmt := inClass (top 52) 13
abbrev N_Bench__replace : List Str := ["self", "part", "value", "hall"]
theorem sc_Bench__replace : FnScope N_Bench__replace ["self", "part", "value"] (defScope s_Bench__replace) := ⟨rfl, rfl, rfl, by decide +kernel, rfl, by decide +kernel, by decide +kernel⟩
abbrev s_Bench__execute : Stmt := inClass (top 52) 14
abbrev N_Bench__execute : List Str := ["self", "operation"]
theorem sc_Bench__execute : FnScope N_Bench__execute ["self", "operation"] (defScope s_Bench__execute) := ⟨rfl, rfl, rfl, by decide +kernel, rfl, by decide +kernel, by decide +kernel⟩
abbrev s_Bench__state : Stmt := inClass (top 52) 15
abbrev N_Bench__state : List Str := ["self"]
theorem sc_Bench__state : FnScope N_Bench__state ["self"] (defScope s_Bench__state) := ⟨rfl, rfl, rfl, by decide +kernel, rfl, by decide +kernel, by decide +kernel⟩
abbrev s__law_random : Stmt := top 54
abbrev N__law_random : List Str := ["_law_script", "_law_salt", "_law_seed", "_law_cell"]
theorem sc__law_random : FnScope N__law_random ["_law_script", "_law_salt"] (defScope s__law_random) := ⟨rfl, rfl, rfl, by decide +kernel, rfl, by decide +kernel, by decide +kernel⟩
abbrev s__law_below : Stmt := top 55
abbrev N__law_below : List Str := ["_law_d", "_law_limit", "_law_result"]
theorem sc__law_below : FnScope N__law_below ["_law_d", "_law_limit"] (defScope s__law_below) := ⟨rfl, rfl, rfl, by decide +kernel, rfl, by decide +kernel, by decide +kernel⟩
abbrev s__law_pattern : Stmt := top 56
abbrev N__law_pattern : List Str := ["_law_d", "_law_most", "_law_high", "_law_k"]
theorem sc__law_pattern : FnScope N__law_pattern ["_law_d", "_law_most"] (defScope s__law_pattern) := ⟨rfl, rfl, rfl, by decide +kernel, rfl, by decide +kernel, by decide +kernel⟩
abbrev s__law_small : Stmt := top 57
abbrev N__law_small : List Str := ["_law_d"]
theorem sc__law_small : FnScope N__law_small ["_law_d"] (defScope s__law_small) := ⟨rfl, rfl, rfl, by decide +kernel, rfl, by decide +kernel, by decide +kernel⟩
abbrev s__law_equal : Stmt := top 58
abbrev N__law_equal : List Str := ["_law_actual", "_law_expected", "_law_k"]
theorem sc__law_equal : FnScope N__law_equal ["_law_actual", "_law_expected"] (defScope s__law_equal) := ⟨rfl, rfl, rfl, by decide +kernel, rfl, by decide +kernel, by decide +kernel⟩
abbrev s_law : Stmt := top 59
abbrev N_law : List Str := ["_law_script", "_law_d", "_law_modulus", "_law_takes", "_law_calls", "_law_lateness", "_law_hall", "_law_due", "_law_places", "_law_count", "_law_some", "_law_more", "_law_longer", "_law_limit", "_law_found", "_law_mended", "_law_bench", "_law_k"]
theorem sc_law : FnScope N_law ["_law_script"] (defScope s_law) := ⟨rfl, rfl, rfl, by decide +kernel, rfl, by decide +kernel, by decide +kernel⟩
structure Txt (K : PySem.W.Frag) (mg : Str → Option Value) : Prop where
  g_abs : mg "abs" = none
  g_all : mg "all" = none
  g_bool : mg "bool" = none
  g_divmod : mg "divmod" = none
  g_enumerate : mg "enumerate" = none
  g_int : mg "int" = none
  g_isinstance : mg "isinstance" = none
  g_len : mg "len" = none
  g_list : mg "list" = none
  g_max : mg "max" = none
  g_min : mg "min" = none
  g_range : mg "range" = none
  g_str : mg "str" = none
  g_sum : mg "sum" = none
  g_tuple : mg "tuple" = none
  g_zip : mg "zip" = none
  g_lcm : mg "lcm" = some (.builtin "math.lcm")
  c_LAST_TICK : ∃ t, mg "LAST_TICK" = some (.int 1000000000000000000 t)
  g_HALL_WORDS : mg "HALL_WORDS" = some (.ref (He.ga K "HALL_WORDS"))
  t_HALL_WORDS : ∀ H : Hp, SqT K H (He.ga K "HALL_WORDS") ((["modulus", "takes", "calls", "lateness"] : List Str).map V.str)
  g_BARE_WORDS : mg "BARE_WORDS" = some (.ref (He.ga K "BARE_WORDS"))
  t_BARE_WORDS : ∀ H : Hp, SqT K H (He.ga K "BARE_WORDS") ((["undo", "redo"] : List Str).map V.str)
  c_LEAST_MODULUS : ∃ t, mg "LEAST_MODULUS" = some (.int 2 t)
  c_GREATEST_MODULUS : ∃ t, mg "GREATEST_MODULUS" = some (.int 10000 t)
  c_MOST_ITEMS : ∃ t, mg "MOST_ITEMS" = some (.int 12 t)
  c_GREATEST_ITEM : ∃ t, mg "GREATEST_ITEM" = some (.int 9 t)
  c_GREATEST_LATENESS : ∃ t, mg "GREATEST_LATENESS" = some (.int 99 t)
  c_MOST_PLACES : ∃ t, mg "MOST_PLACES" = some (.int 4 t)
  g_is_integer_within : mg "is_integer_within" = some (.ref (He.ga K "is_integer_within"))
  g_check_tick : mg "check_tick" = some (.ref (He.ga K "check_tick"))
  g_count_open : mg "count_open" = some (.ref (He.ga K "count_open"))
  g_most_open_with : mg "most_open_with" = some (.ref (He.ga K "most_open_with"))
  g_first_excess : mg "first_excess" = some (.ref (He.ga K "first_excess"))
  g_most_open : mg "most_open" = some (.ref (He.ga K "most_open"))
  g_first_clash : mg "first_clash" = some (.ref (He.ga K "first_clash"))
  g_least_colors : mg "least_colors" = some (.ref (He.ga K "least_colors"))
  g_write_line : mg "write_line" = some (.ref (He.ga K "write_line"))
  g_first_invalid_item : mg "first_invalid_item" = some (.ref (He.ga K "first_invalid_item"))
  g_check_pattern : mg "check_pattern" = some (.ref (He.ga K "check_pattern"))
  g_check_hall : mg "check_hall" = some (.ref (He.ga K "check_hall"))
  g_count_calls : mg "count_calls" = some (.ref (He.ga K "count_calls"))
  g_never_clashes : mg "never_clashes" = some (.ref (He.ga K "never_clashes"))
  g_with_calls_at : mg "with_calls_at" = some (.ref (He.ga K "with_calls_at"))
  g_last_place : mg "last_place" = some (.ref (He.ga K "last_place"))
  g_longer_plans : mg "longer_plans" = some (.ref (He.ga K "longer_plans"))
  g_plan_calls : mg "plan_calls" = some (.ref (He.ga K "plan_calls"))
  g_with_part : mg "with_part" = some (.ref (He.ga K "with_part"))
  g_is_operation : mg "is_operation" = some (.ref (He.ga K "is_operation"))
  g_check_list : mg "check_list" = some (.ref (He.ga K "check_list"))
  g_check_entry : mg "check_entry" = some (.ref (He.ga K "check_entry"))
  g__law_random : mg "_law_random" = some (.ref (He.ga K "_law_random"))
  g__law_below : mg "_law_below" = some (.ref (He.ga K "_law_below"))
  g__law_pattern : mg "_law_pattern" = some (.ref (He.ga K "_law_pattern"))
  g__law_small : mg "_law_small" = some (.ref (He.ga K "_law_small"))
  g__law_equal : mg "_law_equal" = some (.ref (He.ga K "_law_equal"))
  g_Hall : mg "Hall" = some (.ref (He.ga K "Hall"))
  cl_Hall : Cls K (He.ga K "Hall")
  mk_Hall : Mk K (He.ga K "Hall") (He.ma K (He.ga K "Hall") "__init__")
  n_modulus : NoAttr K (He.ga K "Hall") "modulus"
  n_takes : NoAttr K (He.ga K "Hall") "takes"
  n_calls : NoAttr K (He.ga K "Hall") "calls"
  n_lateness : NoAttr K (He.ga K "Hall") "lateness"
  n__called : NoAttr K (He.ga K "Hall") "_called"
  p_period : PropOf K (He.ga K "Hall") "period" (propAt K (He.ga K "Hall") "period") (getAt K (He.ga K "Hall") "period")
  p_growth : PropOf K (He.ga K "Hall") "growth" (propAt K (He.ga K "Hall") "growth") (getAt K (He.ga K "Hall") "growth")
  m_taken : Meth K (He.ga K "Hall") "taken" (He.ma K (He.ga K "Hall") "taken")
  m_called : Meth K (He.ga K "Hall") "called" (He.ma K (He.ga K "Hall") "called")
  m_waiting : Meth K (He.ga K "Hall") "waiting" (He.ma K (He.ga K "Hall") "waiting")
  p_text : PropOf K (He.ga K "Hall") "text" (propAt K (He.ga K "Hall") "text") (getAt K (He.ga K "Hall") "text")
  g_Bench : mg "Bench" = some (.ref (He.ga K "Bench"))
  cl_Bench : Cls K (He.ga K "Bench")
  mk_Bench : Mk K (He.ga K "Bench") (He.ma K (He.ga K "Bench") "__init__")
  n_Bench__halls : NoAttr K (He.ga K "Bench") "_halls"
  n_Bench__words : NoAttr K (He.ga K "Bench") "_words"
  n_Bench__done : NoAttr K (He.ga K "Bench") "_done"
  n_Bench__snapshots : NoAttr K (He.ga K "Bench") "_snapshots"
  m_Bench_undo : Meth K (He.ga K "Bench") "undo" (He.ma K (He.ga K "Bench") "undo")
  m_Bench_redo : Meth K (He.ga K "Bench") "redo" (He.ma K (He.ga K "Bench") "redo")
  p_Bench_text : PropOf K (He.ga K "Bench") "text" (propAt K (He.ga K "Bench") "text") (getAt K (He.ga K "Bench") "text")
  m_Bench_batch : Meth K (He.ga K "Bench") "batch" (He.ma K (He.ga K "Bench") "batch")
  m_Bench__replace : Meth K (He.ga K "Bench") "_replace" (He.ma K (He.ga K "Bench") "_replace")
  m_Bench__execute : Meth K (He.ga K "Bench") "_execute" (He.ma K (He.ga K "Bench") "_execute")
  m_Bench__state : Meth K (He.ga K "Bench") "_state" (He.ma K (He.ga K "Bench") "_state")
  f_is_integer_within : ∃ fd, FnP K "is_integer_within" "is_integer_within" s_is_integer_within (He.ga K "is_integer_within") fd
  f_check_tick : ∃ fd, FnP K "check_tick" "check_tick" s_check_tick (He.ga K "check_tick") fd
  f_count_open : ∃ fd, FnP K "count_open" "count_open" s_count_open (He.ga K "count_open") fd
  f_most_open_with : ∃ fd, FnP K "most_open_with" "most_open_with" s_most_open_with (He.ga K "most_open_with") fd
  f_first_excess : ∃ fd, FnP K "first_excess" "first_excess" s_first_excess (He.ga K "first_excess") fd
  f_most_open : ∃ fd, FnP K "most_open" "most_open" s_most_open (He.ga K "most_open") fd
  f_first_clash : ∃ fd, FnP K "first_clash" "first_clash" s_first_clash (He.ga K "first_clash") fd
  f_least_colors : ∃ fd, FnP K "least_colors" "least_colors" s_least_colors (He.ga K "least_colors") fd
  f_write_line : ∃ fd, FnP K "write_line" "write_line" s_write_line (He.ga K "write_line") fd
  f_first_invalid_item : ∃ fd, FnP K "first_invalid_item" "first_invalid_item" s_first_invalid_item (He.ga K "first_invalid_item") fd
  f_check_pattern : ∃ fd, FnP K "check_pattern" "check_pattern" s_check_pattern (He.ga K "check_pattern") fd
  f_check_hall : ∃ fd, FnP K "check_hall" "check_hall" s_check_hall (He.ga K "check_hall") fd
  f_count_calls : ∃ fd, FnP K "count_calls" "count_calls" s_count_calls (He.ga K "count_calls") fd
  f_init : ∃ fd, FnP K "__init__" "Hall.__init__" s_init (He.ma K (He.ga K "Hall") "__init__") fd
  f_period : ∃ fd, FnP K "period" "Hall.period" s_period (getAt K (He.ga K "Hall") "period") fd
  f_growth : ∃ fd, FnP K "growth" "Hall.growth" s_growth (getAt K (He.ga K "Hall") "growth") fd
  f_taken : ∃ fd, FnP K "taken" "Hall.taken" s_taken (He.ma K (He.ga K "Hall") "taken") fd
  f_called : ∃ fd, FnP K "called" "Hall.called" s_called (He.ma K (He.ga K "Hall") "called") fd
  f_waiting : ∃ fd, FnP K "waiting" "Hall.waiting" s_waiting (He.ma K (He.ga K "Hall") "waiting") fd
  f_text : ∃ fd, FnP K "text" "Hall.text" s_text (getAt K (He.ga K "Hall") "text") fd
  f_never_clashes : ∃ fd, FnP K "never_clashes" "never_clashes" s_never_clashes (He.ga K "never_clashes") fd
  f_with_calls_at : ∃ fd, FnP K "with_calls_at" "with_calls_at" s_with_calls_at (He.ga K "with_calls_at") fd
  f_last_place : ∃ fd, FnP K "last_place" "last_place" s_last_place (He.ga K "last_place") fd
  f_longer_plans : ∃ fd, FnP K "longer_plans" "longer_plans" s_longer_plans (He.ga K "longer_plans") fd
  f_plan_calls : ∃ fd, FnP K "plan_calls" "plan_calls" s_plan_calls (He.ga K "plan_calls") fd
  f_with_part : ∃ fd, FnP K "with_part" "with_part" s_with_part (He.ga K "with_part") fd
  f_is_operation : ∃ fd, FnP K "is_operation" "is_operation" s_is_operation (He.ga K "is_operation") fd
  f_check_list : ∃ fd, FnP K "check_list" "check_list" s_check_list (He.ga K "check_list") fd
  f_check_entry : ∃ fd, FnP K "check_entry" "check_entry" s_check_entry (He.ga K "check_entry") fd
  f_Bench_init : ∃ fd, FnP K "__init__" "Bench.__init__" s_Bench_init (He.ma K (He.ga K "Bench") "__init__") fd
  f_Bench_undo : ∃ fd, FnP K "undo" "Bench.undo" s_Bench_undo (He.ma K (He.ga K "Bench") "undo") fd
  f_Bench_redo : ∃ fd, FnP K "redo" "Bench.redo" s_Bench_redo (He.ma K (He.ga K "Bench") "redo") fd
  f_Bench_text : ∃ fd, FnP K "text" "Bench.text" s_Bench_text (getAt K (He.ga K "Bench") "text") fd
  f_Bench_batch : ∃ fd, FnP K "batch" "Bench.batch" s_Bench_batch (He.ma K (He.ga K "Bench") "batch") fd
  f_Bench__replace : ∃ fd, FnP K "_replace" "Bench._replace" s_Bench__replace (He.ma K (He.ga K "Bench") "_replace") fd
  f_Bench__execute : ∃ fd, FnP K "_execute" "Bench._execute" s_Bench__execute (He.ma K (He.ga K "Bench") "_execute") fd
  f_Bench__state : ∃ fd, FnP K "_state" "Bench._state" s_Bench__state (He.ma K (He.ga K "Bench") "_state") fd
  f__law_random : ∃ fd, FnP K "_law_random" "_law_random" s__law_random (He.ga K "_law_random") fd
  f__law_below : ∃ fd, FnP K "_law_below" "_law_below" s__law_below (He.ga K "_law_below") fd
  f__law_pattern : ∃ fd, FnP K "_law_pattern" "_law_pattern" s__law_pattern (He.ga K "_law_pattern") fd
  f__law_small : ∃ fd, FnP K "_law_small" "_law_small" s__law_small (He.ga K "_law_small") fd
  f__law_equal : ∃ fd, FnP K "_law_equal" "_law_equal" s__law_equal (He.ga K "_law_equal") fd
def fcts : List (PySem.W.Frag → Bool) := [fcB (.free "abs"), fcB (.free "all"), fcB (.free "bool"), fcB (.free "divmod"), fcB (.free "enumerate"), fcB (.free "int"), fcB (.free "isinstance"), fcB (.free "len"), fcB (.free "list"), fcB (.free "max"), fcB (.free "min"), fcB (.free "range"), fcB (.free "str"), fcB (.free "sum"), fcB (.free "tuple"), fcB (.free "zip"), bltB "lcm" "math.lcm", fcB (.int "LAST_TICK" 1000000000000000000), fcB (.glo "HALL_WORDS"), tupB "HALL_WORDS" ["modulus", "takes", "calls", "lateness"], fcB (.glo "BARE_WORDS"), tupB "BARE_WORDS" ["undo", "redo"], fcB (.int "LEAST_MODULUS" 2), fcB (.int "GREATEST_MODULUS" 10000), fcB (.int "MOST_ITEMS" 12), fcB (.int "GREATEST_ITEM" 9), fcB (.int "GREATEST_LATENESS" 99), fcB (.int "MOST_PLACES" 4), fcB (.glo "is_integer_within"), fcB (.glo "check_tick"), fcB (.glo "count_open"), fcB (.glo "most_open_with"), fcB (.glo "first_excess"), fcB (.glo "most_open"), fcB (.glo "first_clash"), fcB (.glo "least_colors"), fcB (.glo "write_line"), fcB (.glo "first_invalid_item"), fcB (.glo "check_pattern"), fcB (.glo "check_hall"), fcB (.glo "count_calls"), fcB (.glo "never_clashes"), fcB (.glo "with_calls_at"), fcB (.glo "last_place"), fcB (.glo "longer_plans"), fcB (.glo "plan_calls"), fcB (.glo "with_part"), fcB (.glo "is_operation"), fcB (.glo "check_list"), fcB (.glo "check_entry"), fcB (.glo "_law_random"), fcB (.glo "_law_below"), fcB (.glo "_law_pattern"), fcB (.glo "_law_small"), fcB (.glo "_law_equal"), fcB (.glo "Hall"), fcB (.cls "Hall"), fcB (.mkr "Hall"), fcB (.noat "Hall" "modulus"), fcB (.noat "Hall" "takes"), fcB (.noat "Hall" "calls"), fcB (.noat "Hall" "lateness"), fcB (.noat "Hall" "_called"), (fun K => propB K (He.ga K "Hall") "period"), (fun K => propB K (He.ga K "Hall") "growth"), fcB (.meth "Hall" "taken"), fcB (.meth "Hall" "called"), fcB (.meth "Hall" "waiting"), (fun K => propB K (He.ga K "Hall") "text"), fcB (.glo "Bench"), fcB (.cls "Bench"), fcB (.mkr "Bench"), fcB (.noat "Bench" "_halls"), fcB (.noat "Bench" "_words"), fcB (.noat "Bench" "_done"), fcB (.noat "Bench" "_snapshots"), fcB (.meth "Bench" "undo"), fcB (.meth "Bench" "redo"), (fun K => propB K (He.ga K "Bench") "text"), fcB (.meth "Bench" "batch"), fcB (.meth "Bench" "_replace"), fcB (.meth "Bench" "_execute"), fcB (.meth "Bench" "_state"), fcB (.glo "law")]
def lawF : Nat := 83
def dps : List Dp := [⟨fun K => (He.ga K "is_integer_within"), ⟨("is_integer_within", none), "is_integer_within", "is_integer_within", defArgs s_is_integer_within, defBody s_is_integer_within, defScope s_is_integer_within, [], []⟩, none⟩, ⟨fun K => (He.ga K "check_tick"), ⟨("check_tick", none), "check_tick", "check_tick", defArgs s_check_tick, defBody s_check_tick, defScope s_check_tick, [], []⟩, none⟩, ⟨fun K => (He.ga K "count_open"), ⟨("count_open", none), "count_open", "count_open", defArgs s_count_open, defBody s_count_open, defScope s_count_open, [], []⟩, none⟩, ⟨fun K => (He.ga K "most_open_with"), ⟨("most_open_with", none), "most_open_with", "most_open_with", defArgs s_most_open_with, defBody s_most_open_with, defScope s_most_open_with, [], []⟩, none⟩, ⟨fun K => (He.ga K "first_excess"), ⟨("first_excess", none), "first_excess", "first_excess", defArgs s_first_excess, defBody s_first_excess, defScope s_first_excess, [], []⟩, none⟩, ⟨fun K => (He.ga K "most_open"), ⟨("most_open", none), "most_open", "most_open", defArgs s_most_open, defBody s_most_open, defScope s_most_open, [], []⟩, none⟩, ⟨fun K => (He.ga K "first_clash"), ⟨("first_clash", none), "first_clash", "first_clash", defArgs s_first_clash, defBody s_first_clash, defScope s_first_clash, [], []⟩, none⟩, ⟨fun K => (He.ga K "least_colors"), ⟨("least_colors", none), "least_colors", "least_colors", defArgs s_least_colors, defBody s_least_colors, defScope s_least_colors, [], []⟩, none⟩, ⟨fun K => (He.ga K "write_line"), ⟨("write_line", none), "write_line", "write_line", defArgs s_write_line, defBody s_write_line, defScope s_write_line, [], []⟩, none⟩, ⟨fun K => (He.ga K "first_invalid_item"), ⟨("first_invalid_item", none), "first_invalid_item", "first_invalid_item", defArgs s_first_invalid_item, defBody s_first_invalid_item, defScope s_first_invalid_item, [], []⟩, none⟩, ⟨fun K => (He.ga K "check_pattern"), ⟨("check_pattern", none), "check_pattern", "check_pattern", defArgs s_check_pattern, defBody s_check_pattern, defScope s_check_pattern, [], []⟩, none⟩, ⟨fun K => (He.ga K "check_hall"), ⟨("check_hall", none), "check_hall", "check_hall", defArgs s_check_hall, defBody s_check_hall, defScope s_check_hall, [], []⟩, none⟩, ⟨fun K => (He.ga K "count_calls"), ⟨("count_calls", none), "count_calls", "count_calls", defArgs s_count_calls, defBody s_count_calls, defScope s_count_calls, [], []⟩, none⟩, ⟨fun K => (He.ma K (He.ga K "Hall") "__init__"), ⟨("__init__", none), "__init__", "Hall.__init__", defArgs s_init, defBody s_init, defScope s_init, [], []⟩, none⟩, ⟨fun K => (getAt K (He.ga K "Hall") "period"), ⟨("period", none), "period", "Hall.period", defArgs s_period, defBody s_period, defScope s_period, [], []⟩, none⟩, ⟨fun K => (getAt K (He.ga K "Hall") "growth"), ⟨("growth", none), "growth", "Hall.growth", defArgs s_growth, defBody s_growth, defScope s_growth, [], []⟩, none⟩, ⟨fun K => (He.ma K (He.ga K "Hall") "taken"), ⟨("taken", none), "taken", "Hall.taken", defArgs s_taken, defBody s_taken, defScope s_taken, [], []⟩, none⟩, ⟨fun K => (He.ma K (He.ga K "Hall") "called"), ⟨("called", none), "called", "Hall.called", defArgs s_called, defBody s_called, defScope s_called, [], []⟩, none⟩, ⟨fun K => (He.ma K (He.ga K "Hall") "waiting"), ⟨("waiting", none), "waiting", "Hall.waiting", defArgs s_waiting, defBody s_waiting, defScope s_waiting, [], []⟩, none⟩, ⟨fun K => (getAt K (He.ga K "Hall") "text"), ⟨("text", none), "text", "Hall.text", defArgs s_text, defBody s_text, defScope s_text, [], []⟩, none⟩, ⟨fun K => (He.ga K "never_clashes"), ⟨("never_clashes", none), "never_clashes", "never_clashes", defArgs s_never_clashes, defBody s_never_clashes, defScope s_never_clashes, [], []⟩, none⟩, ⟨fun K => (He.ga K "with_calls_at"), ⟨("with_calls_at", none), "with_calls_at", "with_calls_at", defArgs s_with_calls_at, defBody s_with_calls_at, defScope s_with_calls_at, [], []⟩, none⟩, ⟨fun K => (He.ga K "last_place"), ⟨("last_place", none), "last_place", "last_place", defArgs s_last_place, defBody s_last_place, defScope s_last_place, [], []⟩, none⟩, ⟨fun K => (He.ga K "longer_plans"), ⟨("longer_plans", none), "longer_plans", "longer_plans", defArgs s_longer_plans, defBody s_longer_plans, defScope s_longer_plans, [], []⟩, none⟩, ⟨fun K => (He.ga K "plan_calls"), ⟨("plan_calls", none), "plan_calls", "plan_calls", defArgs s_plan_calls, defBody s_plan_calls, defScope s_plan_calls, [], []⟩, none⟩, ⟨fun K => (He.ga K "with_part"), ⟨("with_part", none), "with_part", "with_part", defArgs s_with_part, defBody s_with_part, defScope s_with_part, [], []⟩, none⟩, ⟨fun K => (He.ga K "is_operation"), ⟨("is_operation", none), "is_operation", "is_operation", defArgs s_is_operation, defBody s_is_operation, defScope s_is_operation, [], []⟩, none⟩, ⟨fun K => (He.ga K "check_list"), ⟨("check_list", none), "check_list", "check_list", defArgs s_check_list, defBody s_check_list, defScope s_check_list, [], []⟩, none⟩, ⟨fun K => (He.ga K "check_entry"), ⟨("check_entry", none), "check_entry", "check_entry", defArgs s_check_entry, defBody s_check_entry, defScope s_check_entry, [], []⟩, none⟩, ⟨fun K => (He.ma K (He.ga K "Bench") "__init__"), ⟨("__init__", none), "__init__", "Bench.__init__", defArgs s_Bench_init, defBody s_Bench_init, defScope s_Bench_init, [], []⟩, none⟩, ⟨fun K => (He.ma K (He.ga K "Bench") "undo"), ⟨("undo", none), "undo", "Bench.undo", defArgs s_Bench_undo, defBody s_Bench_undo, defScope s_Bench_undo, [], []⟩, none⟩, ⟨fun K => (He.ma K (He.ga K "Bench") "redo"), ⟨("redo", none), "redo", "Bench.redo", defArgs s_Bench_redo, defBody s_Bench_redo, defScope s_Bench_redo, [], []⟩, none⟩, ⟨fun K => (getAt K (He.ga K "Bench") "text"), ⟨("text", none), "text", "Bench.text", defArgs s_Bench_text, defBody s_Bench_text, defScope s_Bench_text, [], []⟩, none⟩, ⟨fun K => (He.ma K (He.ga K "Bench") "batch"), ⟨("batch", none), "batch", "Bench.batch", defArgs s_Bench_batch, defBody s_Bench_batch, defScope s_Bench_batch, [], []⟩, none⟩, ⟨fun K => (He.ma K (He.ga K "Bench") "_replace"), ⟨("_replace", none), "_replace", "Bench._replace", defArgs s_Bench__replace, defBody s_Bench__replace, defScope s_Bench__replace, [], []⟩, none⟩, ⟨fun K => (He.ma K (He.ga K "Bench") "_execute"), ⟨("_execute", none), "_execute", "Bench._execute", defArgs s_Bench__execute, defBody s_Bench__execute, defScope s_Bench__execute, [], []⟩, none⟩, ⟨fun K => (He.ma K (He.ga K "Bench") "_state"), ⟨("_state", none), "_state", "Bench._state", defArgs s_Bench__state, defBody s_Bench__state, defScope s_Bench__state, [], []⟩, none⟩, ⟨fun K => (He.ga K "_law_random"), ⟨("_law_random", none), "_law_random", "_law_random", defArgs s__law_random, defBody s__law_random, defScope s__law_random, [], []⟩, none⟩, ⟨fun K => (He.ga K "_law_below"), ⟨("_law_below", none), "_law_below", "_law_below", defArgs s__law_below, defBody s__law_below, defScope s__law_below, [], []⟩, none⟩, ⟨fun K => (He.ga K "_law_pattern"), ⟨("_law_pattern", none), "_law_pattern", "_law_pattern", defArgs s__law_pattern, defBody s__law_pattern, defScope s__law_pattern, [], []⟩, none⟩, ⟨fun K => (He.ga K "_law_small"), ⟨("_law_small", none), "_law_small", "_law_small", defArgs s__law_small, defBody s__law_small, defScope s__law_small, [], []⟩, none⟩, ⟨fun K => (He.ga K "_law_equal"), ⟨("_law_equal", none), "_law_equal", "_law_equal", defArgs s__law_equal, defBody s__law_equal, defScope s__law_equal, [], []⟩, none⟩, ⟨fun K => (He.ga K "law"), ⟨("law", none), "law", "law", defArgs s_law, defBody s_law, defScope s_law, [], []⟩, none⟩]
def names : List PySem.Str := (["_wall", "HallError", "InvalidHall", "InvalidTick", "InvalidLimit", "TextFault", "InvalidOperation", "LAST_TICK", "is_integer_within", "check_tick", "count_open", "most_open_with"] : List PySem.Str) ++ (["first_excess", "most_open", "first_clash", "least_colors", "HALL_WORDS", "ONE_NUMBER_WORDS", "BARE_WORDS", "MOST_DIGITS", "write_line", "is_number", "read_line", "read_hall_lines"] : List PySem.Str) ++ (["LEAST_MODULUS", "GREATEST_MODULUS", "MOST_ITEMS", "GREATEST_ITEM", "GREATEST_LATENESS", "first_invalid_item", "check_pattern", "check_hall", "count_calls", "Hall", "MOST_PLACES", "never_clashes"] : List PySem.Str) ++ (["with_calls_at", "last_place", "longer_plans", "plan_calls", "with_part", "is_operation", "check_list", "check_entry", "Bench", "_law_random", "_law_below", "_law_pattern"] : List PySem.Str) ++ (["_law_small", "_law_equal"] : List PySem.Str)
abbrev R : PySem.W.OpenRow := PySem.W.OpenLaw.row PySem.Challenge.rw_ticketwrap_k44_whole_plans_by_trying_all
def mkl : List (Mk_ × Str) := [(fun K => (He.ga K "first_clash"), "first_clash")]
abbrev mks : List Mk_ := mkl.map fun p => p.1
abbrev hk : PySem.W.Hook := hook 6 fcts dps mks
def ob (s : PySem.W.SharedT) : AlX := obsG 6 fcts dps mks (HeadRun.getT s)
theorem ob_eq (s : PySem.W.SharedT) : ob s = hk.obs s.abs := obsG_eq (HeadRun.getT_eq s)
def lawI : Nat := 59
end Tk
namespace Tk
open PySem PySem.Spec PyProof.Rows L2
theorem run (w : World) : HeadRun.RunEqI R (PySem.W.view R.prog [0, 59]) hk ob 20000 names w := by
  unfold HeadRun.RunEqI
  kernel_rfl
theorem txt {K : PySem.W.Frag} {h : Heap} {mg : Str → Option Value} (X : K.In h) (G : h.Ns mainGlobals mg) (c : Says fcts dps K) : Txt K mg where
  g_abs := He.free_ok X G (c.fact 0 rfl)
  g_all := He.free_ok X G (c.fact 1 rfl)
  g_bool := He.free_ok X G (c.fact 2 rfl)
  g_divmod := He.free_ok X G (c.fact 3 rfl)
  g_enumerate := He.free_ok X G (c.fact 4 rfl)
  g_int := He.free_ok X G (c.fact 5 rfl)
  g_isinstance := He.free_ok X G (c.fact 6 rfl)
  g_len := He.free_ok X G (c.fact 7 rfl)
  g_list := He.free_ok X G (c.fact 8 rfl)
  g_max := He.free_ok X G (c.fact 9 rfl)
  g_min := He.free_ok X G (c.fact 10 rfl)
  g_range := He.free_ok X G (c.fact 11 rfl)
  g_str := He.free_ok X G (c.fact 12 rfl)
  g_sum := He.free_ok X G (c.fact 13 rfl)
  g_tuple := He.free_ok X G (c.fact 14 rfl)
  g_zip := He.free_ok X G (c.fact 15 rfl)
  g_lcm := blt_ok X G (c.fact 16 rfl)
  c_LAST_TICK := He.int_ok X G (c.fact 17 rfl)
  g_HALL_WORDS := He.glo_ok X G (c.fact 18 rfl)
  t_HALL_WORDS := tup_ok (c.fact 19 rfl)
  g_BARE_WORDS := He.glo_ok X G (c.fact 20 rfl)
  t_BARE_WORDS := tup_ok (c.fact 21 rfl)
  c_LEAST_MODULUS := He.int_ok X G (c.fact 22 rfl)
  c_GREATEST_MODULUS := He.int_ok X G (c.fact 23 rfl)
  c_MOST_ITEMS := He.int_ok X G (c.fact 24 rfl)
  c_GREATEST_ITEM := He.int_ok X G (c.fact 25 rfl)
  c_GREATEST_LATENESS := He.int_ok X G (c.fact 26 rfl)
  c_MOST_PLACES := He.int_ok X G (c.fact 27 rfl)
  g_is_integer_within := He.glo_ok X G (c.fact 28 rfl)
  g_check_tick := He.glo_ok X G (c.fact 29 rfl)
  g_count_open := He.glo_ok X G (c.fact 30 rfl)
  g_most_open_with := He.glo_ok X G (c.fact 31 rfl)
  g_first_excess := He.glo_ok X G (c.fact 32 rfl)
  g_most_open := He.glo_ok X G (c.fact 33 rfl)
  g_first_clash := He.glo_ok X G (c.fact 34 rfl)
  g_least_colors := He.glo_ok X G (c.fact 35 rfl)
  g_write_line := He.glo_ok X G (c.fact 36 rfl)
  g_first_invalid_item := He.glo_ok X G (c.fact 37 rfl)
  g_check_pattern := He.glo_ok X G (c.fact 38 rfl)
  g_check_hall := He.glo_ok X G (c.fact 39 rfl)
  g_count_calls := He.glo_ok X G (c.fact 40 rfl)
  g_never_clashes := He.glo_ok X G (c.fact 41 rfl)
  g_with_calls_at := He.glo_ok X G (c.fact 42 rfl)
  g_last_place := He.glo_ok X G (c.fact 43 rfl)
  g_longer_plans := He.glo_ok X G (c.fact 44 rfl)
  g_plan_calls := He.glo_ok X G (c.fact 45 rfl)
  g_with_part := He.glo_ok X G (c.fact 46 rfl)
  g_is_operation := He.glo_ok X G (c.fact 47 rfl)
  g_check_list := He.glo_ok X G (c.fact 48 rfl)
  g_check_entry := He.glo_ok X G (c.fact 49 rfl)
  g__law_random := He.glo_ok X G (c.fact 50 rfl)
  g__law_below := He.glo_ok X G (c.fact 51 rfl)
  g__law_pattern := He.glo_ok X G (c.fact 52 rfl)
  g__law_small := He.glo_ok X G (c.fact 53 rfl)
  g__law_equal := He.glo_ok X G (c.fact 54 rfl)
  g_Hall := He.glo_ok X G (c.fact 55 rfl)
  cl_Hall := He.cls_ok (c.fact 56 rfl)
  mk_Hall := He.mkr_ok (c.fact 57 rfl)
  n_modulus := He.noat_ok (c.fact 58 rfl)
  n_takes := He.noat_ok (c.fact 59 rfl)
  n_calls := He.noat_ok (c.fact 60 rfl)
  n_lateness := He.noat_ok (c.fact 61 rfl)
  n__called := He.noat_ok (c.fact 62 rfl)
  p_period := prop_ok (c.fact 63 rfl)
  p_growth := prop_ok (c.fact 64 rfl)
  m_taken := He.meth_ok (c.fact 65 rfl)
  m_called := He.meth_ok (c.fact 66 rfl)
  m_waiting := He.meth_ok (c.fact 67 rfl)
  p_text := prop_ok (c.fact 68 rfl)
  g_Bench := He.glo_ok X G (c.fact 69 rfl)
  cl_Bench := He.cls_ok (c.fact 70 rfl)
  mk_Bench := He.mkr_ok (c.fact 71 rfl)
  n_Bench__halls := He.noat_ok (c.fact 72 rfl)
  n_Bench__words := He.noat_ok (c.fact 73 rfl)
  n_Bench__done := He.noat_ok (c.fact 74 rfl)
  n_Bench__snapshots := He.noat_ok (c.fact 75 rfl)
  m_Bench_undo := He.meth_ok (c.fact 76 rfl)
  m_Bench_redo := He.meth_ok (c.fact 77 rfl)
  p_Bench_text := prop_ok (c.fact 78 rfl)
  m_Bench_batch := He.meth_ok (c.fact 79 rfl)
  m_Bench__replace := He.meth_ok (c.fact 80 rfl)
  m_Bench__execute := He.meth_ok (c.fact 81 rfl)
  m_Bench__state := He.meth_ok (c.fact 82 rfl)
  f_is_integer_within := (c.def_ 0 rfl).1
  f_check_tick := (c.def_ 1 rfl).1
  f_count_open := (c.def_ 2 rfl).1
  f_most_open_with := (c.def_ 3 rfl).1
  f_first_excess := (c.def_ 4 rfl).1
  f_most_open := (c.def_ 5 rfl).1
  f_first_clash := (c.def_ 6 rfl).1
  f_least_colors := (c.def_ 7 rfl).1
  f_write_line := (c.def_ 8 rfl).1
  f_first_invalid_item := (c.def_ 9 rfl).1
  f_check_pattern := (c.def_ 10 rfl).1
  f_check_hall := (c.def_ 11 rfl).1
  f_count_calls := (c.def_ 12 rfl).1
  f_init := (c.def_ 13 rfl).1
  f_period := (c.def_ 14 rfl).1
  f_growth := (c.def_ 15 rfl).1
  f_taken := (c.def_ 16 rfl).1
  f_called := (c.def_ 17 rfl).1
  f_waiting := (c.def_ 18 rfl).1
  f_text := (c.def_ 19 rfl).1
  f_never_clashes := (c.def_ 20 rfl).1
  f_with_calls_at := (c.def_ 21 rfl).1
  f_last_place := (c.def_ 22 rfl).1
  f_longer_plans := (c.def_ 23 rfl).1
  f_plan_calls := (c.def_ 24 rfl).1
  f_with_part := (c.def_ 25 rfl).1
  f_is_operation := (c.def_ 26 rfl).1
  f_check_list := (c.def_ 27 rfl).1
  f_check_entry := (c.def_ 28 rfl).1
  f_Bench_init := (c.def_ 29 rfl).1
  f_Bench_undo := (c.def_ 30 rfl).1
  f_Bench_redo := (c.def_ 31 rfl).1
  f_Bench_text := (c.def_ 32 rfl).1
  f_Bench_batch := (c.def_ 33 rfl).1
  f_Bench__replace := (c.def_ 34 rfl).1
  f_Bench__execute := (c.def_ 35 rfl).1
  f_Bench__state := (c.def_ 36 rfl).1
  f__law_random := (c.def_ 37 rfl).1
  f__law_below := (c.def_ 38 rfl).1
  f__law_pattern := (c.def_ 39 rfl).1
  f__law_small := (c.def_ 40 rfl).1
  f__law_equal := (c.def_ 41 rfl).1
theorem law_fn {K : PySem.W.Frag} (c : Says fcts dps K) : ∃ fd, FnP K "law" "law" s_law (He.ga K "law") fd := (c.def_ 42 rfl).1
end Tk
/-! ### The source of numbers -/
namespace Tk
open PySem PySem.Spec PyProof.Rows L2
/-- what the list of the source holds -/
def DSt (cs : List V) : Prop := ∃ (s g : Int) (ns : List Int), cs = V.int s :: V.int g :: ns.map V.int ∧ 0 ≤ s ∧ s < 2147483647 ∧ 0 ≤ g ∧ (∀ n ∈ ns, (0 : Int) ≤ n) ∧ ns.length ≤ 63
def spRandom (K : PySem.W.Frag) : Sp := fun vs H Q _ => ∃ (a : Addr) (ns : List Int) (salt : Int), vs = [.ref a, .int salt] ∧ SqL K H a (ns.map V.int) ∧ ns.length ≤ 63 ∧ 0 ≤ salt ∧ salt < 1000 ∧
  ∀ (d : Addr) (cs : List V) (H' : Hp), H d = none → Same H H' → H' d = some (.lst cs) → DSt cs → Q (.ref d) H'
def spBelow : Sp := fun vs H Q _ => ∃ (d : Addr) (lim : Int) (cs : List V), vs = [.ref d, .int lim] ∧ 0 < lim ∧ lim < 1073741824 ∧ H d = some (.lst cs) ∧ DSt cs ∧
  ∀ (r : Int) (cs' : List V), 0 ≤ r → r < lim → DSt cs' → Q (.int r) (upd H d (.lst cs'))
theorem int_at {ns : List Int} {i : Nat} {y : V} (h : (ns.map V.int)[i]? = some y) : ∃ u, y = V.int u ∧ ns[i]? = some u := by
  rw [List.getElem?_map] at h
  cases e : ns[i]? with
  | none => rw [e] at h; cases h
  | some u => rw [e] at h; exact ⟨u, (Option.some.inj h).symm, rfl⟩
theorem ixn {n i : Nat} (h : i < n) : ixN n (i : Int) = some i := by
  unfold ixN
  rw [if_pos (by omega), if_pos (by omega)]
  simp
theorem atn {xs : List V} {i : Nat} {x : V} (h : xs[i]? = some x) : atI xs (i : Int) = some x := by
  unfold atI
  rw [ixn (List.getElem?_eq_some_iff.mp h).1]
  exact h
section
variable {P : Program} {w : World} {K : PySem.W.Frag} {mg : Str → Option Value} {base : Heap}
theorem ok__law_random (T : Txt K mg) : OkF P w K mg base 1 (He.ga K "_law_random") ["_law_script", "_law_salt"] (spRandom K) := by
  refine FnP.okF T.f__law_random sc__law_random (fun _ _ _ _ _ _ us hl => match us, hl with | [_, _], _ => rfl) (fun vs H Q E h => ?_) (fun cdv A outer s H vs Q E hr h => ?_)
  · obtain ⟨a, ns, salt, rfl, _⟩ := h
    rfl
  obtain ⟨a, ns, salt, rfl, hS, hlen, h0, h1, k⟩ := h
  refine ⟨_, (pss_cons (ps_set (i := 2) sc__law_random.nd rfl (Or.inl rfl) (pv 1))
    (pss_cons (ps_for own_cx rfl (pi_listK (K := K) (pv 0)) (pg_name (i := 3) sc__law_random.nd rfl (Or.inl rfl))
      (pss_one (ps_set (i := 2) sc__law_random.nd rfl (Or.inl rfl) (pe_op op_mod (pe_op op_add (pe_op op_mul (pv 2) pe_int) (pe_callB call_abs (by rfl) T.g_abs (by decide +kernel) (pa_cons (pv 3) pa_nil))) pe_int))))
    (pss_one (ps_ret (pe_op op_cat (pe_lst (pa_cons (pv 2) (pa_cons pe_int pa_nil))) (pe_lc (own := [("_law_cell", 3)]) (g := gName 3) (tt := _) (by rfl) sc__law_random.nd (pi_listK (K := K) (pv 0)) (blkOk_by (own := [("_law_cell", 3)]) (N := N__law_random) (sc := (defScope s__law_random)) (by decide +kernel)) (fun _ _ _ _ _ => pg_name (i := 3) sc__law_random.nd rfl (Or.inl rfl)) (fun _ _ _ _ _ => (pts_one (pt_cmpR op_ge (pv 3) (pe_op op_pow pe_int pe_int) (nomark _)))) (fun _ _ _ _ _ => (pv 3)))))))), ?_⟩
  refine ⟨_, rfl, ?_⟩
  refine ⟨_, rfl, a, rfl, ⟨_, hS⟩, for_list (K := K) (a := a) (xs := ns.map V.int) (fun i σ H' => ∃ (z : Int) (v : Option V), σ = [some (.ref a), some (.int salt), some (.int z), v] ∧ H' = H ∧ 0 ≤ z ∧ z < 2147483647)
    ⟨salt, none, rfl, rfl, h0, by omega⟩ (fun i σ H' _ ⟨_, _, _, e, _⟩ => e ▸ hS) ?_ ?_⟩
  · rintro i y σ H' hi ⟨z, v, rfl, rfl, z0, z1⟩
    obtain ⟨u, rfl, hu⟩ := int_at hi
    refine ⟨_, rfl, _, _, rfl, rfl, .inl ⟨by omega, by omega⟩, _, rfl, _, rfl, _, _, rfl, rfl, _, _, rfl, rfl, (by show (0 : Int) < 2147483647; decide), ?_⟩
    refine ⟨_, _, rfl, rfl, ?_, ?_⟩
    · exact Int.emod_nonneg _ (by decide)
    · exact Int.emod_lt_of_pos _ (by decide)
  · rintro σ H' ⟨z, v, rfl, rfl, z0, z1⟩
    refine ⟨_, rfl, (by show 2 ≤ sizeLine; decide), fun l hl => ?_⟩
    have s1 : Same H' (upd H' l (.lst [.int z, .int 0])) := fun b o e => by rw [upd_ne (ne_of_none e hl)]; exact e
    refine ⟨_, rfl, a, rfl, ⟨_, s1.seq hS⟩, fun D hD => ?_⟩
    have hDl : D ≠ l := fun e => by rw [e, upd_same] at hD; cases hD
    have hD0 : H' D = none := by rw [upd_ne hDl] at hD; exact hD
    refine lc_list (K := K) (a := a) (xs := ns.map V.int) (fun i H2 => ∃ ms : List Int, H2 = upd (upd H' l (.lst [.int z, .int 0])) D (.lst (ms.map V.int)) ∧ (∀ n ∈ ms, (0 : Int) ≤ n) ∧ ms.length ≤ i)
      ⟨[], rfl, (fun n hn => by cases hn), Nat.le_refl _⟩ (fun i H2 _ ⟨ms, e, _⟩ => ?_) ?_ ?_
    · subst e
      refine Same.seq (fun b o e => ?_) hS
      rw [upd_ne (ne_of_none e hD0)]
      exact s1 b o e
    · rintro i x H2 hx ⟨ms, rfl, m0, ml⟩
      obtain ⟨u, rfl, hu⟩ := int_at hx
      have hi63 : i < 63 := by
        have := (List.getElem?_eq_some_iff.mp hu).1
        omega
      refine ⟨rfl, _, rfl, _, _, rfl, rfl, ⟨by decide, by decide, by decide⟩, _, _, rfl, rfl, _, rfl, ?_⟩
      refine ite2 (fun c => ?_) (fun c => ⟨ms, rfl, m0, by omega⟩)
      refine ⟨_, rfl, _, upd_same, Nat.lt_of_le_of_lt (m := 63) (by rw [List.length_map]; omega) (by decide), ⟨ms ++ [u], ?_, ?_, ?_⟩⟩
      · rw [upd_upd, List.map_append]
        rfl
      · intro n hn
        rcases List.mem_append.mp hn with h | h
        · exact m0 n h
        · rw [List.mem_singleton.mp h]
          have c2 : (10 : Int) ^ (18 : Int).toNat ≤ u := of_decide_eq_true c
          have : (0 : Int) ≤ 10 ^ (18 : Int).toNat := by decide
          omega
      · rw [List.length_append]
        show ms.length + 1 ≤ i + 1
        omega
    · rintro H2 ⟨ms, rfl, m0, ml⟩
      rw [List.length_map] at ml
      refine ⟨l, D, _, _, rfl, rfl, (by rw [upd_ne hDl.symm]; exact upd_same), upd_same, ?_, fun p hp => ?_⟩
      · rw [List.length_map]
        exact Nat.le_trans (m := 65) (by show 2 + ms.length ≤ 65; omega) (by decide)
      · have hpD : p ≠ D := fun e => by rw [e, upd_same] at hp; cases hp
        have hp2 : p ≠ l := fun e => by rw [e, upd_ne hDl.symm, upd_same] at hp; cases hp
        refine k p _ _ (by rw [upd_ne hpD, upd_ne hp2] at hp; exact hp) (fun b o e => ?_) upd_same ⟨z, 0, ms, rfl, z0, z1, Int.le_refl _, m0, by omega⟩
        have hb : b ≠ p := fun q => by rw [q] at e; rw [upd_ne hpD, upd_ne hp2] at hp; rw [e] at hp; cases hp
        rw [upd_ne hb, upd_ne (ne_of_none e hD0)]
        exact s1 b o e
end
end Tk

namespace Tk
open PySem PySem.Spec PyProof.Rows L2
section
variable {P : Program} {w : World} {K : PySem.W.Frag} {mg : Str → Option Value} {base : Heap}
theorem upd_eq {H H2 : Hp} {d : Addr} (e : ∀ b, b ≠ d → H2 b = H b) (o : HO) : upd H2 d o = upd H d o := by
  funext b
  unfold upd
  by_cases q : b = d
  · rw [if_pos q, if_pos q]
  · rw [if_neg q, if_neg q, e b q]
theorem gt_dec {a b : Int} : decide (b < a) = true → b < a := of_decide_eq_true
theorem ok__law_below (T : Txt K mg) : OkF P w K mg base 1 (He.ga K "_law_below") ["_law_d", "_law_limit"] spBelow := by
  refine FnP.okF T.f__law_below sc__law_below (fun _ _ _ _ _ _ us hl => match us, hl with | [_, _], _ => rfl) (fun vs H Q E h => ?_) (fun cdv A outer s H vs Q E hr h => ?_)
  · obtain ⟨d, lim, cs, rfl, _⟩ := h
    rfl
  obtain ⟨d, lim, cs, rfl, l0, l1, hd, ⟨s1, g, ns, rfl, hs0, hs1, hg, hns, hlen⟩, k⟩ := h
  refine ⟨_, (Evl.pss_cut (ps_if (PW.pt (pw_and (pt_cmpR op_eq (pe_ix (ixLK (K := K)) (pv 0) pe_int (fun _ _ => rfl)) pe_int (nomark _)) (pw_and1 (pt_cmpR op_gt (pe_callB (lenK (K := K)) (by rfl) T.g_len (by decide +kernel) (pa_cons (pv 0) pa_nil)) pe_int (nomark _))))) (pss_one (ps_asg (pe_bm PySem.F.plainAttrs_list PySem.F.slot_list_pop PySem.F.type_list_pop mt_popAt (pv 0) (pa_cons pe_int pa_nil)) (pg_sub (pv 0) pe_int set_list))) pss_nil)
    (pss_cons (ps_if (pt_cmpR op_gt (pe_ix (ixLK (K := K)) (pv 0) pe_int (fun _ _ => rfl)) pe_int (nomark _)) (pss_cons (ps_set (i := 2) sc__law_below.nd rfl (Or.inl rfl) (pe_op op_mod (pe_ix (ixLK (K := K)) (pv 0) pe_int (fun _ _ => rfl)) (pv 1)))
    (pss_cons (ps_asg (pe_op op_fdiv (pe_ix (ixLK (K := K)) (pv 0) pe_int (fun _ _ => rfl)) (pv 1)) (pg_sub (pv 0) pe_int set_list))
    (pss_one (ps_ret (pv 2))))) pss_nil)
    (pss_cons (ps_asg (pe_op op_mod (pe_op op_add (pe_op op_mul (pe_ix (ixLK (K := K)) (pv 0) pe_int (fun _ _ => rfl)) pe_int) pe_int) pe_int) (pg_sub (pv 0) pe_int set_list))
    (pss_one (ps_ret (pe_op op_mod (pe_op op_fdiv (pe_ix (ixLK (K := K)) (pv 0) pe_int (fun _ _ => rfl)) pe_int) (pv 1))))))), ?_⟩
  -- if d[1] == 0 and len(d) > 2: d[1] = d.pop(2)
  refine ⟨fun σ H2 => ∃ (g2 : Int) (ms : List Int), σ = [some (.ref d), some (.int lim), none] ∧ H2 = upd H d (.lst (V.int s1 :: V.int g2 :: ms.map V.int)) ∧ 0 ≤ g2 ∧ (∀ n ∈ ms, (0 : Int) ≤ n) ∧ ms.length ≤ 63, ?_, ?_⟩
  · have h0 : H = upd H d (.lst (V.int s1 :: V.int g :: ns.map V.int)) := by
      funext b
      unfold upd
      by_cases q : b = d
      · rw [if_pos q, q, hd]
      · rw [if_neg q]
    have no : ∃ (g2 : Int) (ms : List Int), [some (V.ref d), some (V.int lim), none] = [some (.ref d), some (.int lim), none] ∧ H = upd H d (.lst (V.int s1 :: V.int g2 :: ms.map V.int)) ∧ 0 ≤ g2 ∧ (∀ n ∈ ms, (0 : Int) ≤ n) ∧ ms.length ≤ 63 := ⟨g, ns, rfl, h0, hg, hns, hlen⟩
    refine ⟨_, rfl, d, _, 1, _, rfl, rfl, SqL.of hd, atn (i := 1) rfl, rfl, _, rfl, ?_⟩
    refine ite2 (fun c => ?_) (fun c => no)
    refine ⟨_, rfl, d, _, rfl, .inl (SqL.of hd), _, _, rfl, rfl, _, rfl, ?_⟩
    refine ite2 (fun c2 => ?_) (fun c2 => no)
    cases ns with
    | nil =>
      have : (2 : Int) < (2 : Int) := gt_dec c2
      omega
    | cons n0 ms =>
      refine ⟨_, rfl, .inl ⟨rfl, _, SqL.of hd⟩, d, _, 2, 2, _, rfl, rfl, hd, by decide, by decide, ?_, rfl, ?_⟩
      · have hl : (V.int s1 :: V.int g :: (n0 :: ms).map V.int).length = ms.length + 3 := by simp
        rw [hl]
        unfold seqIndex?
        simp
        omega
      · refine ⟨_, rfl, d, _, 1, 1, rfl, rfl, upd_same, ixn (i := 1) (by simp), ?_⟩
        refine ⟨n0, ms, rfl, ?_, hns n0 List.mem_cons_self, fun n hn => hns n (List.mem_cons_of_mem _ hn), by have := hlen; simp at this; omega⟩
        rw [upd_upd]
        rfl
  · rintro σ H2 ⟨g2, ms, rfl, rfl, hg2, hms, hml⟩
    have hd2 : upd H d (.lst (V.int s1 :: V.int g2 :: ms.map V.int)) d = some (.lst (V.int s1 :: V.int g2 :: ms.map V.int)) := upd_same
    -- if d[1] > 0
    refine ⟨_, rfl, d, _, 1, _, rfl, rfl, SqL.of hd2, atn (i := 1) rfl, _, _, rfl, rfl, _, rfl, ?_⟩
    refine ite2 (fun c => ?_) (fun c => ?_)
    · refine ⟨_, rfl, d, _, 1, _, rfl, rfl, SqL.of hd2, atn (i := 1) rfl, _, rfl, _, _, rfl, rfl, l0, ?_⟩
      refine ⟨_, rfl, d, _, 1, _, rfl, rfl, SqL.of hd2, atn (i := 1) rfl, _, rfl, _, _, rfl, rfl, ⟨l0, l1⟩, ?_⟩
      refine ⟨_, rfl, d, _, 1, 1, rfl, rfl, upd_same, ixn (i := 1) (by simp), ?_⟩
      refine ⟨_, rfl, ?_⟩
      show Q (V.int (g2 % lim)) _
      rw [upd_upd]
      exact k _ _ (Int.emod_nonneg _ (by omega)) (Int.emod_lt_of_pos _ l0) ⟨s1, g2 / lim, ms, rfl, hs0, hs1, Int.ediv_nonneg hg2 (by omega), hms, hml⟩
    · refine ⟨_, rfl, d, _, 0, _, rfl, rfl, SqL.of hd2, atn (i := 0) rfl, _, _, rfl, rfl, .inl ⟨by omega, by omega⟩, _, _, rfl, rfl, _, _, rfl, rfl, (by show (0 : Int) < 2147483647; decide), ?_⟩
      refine ⟨_, rfl, d, _, 0, 0, rfl, rfl, upd_same, ixn (i := 0) (by simp), ?_⟩
      refine ⟨_, rfl, d, _, 0, _, rfl, rfl, SqL.of upd_same, atn (i := 0) rfl, _, _, rfl, rfl, ⟨by decide, by decide⟩, _, rfl, _, _, rfl, rfl, l0, ?_⟩
      rw [upd_upd]
      exact k _ _ (Int.emod_nonneg _ (by omega)) (Int.emod_lt_of_pos _ l0) ⟨_, g2, ms, rfl, Int.emod_nonneg _ (by decide), Int.emod_lt_of_pos _ (by decide), hg2, hms, hml⟩
end
end Tk

/-! ### Reading step by step: what each reading asks, as a rule -/
namespace Tk
open PySem PySem.Spec PyProof.Rows L2
theorem Same.get {H H' : Hp} {b : Addr} {o : HO} (S : Same H H') (h : H b = some o) : H' b = some o := S b o h
theorem Same.tr {H H1 H2 : Hp} (b : Same H1 H2) (a : Same H H1) : Same H H2 := fun c o h => b c o (a c o h)
theorem Same.nw {p : Addr} {H0 H : Hp} {o : HO} (h : H p = none) (S : Same H0 H) : Same H0 (upd H p o) := fun b u e => by rw [upd_ne (ne_of_none (S b u e) h)]; exact S b u e
theorem Same.fr {H H' : Hp} {p : Addr} (S : Same H H') (h : H' p = none) : H p = none := by
  cases q : H p with
  | none => rfl
  | some o => rw [S p o q] at h; cases h
theorem sqt_sm {K : PySem.W.Frag} {H H' : Hp} {a : Addr} {xs : List V} (e : Same H H') (h : SqT K H a xs) : SqT K H' a xs := by
  rcases h with (h | ⟨o, h⟩) | h
  · exact .inl (.inl (e _ _ h))
  · exact .inl (.inr ⟨o, e _ _ h⟩)
  · exact .inr h
namespace Rd
variable {K : PySem.W.Frag} {σ : L2.St} {H : Hp} {Q : VK} {QA : List V → Hp → Prop} {QB : Bool → Hp → Prop} {D : Ends} {ta tb tc te : TE} {t : TA} {tt tu : L2.TT} {ts tr : TS}
/-! expressions -/
theorem var {i : Nat} {v : V} (h : σ[i]? = some (some v)) (k : Q v H) : tVar i σ H Q := ⟨v, h, k⟩
theorem c {v : V} (k : Q v H) : tC v σ H Q := k
theorem op {r : R2} (k : ta σ H fun x H1 => tb σ H1 fun y H2 => r x y H2 Q) : tOp r ta tb σ H Q := k
theorem un {r : V → Hp → VK → Prop} (k : ta σ H fun x H1 => r x H1 Q) : tUn r ta σ H Q := k
theorem i0 {g : Int → Int → V} {i j : Int} (k : Q (g i j) H) : rI0 g (.int i) (.int j) H Q := ⟨i, j, rfl, rfl, k⟩
theorem i1 {C : Int → Int → Prop} {g : Int → Int → V} {i j : Int} (hc : C i j) (k : Q (g i j) H) : rI C g (.int i) (.int j) H Q := ⟨i, j, rfl, rfl, hc, k⟩
theorem u1 {g : Int → V} {i : Int} (k : Q (g i) H) : rU g (.int i) H Q := ⟨i, rfl, k⟩
theorem eq {x y : V} (h : scal x y = true) (k : Q (.bl (decide (x = y))) H) : rEq x y H Q := ⟨h, k⟩
theorem ne {x y : V} (h : scal x y = true) (k : Q (.bl (!decide (x = y))) H) : rNe x y H Q := ⟨h, k⟩
def toB (Q : Bool → Hp → Prop) : VK := fun x H' => ∃ k, x = .bl k ∧ Q k H'
theorem toB_i {b : Bool} (k : QB b H) : toB QB (.bl b) H := ⟨b, rfl, k⟩
theorem tst (k : te σ H (toB QB)) : tTest te σ H QB := k
theorem bv (k : te σ H (toB QB)) : tB te σ H QB := k
def andK (tb : TE) (σ : L2.St) (Q : VK) : VK := fun x H1 => ∃ c, x = .bl c ∧ if c = true then tb σ H1 Q else Q (.bl false) H1
theorem andV (k : ta σ H (andK tb σ Q)) : tAndV ta tb σ H Q := k
theorem andK_i {b : Bool} (k : if b = true then tb σ H Q else Q (.bl false) H) : andK tb σ Q (.bl b) H := ⟨b, rfl, k⟩
def orK (tb : TE) (σ : L2.St) (Q : VK) : VK := fun x H1 => ∃ c, x = .bl c ∧ if c = true then Q (.bl true) H1 else tb σ H1 Q
theorem orV (k : ta σ H (orK tb σ Q)) : tOrV ta tb σ H Q := k
theorem orK_i {b : Bool} (k : if b = true then Q (.bl true) H else tb σ H Q) : orK tb σ Q (.bl b) H := ⟨b, rfl, k⟩
def notK (Q : VK) : VK := fun x H1 => ∃ c, x = .bl c ∧ Q (.bl (!c)) H1
theorem notV (k : ta σ H (notK Q)) : tNotV ta σ H Q := k
theorem notK_i {b : Bool} (k : Q (.bl (!b)) H) : notK Q (.bl b) H := ⟨b, rfl, k⟩
theorem and (k : tt σ H fun c H1 => if c = true then tu σ H1 QB else QB false H1) : tAnd tt tu σ H QB := k
theorem or (k : tt σ H fun c H1 => if c = true then QB true H1 else tu σ H1 QB) : tOr tt tu σ H QB := k
theorem not (k : tt σ H fun c H1 => QB (!c) H1) : tNot tt σ H QB := k
theorem tif (k : tt σ H fun c H1 => if c = true then ta σ H1 Q else tb σ H1 Q) : tIf tt ta tb σ H Q := k
theorem yes (k : QB true H) : tYes σ H QB := k
def chainK (r r' : R2) (x : V) (tc : TE) (σ : L2.St) (Q : VK) : VK := fun y H2 => r x y H2 fun z H3 => ∃ k, z = .bl k ∧ (if k = true then tc σ H3 fun w' H4 => r' y w' H4 Q else Q (.bl false) H3)
def chainL (r' : R2) (y : V) (tc : TE) (σ : L2.St) (Q : VK) : VK := fun z H3 => ∃ k, z = .bl k ∧ (if k = true then tc σ H3 fun w' H4 => r' y w' H4 Q else Q (.bl false) H3)
theorem chain {r r' : R2} (k : ta σ H fun x H1 => tb σ H1 fun y H2 => r x y H2 (chainL r' y tc σ Q)) : tChain r r' ta tb tc σ H Q := k
theorem chainL_i {r' : R2} {y : V} {b : Bool} (k : if b = true then tc σ H fun w' H4 => r' y w' H4 Q else Q (.bl false) H) : chainL r' y tc σ Q (.bl b) H := ⟨b, rfl, k⟩
/-! arguments, calls -/
theorem nil (k : QA [] H) : tNil σ H QA := k
theorem cons {tr : TA} (k : ta σ H fun x H1 => tr σ H1 fun xs H2 => QA (x :: xs) H2) : tCons ta tr σ H QA := k
def tupK (Q : VK) : List V → Hp → Prop := fun xs H1 => xs.length ≤ sizeLine ∧ ∀ p, H1 p = none → Q (.ref p) (upd H1 p (.tup xs))
theorem tup (k : t σ H (tupK Q)) : tTup t σ H Q := k
theorem tupK_i {xs : List V} (hz : xs.length ≤ 1000) (k : ∀ p H', H p = none → Same H H' → H' p = some (.tup xs) → Q (.ref p) H') : tupK Q xs H := ⟨Nat.le_trans hz (by decide), fun p hp => k p _ hp (Same.nw hp (Same.refl H)) upd_same⟩
def lstK (Q : VK) : List V → Hp → Prop := fun xs H1 => xs.length ≤ sizeLine ∧ ∀ p, H1 p = none → Q (.ref p) (upd H1 p (.lst xs))
theorem lst (k : t σ H (lstK Q)) : tLst t σ H Q := k
theorem lstK_i {xs : List V} (hz : xs.length ≤ 1000) (k : ∀ p H', H p = none → Same H H' → H' p = some (.lst xs) → Q (.ref p) H') : lstK Q xs H := ⟨Nat.le_trans hz (by decide), fun p hp => k p _ hp (Same.nw hp (Same.refl H)) upd_same⟩
def callK (sp : Sp) (dvs : List V) (Q : VK) (E : XK) : List V → Hp → Prop := fun vs H1 => sp (vs ++ dvs) H1 Q E
theorem call {sp : Sp} {dvs : List V} {E : XK} (k : t σ H (callK sp dvs Q E)) : tCall sp dvs E t σ H Q := k
theorem callK_i {sp : Sp} {vs : List V} {E : XK} (k : sp vs H Q E) : callK sp [] Q E vs H := by
  unfold callK
  rw [List.append_nil]
  exact k
def fldK (K : PySem.W.Frag) (f : Str) (Q : VK) : VK := fun x H1 => ∃ a C dx fs v, x = .ref a ∧ H1 a = some (.ins C dx fs) ∧ Cls K C ∧ NoAttr K C f ∧ fs.lookup f = some v ∧ Q v H1
theorem fld {f : Str} (k : ta σ H (fldK K f Q)) : tFld K ta f σ H Q := k
def methK (m : Str) (sp : Sp) (C : Addr) (dvs : List V) (E : XK) (t : TA) (σ : L2.St) (Q : VK) : VK := fun x H1 => ∃ a dx fs, x = .ref a ∧ H1 a = some (.ins C dx fs) ∧ fs.lookup m = none ∧ t σ H1 fun vs H2 => sp (x :: (vs ++ dvs)) H2 Q E
theorem meth {C : Addr} {m : Str} {sp : Sp} {dvs : List V} {E : XK} (k : ta σ H (methK m sp C dvs E t σ Q)) : tMeth C m sp dvs E ta t σ H Q := k
def propK (sp : Sp) (C : Addr) (dvs : List V) (E : XK) (Q : VK) : VK := fun x H1 => ∃ a dx fs, x = .ref a ∧ H1 a = some (.ins C dx fs) ∧ sp (.ref a :: dvs) H1 Q E
theorem prop {C : Addr} {sp : Sp} {dvs : List V} {E : XK} (k : ta σ H (propK sp C dvs E Q)) : tProp C sp dvs E ta σ H Q := k
def makeK (C : Addr) (sp : Sp) (dvs : List V) (E : XK) (Q : VK) : List V → Hp → Prop := fun vs H1 => ∀ x dx, H1 x = none → H1 dx = none → dx ≠ x →
  sp (.ref x :: (vs ++ dvs)) (upd (upd H1 dx (.own x)) x (.ins C dx [])) (fun v H2 => v = .non ∧ Q (.ref x) H2) E
theorem make {C : Addr} {sp : Sp} {dvs : List V} {E : XK} (k : t σ H (makeK C sp dvs E Q)) : tMake C sp dvs E t σ H Q := k
theorem cmeth {C : Addr} {sp : Sp} {E : XK} (k : ta σ H fun x H1 => x = .ref C ∧ t σ H1 fun vs H2 => sp (.ref C :: vs) H2 Q E) : ClX.tCMeth C sp E ta t σ H Q := k
theorem cb {r : List V → Hp → VK → Prop} (k : t σ H fun vs H1 => r vs H1 Q) : tCB r t σ H Q := k
def bmK (K : PySem.W.Frag) (T : String) (r : V → List V → Hp → VK → Prop) (t : TA) (σ : L2.St) (Q : VK) : VK := fun x H1 => tyV K T x H1 ∧ t σ H1 fun xs H2 => r x xs H2 Q
theorem bm {T : String} {r : V → List V → Hp → VK → Prop} (k : ta σ H (bmK K T r t σ Q)) : tBM K T r ta t σ H Q := k
theorem bmK_l {r : V → List V → Hp → VK → Prop} {p : Addr} {xs : List V} (hq : SqL K H p xs) (k : t σ H fun ys H2 => r (.ref p) ys H2 Q) : bmK K "list" r t σ Q (.ref p) H := ⟨.inl ⟨rfl, _, hq⟩, k⟩
def m0K (r : V → List V → Hp → VK → Prop) (Q : VK) : VK := fun x H1 => (∃ a, x = .str a) ∧ r x [] H1 Q
theorem m0 {r : V → List V → Hp → VK → Prop} (k : ta σ H (m0K r Q)) : tM0 r ta σ H Q := k
theorem m0K_i {r : V → List V → Hp → VK → Prop} {a : Str} (k : r (.str a) [] H Q) : m0K r Q (.str a) H := ⟨⟨a, rfl⟩, k⟩
def m1K (r : V → List V → Hp → VK → Prop) (te : TE) (σ : L2.St) (Q : VK) : VK := fun x H1 => (∃ a, x = .str a) ∧ te σ H1 fun y H2 => r x [y] H2 Q
theorem m1 {r : V → List V → Hp → VK → Prop} (k : ta σ H (m1K r te σ Q)) : tM1 r ta te σ H Q := k
theorem m1K_i {r : V → List V → Hp → VK → Prop} {a : Str} (k : te σ H fun y H2 => r (.str a) [y] H2 Q) : m1K r te σ Q (.str a) H := ⟨⟨a, rfl⟩, k⟩
/-! starred items -/
def starK (K : PySem.W.Frag) (t : TA) (σ : L2.St) (QA : List V → Hp → Prop) : VK := fun x H1 => ∃ p xs, x = V.ref p ∧ (SqT K H1 p xs ∨ SqL K H1 p xs) ∧ t σ H1 fun ys H2 => QA (xs ++ ys) H2
theorem star (k : te σ H (starK K t σ QA)) : StX.tStar K te t σ H QA := k
theorem starK_t {p : Addr} {xs : List V} (hq : SqT K H p xs) (k : t σ H fun ys H2 => QA (xs ++ ys) H2) : starK K t σ QA (.ref p) H := ⟨p, xs, rfl, .inl hq, k⟩
theorem starK_l {p : Addr} {xs : List V} (hq : SqL K H p xs) (k : t σ H fun ys H2 => QA (xs ++ ys) H2) : starK K t σ QA (.ref p) H := ⟨p, xs, rfl, .inr hq, k⟩
/-! items, lengths, slices -/
theorem ixL {p : Addr} {xs : List V} {i : Int} {v : V} (hq : SqL K H p xs) (ha : atI xs i = some v) (k : Q v H) : rIxL K (.ref p) (.int i) H Q := ⟨p, xs, i, v, rfl, rfl, hq, ha, k⟩
theorem ixT {p : Addr} {xs : List V} {i : Int} {v : V} (hq : SqT K H p xs) (ha : atI xs i = some v) (k : Q v H) : rIxT K (.ref p) (.int i) H Q := ⟨p, xs, i, v, rfl, rfl, hq, ha, k⟩
theorem ixL0 {p : Addr} {xs : List V} {v : V} (hq : SqL K H p (v :: xs)) (k : Q v H) : rIxL K (.ref p) (.int 0) H Q := ⟨p, _, 0, v, rfl, rfl, hq, atn (i := 0) rfl, k⟩
theorem ixT0 {p : Addr} {xs : List V} {v : V} (hq : SqT K H p (v :: xs)) (k : Q v H) : rIxT K (.ref p) (.int 0) H Q := ⟨p, _, 0, v, rfl, rfl, hq, atn (i := 0) rfl, k⟩
theorem lenL {p : Addr} {xs : List V} (hq : SqL K H p xs) (k : Q (.int xs.length) H) : Evl.rLenS K [.ref p] H Q := ⟨p, xs, rfl, .inl hq, k⟩
theorem lenT {p : Addr} {xs : List V} (hq : SqT K H p xs) (k : Q (.int xs.length) H) : Evl.rLenS K [.ref p] H Q := ⟨p, xs, rfl, .inr hq, k⟩
theorem mx {i j : Int} (k : Q (.int (max i j)) H) : rMax2 [.int i, .int j] H Q := ⟨i, j, rfl, by
  have e : (if j > i then j else i) = max i j := by
    rw [Int.max_def]
    split <;> split <;> omega
  rw [e]
  exact k⟩
theorem mn {i j : Int} (k : Q (.int (min i j)) H) : rMin2 [.int i, .int j] H Q := ⟨i, j, rfl, by
  have e : (if j < i then j else i) = min i j := by
    rw [Int.min_def]
    split <;> split <;> omega
  rw [e]
  exact k⟩
theorem isN {x : V} (k : Q (.bl (decide (x = .non))) H) : rIsN x .non H Q := ⟨rfl, k⟩
theorem notN {x : V} (k : Q (.bl (!decide (x = .non))) H) : rNotN x .non H Q := ⟨rfl, k⟩
theorem noPart {QO : Option Int → Hp → Prop} (k : QO none H) : tNoPart σ H QO := k
def partK (QO : Option Int → Hp → Prop) : VK := fun x H1 => ∃ i, x = .int i ∧ QO (some i) H1
theorem part {QO : Option Int → Hp → Prop} (k : ta σ H (partK QO)) : tPart ta σ H QO := k
theorem partK_i {QO : Option Int → Hp → Prop} {i : Int} (k : QO (some i) H) : partK QO (.int i) H := ⟨i, rfl, k⟩
theorem slc {r : V → Option Int → Option Int → Hp → VK → Prop} {tl th : TO} (k : ta σ H fun x H1 => tl σ H1 fun l H2 => th σ H2 fun u H3 => r x l u H3 Q) : tSl r ta tl th σ H Q := k
theorem slT {a : Addr} {xs : List V} {lo hi : Option Int} (hq : SqT K H a xs) (k : ∀ p H', Same H H' → SqT K H' p (cutV xs lo hi) → Q (.ref p) H') : rSlA K (.ref a) lo hi H Q := by
  refine ⟨a, xs, rfl, hq, fun ⟨h1, h2⟩ => ?_, fun _ p hp => k p _ (Same.nw hp (Same.refl H)) (SqT.of upd_same)⟩
  have e : cutV xs lo hi = xs := by
    unfold cutV
    rw [h1, h2]
    simp
  exact k a H (Same.refl H) (by rw [e]; exact hq)
theorem catA {a b : Addr} {xs ys : List V} (h1 : SqT K H a xs) (h2 : SqT K H b ys) (n1 : xs ≠ []) (n2 : ys ≠ []) (hz : xs.length + ys.length ≤ 1000) (k : ∀ p H', H p = none → Same H H' → H' p = some (.tup (xs ++ ys)) → Q (.ref p) H') : rCatA K (.ref a) (.ref b) H Q :=
  ⟨a, b, xs, ys, rfl, rfl, h1, h2, Nat.le_trans hz (by decide), fun e => absurd e n1, fun _ e => absurd e n2, fun _ _ p hp => k p _ hp (Same.nw hp (Same.refl H)) upd_same⟩
theorem slTr {a : Addr} {xs : List V} {lo hi : Option Int} (hq : H a = some (.tup xs)) (k : ∀ p H', Same H H' → H' p = some (.tup (cutV xs lo hi)) → Q (.ref p) H') : rSlA K (.ref a) lo hi H Q := by
  refine ⟨a, xs, rfl, SqT.of hq, fun ⟨h1, h2⟩ => ?_, fun _ p hp => k p _ (Same.nw hp (Same.refl H)) upd_same⟩
  have e : cutV xs lo hi = xs := by
    unfold cutV
    rw [h1, h2]
    simp
  exact k a H (Same.refl H) (by rw [e]; exact hq)
theorem catTr {a b : Addr} {xs ys : List V} (h1 : H a = some (.tup xs)) (h2 : H b = some (.tup ys)) (hz : xs.length + ys.length ≤ 1000) (k : ∀ p H', Same H H' → H' p = some (.tup (xs ++ ys)) → Q (.ref p) H') : rCatA K (.ref a) (.ref b) H Q :=
  ⟨a, b, xs, ys, rfl, rfl, SqT.of h1, SqT.of h2, Nat.le_trans hz (by decide), fun e => k b H (Same.refl H) (by rw [e]; exact h2), fun _ e => k a H (Same.refl H) (by rw [e, List.append_nil]; exact h1), fun _ _ p hp => k p _ (Same.nw hp (Same.refl H)) upd_same⟩
theorem slL {a : Addr} {xs : List V} {lo hi : Option Int} (hq : SqL K H a xs) (k : ∀ p H', H p = none → Same H H' → H' p = some (.lst (cutV xs lo hi)) → Q (.ref p) H') : rSlL K (.ref a) lo hi H Q :=
  ⟨a, xs, rfl, hq, fun p hp => k p _ hp (Same.nw hp (Same.refl H)) upd_same⟩
theorem lstL {p : Addr} {xs : List V} (hq : SqL K H p xs) (k : ∀ q H', H q = none → Same H H' → H' q = some (.lst xs) → Q (.ref q) H') : rLst K [.ref p] H Q := ⟨p, xs, rfl, .inl hq, fun q hp => k q _ hp (Same.nw hp (Same.refl H)) upd_same⟩
theorem lstT {p : Addr} {xs : List V} (hq : SqT K H p xs) (k : ∀ q H', H q = none → Same H H' → H' q = some (.lst xs) → Q (.ref q) H') : rLst K [.ref p] H Q := ⟨p, xs, rfl, .inr hq, fun q hp => k q _ hp (Same.nw hp (Same.refl H)) upd_same⟩
theorem tplL {p : Addr} {xs : List V} (hq : SqL K H p xs) (k : ∀ q H', H q = none → Same H H' → H' q = some (.tup xs) → Q (.ref q) H') : rTpl K [.ref p] H Q := ⟨p, xs, rfl, .inl ⟨hq, fun q hp => k q _ hp (Same.nw hp (Same.refl H)) upd_same⟩⟩
theorem addS {i j : Str} (h : i.length + j.length ≤ 100000) (k : Q (.str (i ++ j)) H) : rAddS (.str i) (.str j) H Q := ⟨i, j, rfl, rfl, Nat.le_trans h (by decide), k⟩
theorem lenS {z : Str} (h : z.length ≤ 100000) (k : Q (.int z.length) H) : rLenStr [.str z] H Q := ⟨z, rfl, Nat.le_trans h (by decide), k⟩
theorem join {a : Str} {p : Addr} {ys : List Str} (hq : SqL K H p (ys.map V.str)) (hz : (ys.map (·.length)).sum + ys.length * a.length ≤ 16777216) (k : Q (.str (Txt.join a ys)) H) : rJoin K (.str a) [.ref p] H Q := ⟨a, p, ys, rfl, rfl, .inl hq, hz, k⟩
theorem split {a b : Str} (hb : (b.length == 0) = false) (hz : a.length ≤ 100000) (k : ∀ p H', H p = none → Same H H' → H' p = some (.lst ((Txt.split a b).map V.str)) → Q (.ref p) H') : rSplit (.str a) [.str b] H Q :=
  ⟨a, b, rfl, rfl, hb, Nat.le_trans (m := 100002) (by omega) (by decide), fun p hp => k p _ hp (Same.nw hp (Same.refl H)) upd_same⟩
theorem catL {a b : Addr} {xs ys : List V} (h1 : H a = some (.lst xs)) (h2 : H b = some (.lst ys)) (hz : xs.length + ys.length ≤ 100000) (k : ∀ p H', H p = none → Same H H' → H' p = some (.lst (xs ++ ys)) → Q (.ref p) H') : rCat (.ref a) (.ref b) H Q :=
  ⟨a, b, xs, ys, rfl, rfl, h1, h2, Nat.le_trans hz (by decide), fun p hp => k p _ hp (Same.nw hp (Same.refl H)) upd_same⟩
theorem catK (k : ta σ H fun x H1 => tb σ H1 fun y H2 => rCat x y H2 Q) : tOp rCat ta tb σ H Q := k
theorem sumL {a : Addr} {ns : List Int} (hq : SqL K H a (ns.map V.int)) (k : Q (.int ns.sum) H) : rSum K [.ref a] H Q := ⟨a, ns, rfl, hq, k⟩
theorem sumT {a : Addr} {ns : List Int} (hq : SqT K H a (ns.map V.int)) (k : Q (.int ns.sum) H) : rSumT K [.ref a] H Q := ⟨a, ns, rfl, hq, k⟩
theorem int1_i {i : Int} (k : Q (.int i) H) : rInt1 [.int i] H Q := .inl ⟨i, rfl, k⟩
theorem int1_b {b : Bool} (k : Q (.int (if b = true then 1 else 0)) H) : rInt1 [.bl b] H Q := .inr ⟨b, rfl, k⟩
/-! list(range(..)) -/
def rgK (Q : VK) : Int → Int → Hp → Prop := fun a b H1 => RgOk a b ∧ ∀ q, H1 q = none → Q (.ref q) (upd H1 q (.lst (rgV a b)))
theorem lrg {tr : L2.St → Hp → (Int → Int → Hp → Prop) → Prop} (k : tr σ H (rgK Q)) : tLstRg tr σ H Q := k
def rg1K (R : Int → Int → Hp → Prop) : VK := fun x H1 => ∃ n, x = .int n ∧ R 0 n H1
theorem rg1 {R : Int → Int → Hp → Prop} (k : ta σ H (rg1K R)) : tRg1 ta σ H R := k
theorem rg1K_i {R : Int → Int → Hp → Prop} {n : Int} (k : R 0 n H) : rg1K R (.int n) H := ⟨n, rfl, k⟩
def rg2K (R : Int → Int → Hp → Prop) (x : V) : VK := fun y H2 => ∃ i j, x = .int i ∧ y = .int j ∧ R i j H2
theorem rg2 {R : Int → Int → Hp → Prop} (k : ta σ H fun x H1 => tb σ H1 (rg2K R x)) : tRg2 ta tb σ H R := k
theorem rg2K_i {R : Int → Int → Hp → Prop} {i j : Int} (k : R i j H) : rg2K R (.int i) (.int j) H := ⟨i, j, rfl, rfl, k⟩
/-! targets, statements -/
theorem name {i : Nat} {v : V} {QS : L2.St → Hp → Prop} (k : QS (σ.set i (some v)) H) : gName i v σ H QS := k
theorem gtup {n : Nat} {tg : TGs} {a : Addr} {xs : List V} {QS : L2.St → Hp → Prop} (hq : SqT K H a xs) (hl : xs.length = n) (k : tg xs σ H QS) : gTup K n tg (.ref a) σ H QS := ⟨a, xs, rfl, hq, hl, k⟩
theorem glst {n : Nat} {tg : TGs} {a : Addr} {xs : List V} {QS : L2.St → Hp → Prop} (hq : SqL K H a xs) (hl : xs.length = n) (k : tg xs σ H QS) : gLst K n tg (.ref a) σ H QS := ⟨a, xs, rfl, hq, hl, k⟩
theorem gcons {tg : TG} {tu : TGs} {v : V} {r : List V} {QS : L2.St → Hp → Prop} (k : tg v σ H fun σ' H' => tu r σ' H' QS) : gCons tg tu (v :: r) σ H QS := ⟨v, r, rfl, k⟩
theorem gnil {QS : L2.St → Hp → Prop} (k : QS σ H) : gNil [] σ H QS := ⟨rfl, k⟩
theorem seq (k : ts { D with nx := tr D } σ H) : tSeq ts tr D σ H := k
theorem next (k : D.nx σ H) : tNext D σ H := k
theorem cont (k : D.ct σ H) : tCont D σ H := k
theorem drop (k : te σ H fun _ H1 => D.nx σ H1) : tDrop te D σ H := k
theorem ret (k : te σ H D.rt) : tRet te D σ H := k
theorem retN (k : D.rt .non H) : tRetN D σ H := k
theorem ifS (k : tt σ H fun b H1 => if b = true then ts D σ H1 else tr D σ H1) : tIfS tt ts tr D σ H := k
theorem asg {g : TG} (k : te σ H fun x H1 => g x σ H1 D.nx) : tAsg te g D σ H := k
def parK (i j : Nat) (σ : L2.St) (D : Ends) : List V → Hp → Prop := fun vs H1 => ∃ v w, vs = [v, w] ∧ D.nx ((σ.set i (some v)).set j (some w)) H1
theorem par {i j : Nat} (k : t σ H (parK i j σ D)) : tPar i j t D σ H := k
theorem parK_i {i j : Nat} {v w : V} (k : D.nx ((σ.set i (some v)).set j (some w)) H) : parK i j σ D [v, w] H := ⟨v, w, rfl, k⟩
def par3K (i j l : Nat) (σ : L2.St) (D : Ends) : List V → Hp → Prop := fun vs H1 => ∃ u v w, vs = [u, v, w] ∧ D.nx (((σ.set i (some u)).set j (some v)).set l (some w)) H1
theorem par3 {i j l : Nat} (k : t σ H (par3K i j l σ D)) : tPar3 i j l t D σ H := k
theorem par3K_i {i j l : Nat} {u v w : V} (k : D.nx (((σ.set i (some u)).set j (some v)).set l (some w)) H) : par3K i j l σ D [u, v, w] H := ⟨u, v, w, rfl, k⟩
theorem aug {i : Nat} {x : V} {ti : TIp} (h : σ[i]? = some (some x)) (k : te σ H fun y H1 => ti x y H1 fun z H2 => D.nx (σ.set i (some z)) H2) : tAug i te ti D σ H := ⟨x, h, k⟩
theorem ip {f : Int → Int → Int} {i j : Int} (k : Q (.int (f i j)) H) : ipI f (.int i) (.int j) H Q := ⟨i, j, rfl, rfl, k⟩
theorem ift {A B : Prop} (h : A) : if true = true then A else B := by rw [if_pos rfl]; exact h
theorem iff {A B : Prop} (h : B) : if false = true then A else B := by rw [if_neg Bool.false_ne_true]; exact h
theorem ifnt {A B : Prop} (h : B) : if (!true) = true then A else B := by rw [if_neg (by decide)]; exact h
theorem ifnf {A B : Prop} (h : A) : if (!false) = true then A else B := by rw [if_pos (show (!false) = true from rfl)]; exact h
theorem inS {x : V} {p : Addr} {xs : List V} (hq : SqL K H p xs ∨ SqT K H p xs) (fx : flatV x = true) (fs : xs.all flatV = true) (k : Q (.bl (inV x xs)) H) : rIn K false x (.ref p) H Q := ⟨p, xs, rfl, hq, fx, fs, by rw [if_neg (by decide)]; exact k⟩
theorem niS {x : V} {p : Addr} {xs : List V} (hq : SqL K H p xs ∨ SqT K H p xs) (fx : flatV x = true) (fs : xs.all flatV = true) (k : Q (.bl (!inV x xs)) H) : rIn K true x (.ref p) H Q := ⟨p, xs, rfl, hq, fx, fs, by rw [if_pos rfl]; exact k⟩
theorem bb {b : Bool} {A B : Prop} (h1 : b = true → A) (h2 : b = false → B) : if b = true then A else B := by
  cases b with
  | true => exact ift (h1 rfl)
  | false => exact iff (h2 rfl)
/-! tests whose answer is known, or both -/
section
variable {A B : Prop} {p : Prop} {ip : Decidable p} {a b : Int}
theorem dT (h : p) (k : A) : if decide p = true then A else B := by rw [if_pos (decide_eq_true h)]; exact k
theorem dF (h : ¬ p) (k : B) : if decide p = true then A else B := by rw [if_neg (by rw [decide_eq_false h]; decide)]; exact k
theorem nT (h : p) (k : B) : if (!decide p) = true then A else B := by rw [decide_eq_true h]; exact ifnt k
theorem nF (h : ¬ p) (k : A) : if (!decide p) = true then A else B := by rw [decide_eq_false h]; exact ifnf k
theorem d2 (h1 : p → A) (h2 : ¬ p → B) : if decide p = true then A else B := by
  by_cases h : p
  · exact dT h (h1 h)
  · exact dF h (h2 h)
theorem n2 (h1 : p → B) (h2 : ¬ p → A) : if (!decide p) = true then A else B := by
  by_cases h : p
  · exact nT h (h1 h)
  · exact nF h (h2 h)
theorem int_non {i : Int} : ¬ V.int i = V.non := fun q => by cases q
theorem ref_non {r : Addr} : ¬ V.ref r = V.non := fun q => by cases q
theorem vi (h : a ≠ b) : ¬ V.int a = V.int b := fun q => h (by injection q)
theorem eT (h : a = b) (k : A) : if decide (V.int a = V.int b) = true then A else B := dT (by rw [h]) k
theorem eF (h : a ≠ b) (k : B) : if decide (V.int a = V.int b) = true then A else B := dF (vi h) k
theorem e2 (h1 : a = b → A) (h2 : a ≠ b → B) : if decide (V.int a = V.int b) = true then A else B := by
  by_cases h : a = b
  · exact eT h (h1 h)
  · exact eF h (h2 h)
theorem neT (h : a = b) (k : B) : if (!decide (V.int a = V.int b)) = true then A else B := nT (by rw [h]) k
theorem neF (h : a ≠ b) (k : A) : if (!decide (V.int a = V.int b)) = true then A else B := nF (vi h) k
theorem ne2 (h1 : a = b → B) (h2 : a ≠ b → A) : if (!decide (V.int a = V.int b)) = true then A else B := by
  by_cases h : a = b
  · exact neT h (h1 h)
  · exact neF h (h2 h)
end
/-- a test that is false whichever way it goes -/
theorem ifF {ts tr : TS} {tt : L2.TT} {P : Hp → Prop} (h : ∀ Q : Bool → Hp → Prop, (∀ H', P H' → Q false H') → tt σ H Q) (k : ∀ H', P H' → tr D σ H') : tIfS tt ts tr D σ H := h _ fun H' p => iff (k H' p)
theorem ifT {ts tr : TS} {tt : L2.TT} {P : Hp → Prop} (h : ∀ Q : Bool → Hp → Prop, (∀ H', P H' → Q true H') → tt σ H Q) (k : ∀ H', P H' → ts D σ H') : tIfS tt ts tr D σ H := h _ fun H' p => ift (k H' p)
theorem cut {ts tr : TS} (P : L2.St → Hp → Prop) (h : ts { D with nx := P } σ H) (k : ∀ σ' H', P σ' H' → tr D σ' H') : Evl.tCut ts tr D σ H := ⟨P, h, k⟩
/-- a if c else b, both names: one value that goes on -/
theorem ifVV {c : Bool} {i j : Nat} {v u : V} (hi : σ[i]? = some (some v)) (hj : σ[j]? = some (some u)) (h : ∀ w, (c = true → w = v) → (c = false → w = u) → Q w H) : if c = true then tVar i σ H Q else tVar j σ H Q := by
  cases c with
  | true => exact ift ⟨v, hi, h v (fun _ => rfl) (fun q => by cases q)⟩
  | false => exact iff ⟨u, hj, h u (fun q => by cases q) (fun _ => rfl)⟩
/-- a if c else b: what is known of the value goes on -/
theorem ifM {c : Bool} (P : V → Hp → Prop) (hA : c = true → ∀ K' : VK, (∀ v H', P v H' → K' v H') → ta σ H K') (hB : c = false → ∀ K' : VK, (∀ v H', P v H' → K' v H') → tb σ H K') (k : ∀ v H', P v H' → Q v H') : if c = true then ta σ H Q else tb σ H Q := by
  cases c with
  | true => exact ift (hA rfl _ k)
  | false => exact iff (hB rfl _ k)
/-! appending to what is there -/
theorem app {l : Addr} {xs : List V} {y : V} (h : H l = some (.lst xs)) (hz : xs.length < 100000) (k : Q .non (upd H l (.lst (xs ++ [y])))) : rAppend (.ref l) [y] H Q := ⟨l, xs, y, rfl, rfl, h, Nat.lt_of_lt_of_le hz (by decide), k⟩
/-! equality of data: rd_eq takes it by the data's readings -/
theorem eqD {x y : V} {d e : PyData} (h1 : L2.Dp K H x d) (h2 : L2.Dp K H y e) (s1 : SeqAt.shaped d = true) (s2 : SeqAt.shaped e = true) (k : Q (.bl (PyData.eqv d e)) H) : rEqD K x y H Q := ⟨d, e, h1, h2, s1, s2, k⟩
theorem range_get {α β : Type} (l : List α) (d : α) (g : α → β) : (List.range l.length).map (fun i => g (l.getD i d)) = l.map g := by
  refine List.ext_getElem? fun i => ?_
  rw [List.getElem?_map, List.getElem?_map]
  by_cases h : i < l.length
  · rw [List.getElem?_range h, List.getElem?_eq_getElem h]
    simp [List.getD_eq_getElem?_getD, List.getElem?_eq_getElem h]
  · rw [List.getElem?_eq_none (by simp; omega), List.getElem?_eq_none (by omega)]
    rfl
theorem getD_of {α : Type} {l : List α} {i : Nat} {x d : α} (h : l[i]? = some x) : l.getD i d = x := by
  rw [List.getD_eq_getElem?_getD, h]
  rfl
/-! what is walked -/
def rngK (R : It → Hp → Prop) : List V → Hp → Prop := fun vs H1 => ∃ j : Int, vs = [.int j] ∧ -(2 ^ 62) ≤ j ∧ j < 2 ^ 62 ∧ R (Itr 0 j.toNat) H1
theorem rng {R : It → Hp → Prop} (k : t σ H (rngK R)) : iRng1 t σ H R := k
theorem rngK_n {R : It → Hp → Prop} {n : Nat} (h : n ≤ 1000000000) (k : R (Itr 0 n) H) : rngK R [.int (n : Int)] H := ⟨n, rfl, by omega, by omega, by rw [Int.toNat_natCast]; exact k⟩
theorem rngK_z {R : It → Hp → Prop} {z : Int} (h : z.toNat ≤ 1000000000) (h0 : -1000000000 ≤ z) (k : R (Itr 0 z.toNat) H) : rngK R [.int z] H := ⟨z, rfl, by omega, by omega, k⟩
theorem rngK_lit {R : It → Hp → Prop} {n : Nat} (h : n ≤ 1000000000) (k : R (Itr 0 (OfNat.ofNat n : Nat)) H) : rngK R [.int (OfNat.ofNat n : Int)] H := rngK_n h k
def rng2K (R : It → Hp → Prop) : List V → Hp → Prop := fun vs H1 => ∃ i j : Int, vs = [.int i, .int j] ∧ (-(2 ^ 62) ≤ i ∧ i < 2 ^ 62 ∧ -(2 ^ 62) ≤ j ∧ j < 2 ^ 62) ∧ R (Itr i (j - i).toNat) H1
theorem rng2 {R : It → Hp → Prop} (k : t σ H (rng2K R)) : iRng2 t σ H R := k
theorem rng2K_i {R : It → Hp → Prop} {i j : Int} (hb : -(2 ^ 62) ≤ i ∧ i < 2 ^ 62 ∧ -(2 ^ 62) ≤ j ∧ j < 2 ^ 62) (k : R (Itr i (j - i).toNat) H) : rng2K R [.int i, .int j] H := ⟨i, j, rfl, hb, k⟩
def zipK (K : PySem.W.Frag) (R : It → Hp → Prop) : List V → Hp → Prop := fun vs H1 => ∃ a b xs ys, vs = [.ref a, .ref b] ∧ ((SqL K H1 a xs ∧ SqL K H1 b ys ∧ R (L2.Itz K a b) H1) ∨ (SqT K H1 a xs ∧ SqT K H1 b ys ∧ R (RZ.ItzT K a b) H1))
theorem zip {R : It → Hp → Prop} (k : t σ H (zipK K R)) : RZ.iZipA K t σ H R := k
theorem zipK_t {R : It → Hp → Prop} {a b : Addr} {xs ys : List V} (ha : SqT K H a xs) (hb : SqT K H b ys) (k : R (RZ.ItzT K a b) H) : zipK K R [.ref a, .ref b] H := ⟨a, b, xs, ys, rfl, .inr ⟨ha, hb, k⟩⟩
def listK (K : PySem.W.Frag) (R : It → Hp → Prop) : VK := fun x H1 => ∃ a, x = .ref a ∧ (∃ xs, SqL K H1 a xs) ∧ R (Itl K a) H1
theorem ilist {R : It → Hp → Prop} (k : ta σ H (listK K R)) : iList K ta σ H R := k
theorem listK_i {R : It → Hp → Prop} {a : Addr} {xs : List V} (hq : SqL K H a xs) (k : R (Itl K a) H) : listK K R (.ref a) H := ⟨a, rfl, ⟨xs, hq⟩, k⟩
def ituK (K : PySem.W.Frag) (R : It → Hp → Prop) : VK := fun x H1 => ∃ a, x = .ref a ∧ (∃ xs, SqT K H1 a xs) ∧ R (Itt K a) H1
theorem itup {R : It → Hp → Prop} (k : ta σ H (ituK K R)) : iTup K ta σ H R := k
theorem ituK_i {R : It → Hp → Prop} {a : Addr} {xs : List V} (hq : SqT K H a xs) (k : R (Itt K a) H) : ituK K R (.ref a) H := ⟨a, rfl, ⟨xs, hq⟩, k⟩
def forK (g : TG) (tb : TS) (D : Ends) (σ : L2.St) (J : It) (H1 : Hp) : Prop := ∃ W : Nat → Nat → L2.St → Hp → Prop, (∃ m, W 0 m σ H1) ∧ ∀ i m σ H, W i m σ H →
  (J.stop i H ∧ D.nx σ H) ∨ (J.go i H ∧ ∃ N : L2.St → Hp → Prop, (∀ σ' H', N σ' H' → ∃ m', m' < m ∧ W (i + 1) m' σ' H') ∧ ∀ x H', J.yld i H x H' → g x σ H' fun σ2 H2 => tb { D with nx := N, ct := N, bk := D.nx } σ2 H2)
theorem tfor {wi : TI} {g : TG} (k : wi σ H (forK g ts D σ)) : tFor wi g ts D σ H := k
def lcK (g : TG) (tt : L2.TT) (te : TE) (vs : List Nat) (σ : L2.St) (Q : VK) (J : It) (H1 : Hp) : Prop := ∀ D, H1 D = none → ∃ W : Nat → Nat → Hp → Prop, (∃ m, W 0 m (upd H1 D (.lst []))) ∧ ∀ i m H, W i m H →
  (J.stop i H ∧ Q (.ref D) H) ∨ (J.go i H ∧ ∃ Nx : Hp → Prop, (∀ H', Nx H' → ∃ m', m' < m ∧ W (i + 1) m' H') ∧ ∀ x H', J.yld i H x H' → g x (wipe σ vs) H' fun σ2 H2 => wipe σ2 vs = wipe σ vs ∧ tt σ2 H2 fun b H3 =>
    if b = true then te σ2 H3 fun y H4 => ∃ acc, H4 D = some (.lst acc) ∧ acc.length < sizeLine ∧ Nx (upd H4 D (.lst (acc ++ [y]))) else Nx H3)
theorem tlc {wi : TI} {g : TG} {vs : List Nat} (k : wi σ H (lcK g tt te vs σ Q)) : tLc wi g tt te vs σ H Q := k
/-- for i in range(n): the items are 0, 1, .. -/
theorem for_rng {n : Nat} {g : TG} (Pv : Nat → L2.St → Hp → Prop) (h0 : Pv 0 σ H) (hs : ∀ (i : Nat) σ H, i < n → Pv i σ H → g (.int (i : Int)) σ H fun σ2 H2 => ts { D with nx := Pv (i + 1), ct := Pv (i + 1), bk := D.nx } σ2 H2) (hd : ∀ σ H, Pv n σ H → D.nx σ H) :
    forK g ts D σ (Itr 0 n) H :=
  for_range (lo := 0) (n := n) Pv h0 (fun i σ H hi p => by have z := hs i σ H hi p; rw [Int.zero_add]; exact z) hd
/-- from lo -/
theorem for_rng2 {lo : Int} {n : Nat} {g : TG} (Pv : Nat → L2.St → Hp → Prop) (h0 : Pv 0 σ H) (hs : ∀ (i : Nat) σ H, i < n → Pv i σ H → g (.int (lo + i)) σ H fun σ2 H2 => ts { D with nx := Pv (i + 1), ct := Pv (i + 1), bk := D.nx } σ2 H2) (hd : ∀ σ H, Pv n σ H → D.nx σ H) :
    forK g ts D σ (Itr lo n) H := for_range (lo := lo) (n := n) Pv h0 hs hd
theorem for_lst {a : Addr} {xs : List V} {g : TG} (Pv : Nat → L2.St → Hp → Prop) (h0 : Pv 0 σ H) (hl : ∀ i σ H, i ≤ xs.length → Pv i σ H → SqL K H a xs)
    (hs : ∀ i x σ H, xs[i]? = some x → Pv i σ H → g x σ H fun σ2 H2 => ts { D with nx := Pv (i + 1), ct := Pv (i + 1), bk := D.nx } σ2 H2) (hd : ∀ σ H, Pv xs.length σ H → D.nx σ H) : forK g ts D σ (Itl K a) H := for_list Pv h0 hl hs hd
theorem for_tpl {a : Addr} {xs : List V} {g : TG} (Pv : Nat → L2.St → Hp → Prop) (h0 : Pv 0 σ H) (hl : ∀ i σ H, i ≤ xs.length → Pv i σ H → SqT K H a xs)
    (hs : ∀ i x σ H, xs[i]? = some x → Pv i σ H → g x σ H fun σ2 H2 => ts { D with nx := Pv (i + 1), ct := Pv (i + 1), bk := D.nx } σ2 H2) (hd : ∀ σ H, Pv xs.length σ H → D.nx σ H) : forK g ts D σ (Itt K a) H := for_tup Pv h0 hl hs hd
/-- an item's turn: what the item is worth, nothing that was there changed -/
def Turn1 (g : TG) (te : TE) (σ : L2.St) (vs : List Nat) (x : V) (y : V) (H0 : Hp) : Prop :=
  ∀ H' (QS : L2.St → Hp → Prop), Same H0 H' → (∀ σ2, wipe σ2 vs = wipe σ vs → (∀ Q' : VK, (∀ H'', Same H' H'' → Q' y H'') → te σ2 H' Q') → QS σ2 H') → g x (wipe σ vs) H' QS
theorem turn1 {i : Nat} {x y : V} {H0 : Hp} {vs : List Nat} (hw : wipe ((wipe σ vs).set i (some x)) vs = wipe σ vs) (h : ∀ H', Same H0 H' → ∀ Q' : VK, (∀ H'', Same H' H'' → Q' y H'') → te ((wipe σ vs).set i (some x)) H' Q') : Turn1 (gName i) te σ vs x y H0 :=
  fun H' QS S k => k _ hw fun Q' q => h H' S Q' q
theorem turn_tup2 {K : PySem.W.Frag} {i j : Nat} {r : Addr} {a b y : V} {H0 : Hp} {vs : List Nat} (hw : wipe (((wipe σ vs).set i (some a)).set j (some b)) vs = wipe σ vs) (hx : SqT K H0 r [a, b]) (h : ∀ H', Same H0 H' → ∀ Q' : VK, (∀ H'', Same H' H'' → Q' y H'') → te (((wipe σ vs).set i (some a)).set j (some b)) H' Q') :
    Turn1 (gTup K 2 (gCons (gName i) (gCons (gName j) gNil))) te σ vs (.ref r) y H0 :=
  fun H' QS S k => ⟨r, _, rfl, sqt_sm S hx, rfl, _, _, rfl, _, _, rfl, rfl, k _ hw fun Q' q => h H' S Q' q⟩
/-- [e for i in range(n)], e worth f i -/
theorem lc_rng {n : Nat} {g : TG} {vs : List Nat} (f : Nat → V) (hn : n ≤ 100000) (hs : ∀ i : Nat, i < n → Turn1 g te σ vs (.int (i : Int)) (f i) H) (k : ∀ D H', H D = none → Same H H' → H' D = some (.lst ((List.range n).map f)) → Q (.ref D) H') :
    lcK g tYes te vs σ Q (Itr 0 n) H := fun D hD => by
  refine lc_range (lo := 0) (n := n) (fun i H2 => Same H H2 ∧ H2 D = some (.lst ((List.range i).map f))) ⟨Same.nw hD (Same.refl H), upd_same⟩ ?_ fun H2 ⟨S2, h2⟩ => k D H2 hD S2 h2
  rintro i H2 hi ⟨S2, h2⟩
  rw [Int.zero_add]
  refine hs i hi H2 _ S2 fun σ2 hw q => ⟨hw, yes (ift (q _ fun H4 S4 => ⟨_, S4 _ _ h2, Nat.lt_of_le_of_lt (m := 100000) (by simp; omega) (by decide), fun b o e => ?_, ?_⟩))⟩
  · rw [upd_ne (ne_of_none e hD)]
    exact S4 _ _ (S2 _ _ e)
  · rw [upd_same, List.range_succ, List.map_append]
    rfl
theorem lc_rngL {n : Nat} {lo : Int} {g : TG} {vs : List Nat} (f : Nat → V) (hn : n ≤ 100000) (hs : ∀ i : Nat, i < n → Turn1 g te σ vs (.int (lo + i)) (f i) H) (k : ∀ D H', H D = none → Same H H' → H' D = some (.lst ((List.range n).map f)) → Q (.ref D) H') :
    lcK g tYes te vs σ Q (Itr lo n) H := fun D hD => by
  refine lc_range (lo := lo) (n := n) (fun i H2 => Same H H2 ∧ H2 D = some (.lst ((List.range i).map f))) ⟨Same.nw hD (Same.refl H), upd_same⟩ ?_ fun H2 ⟨S2, h2⟩ => k D H2 hD S2 h2
  rintro i H2 hi ⟨S2, h2⟩
  refine hs i hi H2 _ S2 fun σ2 hw q => ⟨hw, yes (ift (q _ fun H4 S4 => ⟨_, S4 _ _ h2, Nat.lt_of_le_of_lt (m := 100000) (by simp; omega) (by decide), fun b o e => ?_, ?_⟩))⟩
  · rw [upd_ne (ne_of_none e hD)]
    exact S4 _ _ (S2 _ _ e)
  · rw [upd_same, List.range_succ, List.map_append]
    rfl
/-- a comprehension whose items are new objects: R tells what the i-th item is -/
theorem lc_rngR {n : Nat} {lo : Int} {idx : Nat} {vs : List Nat} (R : Nat → V → Hp → Prop) (hn : n ≤ 100000) (hw : ∀ v : V, wipe ((wipe σ vs).set idx (some v)) vs = wipe σ vs)
    (hs : ∀ i : Nat, i < n → ∀ H' D, H D = none → Same H H' → H' D ≠ none → ∀ Q' : VK, (∀ y H'', Same H' H'' → (∀ Hx, But D H'' Hx → R i y Hx) → Q' y H'') → te ((wipe σ vs).set idx (some (.int (lo + i)))) H' Q')
    (k : ∀ D ys H', H D = none → Same H H' → H' D = some (.lst ys) → ys.length = n → (∀ (i : Nat) y, ys[i]? = some y → R i y H') → Q (.ref D) H') : lcK (gName idx) tYes te vs σ Q (Itr lo n) H := fun D hD => by
  refine lc_range (lo := lo) (n := n) (fun i H2 => ∃ ys : List V, Same H H2 ∧ H2 D = some (.lst ys) ∧ ys.length = i ∧ ∀ (j : Nat) y, ys[j]? = some y → ∀ Hx, But D H2 Hx → R j y Hx) ⟨[], Same.nw hD (Same.refl H), upd_same, rfl, fun j y h => by cases h⟩ ?_ fun H2 ⟨ys, S2, h2, hl, hR⟩ => k D ys H2 hD S2 h2 hl fun j y h => hR j y h H2 fun _ _ _ e => e
  rintro i H2 hi ⟨ys, S2, h2, hl, hR⟩
  refine ⟨hw _, yes (ift (hs i hi H2 D hD S2 (by rw [h2]; simp) _ fun y H4 S4 hy => ⟨_, S4 _ _ h2, Nat.lt_of_le_of_lt (m := 100000) (by omega) (by decide), ys ++ [y], fun b o e => ?_, upd_same, by simp [hl], fun j z hz Hx hb => ?_⟩))⟩
  · rw [upd_ne (ne_of_none e hD)]
    exact S4 _ _ (S2 _ _ e)
  · have b4 : But D H4 Hx := fun b o ne e => hb b o ne (by rw [upd_ne ne]; exact e)
    rcases Nat.lt_or_ge j ys.length with lt1 | ge1
    · rw [List.getElem?_append_left lt1] at hz
      exact hR j z hz Hx fun b o ne e => b4 b o ne (S4 _ _ e)
    · rw [List.getElem?_append_right ge1] at hz
      have ej : j - ys.length = 0 := by
        have := (List.getElem?_eq_some_iff.mp hz).1
        simp at this
        omega
      rw [ej] at hz
      obtain rfl : y = z := Option.some.inj hz
      obtain rfl : j = i := by omega
      exact hy Hx b4
/-- over a range by steps -/
theorem for_itc {lo c : Int} {n : Nat} {g : TG} (Pv : Nat → L2.St → Hp → Prop) (h0 : Pv 0 σ H) (hs : ∀ (i : Nat) σ H, i < n → Pv i σ H → g (.int (lo + (i : Nat) * c)) σ H fun σ2 H2 => ts { D with nx := Pv (i + 1), ct := Pv (i + 1), bk := D.nx } σ2 H2) (hd : ∀ σ H, Pv n σ H → D.nx σ H) :
    forK g ts D σ (Itc lo c n) H := for_rangeC Pv h0 hs hd
def rng3K (R : It → Hp → Prop) : List V → Hp → Prop := fun vs H1 => ∃ (i j c : Int) (n : Nat), vs = [.int i, .int j, .int c] ∧ RgC i j c n ∧ R (Itc i c n) H1
theorem rng3 {R : It → Hp → Prop} (k : t σ H (rng3K R)) : iRng3 t σ H R := k
theorem rng3K_i {R : It → Hp → Prop} {i j c : Int} {n : Nat} (h : RgC i j c n) (k : R (Itc i c n) H) : rng3K R [.int i, .int j, .int c] H := ⟨i, j, c, n, rfl, h, k⟩
/-- [e for x in a list], e worth f of the place -/
theorem lc_lst {a : Addr} {xs : List V} {g : TG} {vs : List Nat} (f : Nat → V) (ha : SqL K H a xs) (hn : xs.length ≤ 100000) (hs : ∀ i x, xs[i]? = some x → Turn1 g te σ vs x (f i) H) (k : ∀ D H', H D = none → Same H H' → H' D = some (.lst ((List.range xs.length).map f)) → Q (.ref D) H') :
    lcK g tYes te vs σ Q (Itl K a) H := fun D hD => by
  refine lc_list (K := K) (a := a) (xs := xs) (fun i H2 => Same H H2 ∧ H2 D = some (.lst ((List.range i).map f))) ⟨Same.nw hD (Same.refl H), upd_same⟩ (fun i H2 _ ⟨S2, _⟩ => S2.seq ha) ?_ fun H2 ⟨S2, h2⟩ => k D H2 hD S2 h2
  rintro i x H2 hx ⟨S2, h2⟩
  have hi : i < xs.length := (List.getElem?_eq_some_iff.mp hx).1
  refine hs i x hx H2 _ S2 fun σ2 hw q => ⟨hw, yes (ift (q _ fun H4 S4 => ⟨_, S4 _ _ h2, Nat.lt_of_le_of_lt (m := 100000) (by simp; omega) (by decide), fun b o e => ?_, ?_⟩))⟩
  · rw [upd_ne (ne_of_none e hD)]
    exact S4 _ _ (S2 _ _ e)
  · rw [upd_same, List.range_succ, List.map_append]
    rfl
theorem lc_tpl {a : Addr} {xs : List V} {g : TG} {vs : List Nat} (f : Nat → V) (ha : SqT K H a xs) (hn : xs.length ≤ 100000) (hs : ∀ i x, xs[i]? = some x → Turn1 g te σ vs x (f i) H) (k : ∀ D H', H D = none → Same H H' → H' D = some (.lst ((List.range xs.length).map f)) → Q (.ref D) H') :
    lcK g tYes te vs σ Q (Itt K a) H := fun D hD => by
  refine lc_tup (K := K) (a := a) (xs := xs) (fun i H2 => Same H H2 ∧ H2 D = some (.lst ((List.range i).map f))) ⟨Same.nw hD (Same.refl H), upd_same⟩ (fun i H2 _ ⟨S2, _⟩ => sqt_sm S2 ha) ?_ fun H2 ⟨S2, h2⟩ => k D H2 hD S2 h2
  rintro i x H2 hx ⟨S2, h2⟩
  have hi : i < xs.length := (List.getElem?_eq_some_iff.mp hx).1
  refine hs i x hx H2 _ S2 fun σ2 hw q => ⟨hw, yes (ift (q _ fun H4 S4 => ⟨_, S4 _ _ h2, Nat.lt_of_le_of_lt (m := 100000) (by simp; omega) (by decide), fun b o e => ?_, ?_⟩))⟩
  · rw [upd_ne (ne_of_none e hD)]
    exact S4 _ _ (S2 _ _ e)
  · rw [upd_same, List.range_succ, List.map_append]
    rfl
/-- with an if: the test's answer, the item's worth -/
def Turn2 (g : TG) (tt : L2.TT) (te : TE) (σ : L2.St) (vs : List Nat) (x : V) (b : Bool) (y : V) (H0 : Hp) : Prop :=
  ∀ H' (QS : L2.St → Hp → Prop), Same H0 H' → (∀ σ2, wipe σ2 vs = wipe σ vs → (∀ Q' : Bool → Hp → Prop, (∀ H'', Same H' H'' → Q' b H'') → tt σ2 H' Q') → (∀ H1, Same H' H1 → b = true → ∀ Q' : VK, (∀ H'', Same H1 H'' → Q' y H'') → te σ2 H1 Q') → QS σ2 H') → g x (wipe σ vs) H' QS
theorem turn2 {i : Nat} {x y : V} {b : Bool} {H0 : Hp} {vs : List Nat} (hw : wipe ((wipe σ vs).set i (some x)) vs = wipe σ vs) (h1 : ∀ H', Same H0 H' → ∀ Q' : Bool → Hp → Prop, (∀ H'', Same H' H'' → Q' b H'') → tt ((wipe σ vs).set i (some x)) H' Q')
    (h2 : ∀ H', Same H0 H' → b = true → ∀ Q' : VK, (∀ H'', Same H' H'' → Q' y H'') → te ((wipe σ vs).set i (some x)) H' Q') : Turn2 (gName i) tt te σ vs x b y H0 :=
  fun H' QS S k => k _ hw (fun Q' q => h1 H' S Q' q) fun H1 S1 hb Q' q => h2 H1 (S.trans S1) hb Q' q
theorem lc_rng_if {n : Nat} {lo : Int} {g : TG} {vs : List Nat} (c : Nat → Bool) (f : Nat → V) (hn : n ≤ 100000) (hs : ∀ i : Nat, i < n → Turn2 g tt te σ vs (.int (lo + i)) (c i) (f i) H) (k : ∀ D H', H D = none → Same H H' → H' D = some (.lst (((List.range n).filter c).map f)) → Q (.ref D) H') :
    lcK g tt te vs σ Q (Itr lo n) H := fun D hD => by
  refine lc_range (lo := lo) (n := n) (fun i H2 => Same H H2 ∧ H2 D = some (.lst (((List.range i).filter c).map f))) ⟨Same.nw hD (Same.refl H), upd_same⟩ ?_ fun H2 ⟨S2, h2⟩ => k D H2 hD S2 h2
  rintro i H2 hi ⟨S2, h2⟩
  have e1 : (List.range (i + 1)).filter c = (List.range i).filter c ++ if c i = true then [i] else [] := by
    rw [List.range_succ, List.filter_append]
    congr 1
    by_cases h : c i = true <;> simp [h]
  have hl : ((List.range i).filter c).length ≤ i := by
    have := List.length_filter_le c (List.range i)
    rw [List.length_range] at this
    exact this
  refine hs i hi H2 _ S2 fun σ2 hw q1 q2 => ⟨hw, q1 _ fun H3 S3 => ?_⟩
  have h3 := S3 _ _ h2
  refine bb (fun hc => q2 H3 S3 hc _ fun H4 S4 => ⟨_, S4 _ _ h3, Nat.lt_of_le_of_lt (m := 100000) (by rw [List.length_map]; omega) (by decide), fun b o e => ?_, ?_⟩) fun hc => ⟨S2.trans S3, ?_⟩
  · rw [upd_ne (ne_of_none e hD)]
    exact S4 _ _ (S3 _ _ (S2 _ _ e))
  · rw [upd_same, e1, if_pos hc, List.map_append]
    rfl
  · rw [e1, if_neg (by rw [hc]; decide), List.append_nil]
    exact h3
theorem lc_rng0_if {n : Nat} {g : TG} {vs : List Nat} (c : Nat → Bool) (f : Nat → V) (hn : n ≤ 100000) (hs : ∀ i : Nat, i < n → Turn2 g tt te σ vs (.int (i : Int)) (c i) (f i) H) (k : ∀ D H', H D = none → Same H H' → H' D = some (.lst (((List.range n).filter c).map f)) → Q (.ref D) H') :
    lcK g tt te vs σ Q (Itr 0 n) H := lc_rng_if (lo := 0) c f hn (fun i hi => by have z := hs i hi; rw [Int.zero_add]; exact z) k
theorem lc_lst_if {a : Addr} {xs : List V} {g : TG} {vs : List Nat} (c : Nat → Bool) (f : Nat → V) (ha : SqL K H a xs) (hn : xs.length ≤ 100000) (hs : ∀ i x, xs[i]? = some x → Turn2 g tt te σ vs x (c i) (f i) H) (k : ∀ D H', H D = none → Same H H' → H' D = some (.lst (((List.range xs.length).filter c).map f)) → Q (.ref D) H') :
    lcK g tt te vs σ Q (Itl K a) H := fun D hD => by
  refine lc_list (K := K) (a := a) (xs := xs) (fun i H2 => Same H H2 ∧ H2 D = some (.lst (((List.range i).filter c).map f))) ⟨Same.nw hD (Same.refl H), upd_same⟩ (fun i H2 _ ⟨S2, _⟩ => S2.seq ha) ?_ fun H2 ⟨S2, h2⟩ => k D H2 hD S2 h2
  rintro i x H2 hx ⟨S2, h2⟩
  have hi : i < xs.length := (List.getElem?_eq_some_iff.mp hx).1
  have e1 : (List.range (i + 1)).filter c = (List.range i).filter c ++ if c i = true then [i] else [] := by
    rw [List.range_succ, List.filter_append]
    congr 1
    by_cases h : c i = true <;> simp [h]
  have hl : ((List.range i).filter c).length ≤ i := by
    have := List.length_filter_le c (List.range i)
    rw [List.length_range] at this
    exact this
  refine hs i x hx H2 _ S2 fun σ2 hw q1 q2 => ⟨hw, q1 _ fun H3 S3 => ?_⟩
  have h3 := S3 _ _ h2
  refine bb (fun hc => q2 H3 S3 hc _ fun H4 S4 => ⟨_, S4 _ _ h3, Nat.lt_of_le_of_lt (m := 100000) (by rw [List.length_map]; omega) (by decide), fun b o e => ?_, ?_⟩) fun hc => ⟨S2.trans S3, ?_⟩
  · rw [upd_ne (ne_of_none e hD)]
    exact S4 _ _ (S3 _ _ (S2 _ _ e))
  · rw [upd_same, e1, if_pos hc, List.map_append]
    rfl
  · rw [e1, if_neg (by rw [hc]; decide), List.append_nil]
    exact h3
end Rd
end Tk

namespace Tk
open PySem PySem.Spec PyProof.Rows L2
/-- a number that is not negative, as a value -/
abbrev vn (n : Nat) : V := .int (n : Int)
/-- all but d stands as before; d holds a source -/
structure Src (d : Addr) (H H' : Hp) : Prop where
  but : But d H H'
  at_ : ∃ cs, H' d = some (.lst cs) ∧ DSt cs
theorem But.free {d : Addr} {H H' : Hp} (b : But d H H') (hd : ∃ cs, H d = some (.lst cs)) {p : Addr} (h : H' p = none) (hd' : ∃ cs, H' d = some (.lst cs)) : H p = none := by
  cases q : H p with
  | none => rfl
  | some o =>
    by_cases e : p = d
    · obtain ⟨cs, z⟩ := hd'
      rw [e, z] at h
      cases h
    · rw [b p o e q] at h
      cases h
theorem But.refl (d : Addr) (H : Hp) : But d H H := fun _ _ _ h => h
theorem But.trans {d : Addr} {H H1 H2 : Hp} (a : But d H H1) (b : But d H1 H2) : But d H H2 := fun p o n h => b p o n (a p o n h)
theorem But.same {d : Addr} {H H1 : Hp} (a : Same H H1) : But d H H1 := fun p o _ h => a p o h
theorem But.at_d {d : Addr} {H : Hp} {o : HO} : But d H (upd H d o) := fun p u n h => by rw [upd_ne n]; exact h
theorem But.new {d p : Addr} {H : Hp} {o : HO} (h : H p = none) : But d H (upd H p o) := fun b u _ e => by rw [upd_ne (ne_of_none e h)]; exact e
theorem Same.new {p : Addr} {H : Hp} {o : HO} (h : H p = none) : Same H (upd H p o) := fun b u e => by rw [upd_ne (ne_of_none e h)]; exact e
theorem Same.free1 {H H1 : Hp} (a : Same H H1) {p : Addr} (h : H1 p = none) : H p = none := Same.free a h
/-- a pattern -/
structure Pat (ps : List Nat) : Prop where
  pos : 0 < ps.length
  len : ps.length ≤ 12
  nine : ∀ x ∈ ps, x ≤ 9
def spPattern : Sp := fun vs H Q _ => ∃ (d : Addr) (most : Nat) (cs : List V), vs = [.ref d, vn most] ∧ 0 < most ∧ most ≤ 12 ∧ H d = some (.lst cs) ∧ DSt cs ∧
  ∀ (t : Addr) (ps : List Nat) (H' : Hp), H t = none → Src d H H' → H' t = some (.tup (ps.map vn)) → Pat ps → ps.length ≤ most → Q (.ref t) H'
section
variable {P : Program} {w : World} {K : PySem.W.Frag} {mg : Str → Option Value} {base : Heap}
theorem high_of {r : Int} (h0 : 0 ≤ r) (h1 : r < 3) : ∃ v : Nat, atI [V.int 2, V.int 3, V.int 10] r = some (vn v) ∧ 0 < v ∧ v ≤ 10 := by
  have : r = ((0 : Nat) : Int) ∨ r = ((1 : Nat) : Int) ∨ r = ((2 : Nat) : Int) := by omega
  rcases this with e | e | e
  · exact ⟨2, by rw [e]; exact atn rfl, by omega, by omega⟩
  · exact ⟨3, by rw [e]; exact atn rfl, by omega, by omega⟩
  · exact ⟨10, by rw [e]; exact atn rfl, by omega, by omega⟩
theorem ok__law_pattern (T : Txt K mg) : OkF P w K mg base 2 (He.ga K "_law_pattern") ["_law_d", "_law_most"] spPattern := by
  have G__law_below : OkF P w K mg base 1 (He.ga K "_law_below") ["_law_d", "_law_limit"] spBelow := ok__law_below T
  refine FnP.okF T.f__law_pattern sc__law_pattern (fun _ _ _ _ _ _ us hl => match us, hl with | [_, _], _ => rfl) (fun vs H Q E h => ?_) (fun cdv A outer s H vs Q E hr h => ?_)
  · obtain ⟨d, most, cs, rfl, _⟩ := h
    rfl
  obtain ⟨d, most, cs, rfl, m0, m1, hd, hcs, k⟩ := h
  refine ⟨_, (pss_cons (ps_set (i := 2) sc__law_pattern.nd rfl (Or.inr rfl) (pe_ix (ixLK (K := K)) (pe_lst (pa_cons pe_int (pa_cons pe_int (pa_cons pe_int pa_nil)))) (pe_call G__law_below.one (hr.mono (by decide)) (by rfl) T.g__law_below G__law_below.kp G__law_below.two .nil passL (pa_cons (pv 0) (pa_cons pe_int pa_nil))) (fun _ _ => rfl)))
    (pss_one (ps_ret (pe_callTy (tplK (K := K)) (by rfl) T.g_tuple (by decide +kernel) (pa_cons (pe_lc (own := [("_law_k", 3)]) (g := gName 3) (tt := tYes) (by rfl) sc__law_pattern.nd (pi_range1 (by rfl) T.g_range (pa_cons (pe_op op_add pe_int (pe_call G__law_below.one (hr.mono (by decide)) (by rfl) T.g__law_below G__law_below.kp G__law_below.two .nil passL (pa_cons (pv 0) (pa_cons (pv 1) pa_nil)))) pa_nil)) (blkOk_by (own := [("_law_k", 3)]) (N := N__law_pattern) (sc := (defScope s__law_pattern)) (by decide +kernel)) (fun _ _ _ _ _ => pg_name (i := 3) sc__law_pattern.nd rfl (Or.inl rfl)) (fun _ _ _ _ _ => pts_nil) (fun _ _ _ _ _ => (pe_call G__law_below.one (hr.mono (by decide)) (by rfl) T.g__law_below G__law_below.kp G__law_below.two .nil passL (pa_cons (pv 0) (pa_cons (pv 2) pa_nil))))) pa_nil))))), ?_⟩
  -- high = [2, 3, 10][below(d, 3)]
  refine ⟨(by show 3 ≤ sizeLine; decide), fun l hl => ?_⟩
  have ndl : d ≠ l := ne_of_none hd hl
  refine ⟨_, rfl, d, 3, cs, rfl, by decide, by decide, by rw [upd_ne ndl]; exact hd, hcs, fun r cs1 r0 r1 hcs1 => ?_⟩
  obtain ⟨v, hv, v0, v1⟩ := high_of r0 r1
  refine ⟨l, _, r, _, rfl, rfl, SqL.of (by rw [upd_ne ndl.symm]; exact upd_same), hv, ?_⟩
  -- range(1 + below(d, most))
  refine ⟨_, rfl, _, rfl, d, most, cs1, rfl, by omega, by omega, upd_same, hcs1, fun r2 cs2 q0 q1 hcs2 => ?_⟩
  refine ⟨1, r2, rfl, rfl, ?_⟩
  refine ⟨_, rfl, by omega, by omega, fun D hD => ?_⟩
  rw [upd_upd] at hD ⊢
  have nDd : D ≠ d := fun e => by rw [e, upd_same] at hD; cases hD
  have nDl : D ≠ l := fun e => by rw [e, upd_ne ndl.symm, upd_same] at hD; cases hD
  have hD0 : H D = none := by rw [upd_ne nDd, upd_ne nDl] at hD; exact hD
  refine lc_range (lo := 0) (n := (1 + r2).toNat) (fun i H2 => ∃ ms : List Nat, But d H H2 ∧ (∃ cs, H2 d = some (.lst cs) ∧ DSt cs) ∧ H2 D = some (.lst (ms.map vn)) ∧ ms.length = i ∧ ∀ x ∈ ms, x ≤ 9) ?_ ?_ ?_
  · refine ⟨[], fun b o nb e => ?_, ⟨cs2, by rw [upd_ne nDd.symm, upd_same], hcs2⟩, upd_same, rfl, fun x hx => by cases hx⟩
    rw [upd_ne (ne_of_none e hD0), upd_ne nb, upd_ne (ne_of_none e hl)]
    exact e
  · rintro i H2 hi ⟨ms, hB, ⟨cs3, h3, hcs3⟩, hD2, hml, hm9⟩
    refine ⟨rfl, ?_⟩
    refine ⟨_, rfl, _, rfl, d, v, cs3, rfl, by omega, by omega, h3, hcs3, fun r4 cs4 p0 p1 hcs4 => ?_⟩
    refine ⟨ms.map vn, by rw [upd_ne nDd]; exact hD2, Nat.lt_of_le_of_lt (m := 12) (by rw [List.length_map]; omega) (by decide), ms ++ [r4.toNat], ?_, ⟨cs4, by rw [upd_ne nDd.symm, upd_same], hcs4⟩, ?_, ?_, ?_⟩
    · intro b o nb e
      rw [upd_ne (ne_of_none e hD0), upd_ne nb]
      exact hB b o nb e
    · rw [upd_same, List.map_append]
      show some (HO.lst (ms.map vn ++ [V.int r4])) = some (HO.lst (ms.map vn ++ [V.int ((r4.toNat : Nat) : Int)]))
      rw [Int.toNat_of_nonneg p0]
    · rw [List.length_append]
      show ms.length + 1 = i + 1
      omega
    · intro x hx
      rcases List.mem_append.mp hx with h | h
      · exact hm9 x h
      · rw [List.mem_singleton.mp h]
        omega
  · rintro H2 ⟨ms, hB, ⟨cs3, h3, hcs3⟩, hD2, hml, hm9⟩
    refine ⟨D, _, rfl, .inl ⟨SqL.of hD2, fun t ht => ?_⟩⟩
    have ht0 : H t = none := But.free hB ⟨_, hd⟩ ht ⟨_, h3⟩
    refine k t ms _ ht0 ⟨hB.trans (But.new ht), cs3, by rw [upd_ne (ne_of_none h3 ht)]; exact h3, hcs3⟩ upd_same ⟨by omega, by omega, hm9⟩ (by omega)
end
end Tk

namespace Tk
open PySem PySem.Spec PyProof.Rows L2
structure Parts (m : Nat) (tk cl : List Nat) (lt : Nat) : Prop where
  m2 : 2 ≤ m
  m4 : m ≤ 10000
  tkP : Pat tk
  clP : Pat cl
  l99 : lt ≤ 99
/-- at t the tuple of the parts -/
structure PartsAt (H : Hp) (t : Addr) (m : Nat) (tp : Addr) (tk : List Nat) (cp : Addr) (cl : List Nat) (lt : Nat) : Prop where
  at_ : H t = some (.tup [vn m, .ref tp, .ref cp, vn lt])
  tkA : H tp = some (.tup (tk.map vn))
  clA : H cp = some (.tup (cl.map vn))
  ok : Parts m tk cl lt
theorem PartsAt.but {d t tp cp : Addr} {H H' : Hp} {m lt : Nat} {tk cl : List Nat} {cs : List V} (p : PartsAt H t m tp tk cp cl lt) (b : But d H H') (hd : H d = some (.lst cs)) : PartsAt H' t m tp tk cp cl lt :=
  ⟨b _ _ (ne_of p.at_ hd (fun q => by cases q)) p.at_, b _ _ (ne_of p.tkA hd (fun q => by cases q)) p.tkA, b _ _ (ne_of p.clA hd (fun q => by cases q)) p.clA, p.ok⟩
theorem PartsAt.same {t tp cp : Addr} {H H' : Hp} {m lt : Nat} {tk cl : List Nat} (p : PartsAt H t m tp tk cp cl lt) (b : Same H H') : PartsAt H' t m tp tk cp cl lt :=
  ⟨b _ _ p.at_, b _ _ p.tkA, b _ _ p.clA, p.ok⟩
def spParts : Sp := fun vs H Q _ => ∃ (d : Addr) (most : Nat) (cs : List V), vs = [.ref d, vn most] ∧ 0 < most ∧ most ≤ 12 ∧ H d = some (.lst cs) ∧ DSt cs ∧
  ∀ (t tp cp : Addr) (m lt : Nat) (tk cl : List Nat) (H' : Hp), H t = none → Src d H H' → PartsAt H' t m tp tk cp cl lt → tk.length ≤ most → cl.length ≤ most → Q (.ref t) H'
def spSmall : Sp := fun vs H Q _ => ∃ (d : Addr) (cs : List V), vs = [.ref d] ∧ H d = some (.lst cs) ∧ DSt cs ∧
  ∀ (t tp cp : Addr) (m lt : Nat) (tk cl : List Nat) (H' : Hp), H t = none → Src d H H' → PartsAt H' t m tp tk cp cl lt → m ≤ 10 → tk.length ≤ 3 → cl.length ≤ 3 → lt ≤ 5 → Q (.ref t) H'
section
variable {P : Program} {w : World} {K : PySem.W.Frag} {mg : Str → Option Value} {base : Heap}
theorem three_of {a b c r : Int} (h0 : 0 ≤ r) (h1 : r < 3) : ∃ v : Int, atI [V.int a, V.int b, V.int c] r = some (V.int v) ∧ (v = a ∨ v = b ∨ v = c) := by
  have : r = ((0 : Nat) : Int) ∨ r = ((1 : Nat) : Int) ∨ r = ((2 : Nat) : Int) := by omega
  rcases this with e | e | e
  · exact ⟨a, by rw [e]; exact atn rfl, .inl rfl⟩
  · exact ⟨b, by rw [e]; exact atn rfl, .inr (.inl rfl)⟩
  · exact ⟨c, by rw [e]; exact atn rfl, .inr (.inr rfl)⟩
theorem ok__law_small (T : Txt K mg) : OkF P w K mg base 3 (He.ga K "_law_small") ["_law_d"] spSmall := by
  have G__law_below : OkF P w K mg base 1 (He.ga K "_law_below") ["_law_d", "_law_limit"] spBelow := ok__law_below T
  have G__law_pattern : OkF P w K mg base 2 (He.ga K "_law_pattern") ["_law_d", "_law_most"] spPattern := ok__law_pattern T
  refine FnP.okF T.f__law_small sc__law_small (fun _ _ _ _ _ _ us hl => match us, hl with | [_], _ => rfl) (fun vs H Q E h => ?_) (fun cdv A outer s H vs Q E hr h => ?_)
  · obtain ⟨d, cs, rfl, _⟩ := h
    rfl
  obtain ⟨d, cs, rfl, hd, hcs, k⟩ := h
  refine ⟨_, (pss_one (ps_ret (pe_tup (pa_cons (pe_op op_add pe_int (pe_call G__law_below.one (hr.mono (by decide)) (by rfl) T.g__law_below G__law_below.kp G__law_below.two .nil passL (pa_cons (pv 0) (pa_cons pe_int pa_nil)))) (pa_cons (pe_call G__law_pattern.one (hr.mono (by decide)) (by rfl) T.g__law_pattern G__law_pattern.kp G__law_pattern.two .nil passL (pa_cons (pv 0) (pa_cons pe_int pa_nil))) (pa_cons (pe_call G__law_pattern.one (hr.mono (by decide)) (by rfl) T.g__law_pattern G__law_pattern.kp G__law_pattern.two .nil passL (pa_cons (pv 0) (pa_cons pe_int pa_nil))) (pa_cons (pe_call G__law_below.one (hr.mono (by decide)) (by rfl) T.g__law_below G__law_below.kp G__law_below.two .nil passL (pa_cons (pv 0) (pa_cons pe_int pa_nil))) pa_nil))))))), ?_⟩
  refine ⟨_, rfl, d, 9, cs, rfl, by decide, by decide, hd, hcs, fun r1 c1 a1 b1 hc1 => ⟨2, r1, rfl, rfl, ?_⟩⟩
  have hB : But d H (upd H d (.lst c1)) := But.at_d
  have hd2 : upd H d (.lst c1) d = some (.lst c1) := upd_same
  generalize upd H d (.lst c1) = H2 at *
  refine ⟨_, rfl, d, 3, c1, rfl, by decide, by decide, hd2, hc1, fun tp tk H3 n3 S3 h3 p3 l3 => ?_⟩
  obtain ⟨c8, hd3, hc8⟩ := S3.at_
  refine ⟨_, rfl, d, 3, c8, rfl, by decide, by decide, hd3, hc8, fun cp cl H4 n4 S4 h4 p4 l4 => ?_⟩
  obtain ⟨c9, hd4, hc9⟩ := S4.at_
  refine ⟨_, rfl, d, 6, c9, rfl, by decide, by decide, hd4, hc9, fun r5 c5 a5 b5 hc5 => ?_⟩
  refine ⟨(by show 4 ≤ sizeLine; decide), fun t ht => ?_⟩
  have hB5 : But d H (upd H4 d (.lst c5)) := ((hB.trans S3.but).trans S4.but).trans But.at_d
  have h34 : H4 tp = some (.tup (tk.map vn)) := S4.but _ _ (ne_of h3 hd3 (fun q => by cases q)) h3
  have h35 : upd H4 d (.lst c5) tp = some (.tup (tk.map vn)) := by rw [upd_ne (ne_of h34 hd4 (fun q => by cases q))]; exact h34
  have h45 : upd H4 d (.lst c5) cp = some (.tup (cl.map vn)) := by rw [upd_ne (ne_of h4 hd4 (fun q => by cases q))]; exact h4
  have hd5 : upd H4 d (.lst c5) d = some (.lst c5) := upd_same
  generalize upd H4 d (.lst c5) = H5 at *
  obtain ⟨m, hm⟩ : ∃ m : Nat, 2 + r1 = (m : Int) := ⟨(2 + r1).toNat, by omega⟩
  obtain ⟨lt, hlt⟩ : ∃ n : Nat, r5 = (n : Int) := ⟨r5.toNat, by omega⟩
  dsimp only
  rw [hm]
  subst hlt
  refine k t tp cp m lt tk cl _ (But.free hB5 ⟨_, hd⟩ ht ⟨_, hd5⟩) ⟨hB5.trans (But.new ht), c5, by rw [upd_ne (ne_of_none hd5 ht)]; exact hd5, hc5⟩
    ⟨upd_same, by rw [upd_ne (ne_of_none h35 ht)]; exact h35, by rw [upd_ne (ne_of_none h45 ht)]; exact h45, ⟨by omega, by omega, p3, p4, by omega⟩⟩ (by omega) l3 l4 (by omega)
end
end Tk

/-! ### The mathematics of halls -/
namespace Mm
def atp (ps : List Nat) (t : Nat) : Nat := ps.getD (t % ps.length) 0
/-- tickets taken before a tick -/
def tak (tk : List Nat) : Nat → Nat
  | 0 => 0
  | t + 1 => tak tk t + atp tk t
/-- tickets called before a tick -/
def cal (tk cl : List Nat) : Nat → Nat
  | 0 => 0
  | t + 1 => min (tak tk (t + 1)) (cal tk cl t + atp cl t)
def per (tk cl : List Nat) : Nat := Nat.lcm tk.length cl.length
section
variable {tk cl : List Nat}
theorem cal_le : ∀ t, cal tk cl t ≤ tak tk t
  | 0 => Nat.le_refl _
  | t + 1 => Nat.min_le_left _ _
theorem atp_add (ps : List Nat) (t p : Nat) (h : ps.length ∣ p) : atp ps (t + p) = atp ps t := by
  unfold atp
  obtain ⟨c, rfl⟩ := h
  rw [Nat.add_mul_mod_self_left]
theorem tak_add (p : Nat) (h : tk.length ∣ p) : ∀ t, tak tk (t + p) = tak tk t + tak tk p
  | 0 => by simp [tak]
  | t + 1 => by
    rw [show t + 1 + p = (t + p) + 1 by omega]
    show tak tk (t + p) + atp tk (t + p) = tak tk t + atp tk t + tak tk p
    rw [tak_add p h t, atp_add tk t p h]
    omega
theorem tak_mono : ∀ {a b : Nat}, a ≤ b → tak tk a ≤ tak tk b := by
  intro a b h
  induction h with
  | refl => exact Nat.le_refl _
  | step _ ih => exact Nat.le_trans ih (Nat.le_add_right _ _)
/-- who waits before a tick -/
def wt (tk cl : List Nat) (t : Nat) : Nat := tak tk t - cal tk cl t
theorem wt_cal (t : Nat) : cal tk cl t + wt tk cl t = tak tk t := by
  have := cal_le (tk := tk) (cl := cl) t
  unfold wt
  omega
theorem wt_succ (t : Nat) : wt tk cl (t + 1) = wt tk cl t + atp tk t - atp cl t := by
  have h1 := wt_cal (tk := tk) (cl := cl) t
  have h2 : cal tk cl (t + 1) = min (tak tk t + atp tk t) (cal tk cl t + atp cl t) := rfl
  have h3 : tak tk (t + 1) = tak tk t + atp tk t := rfl
  unfold wt
  rw [h2, h3]
  have h4 : wt tk cl t = tak tk t - cal tk cl t := rfl
  omega
theorem cal_succ (t : Nat) : cal tk cl (t + 1) = cal tk cl t + min (wt tk cl t + atp tk t) (atp cl t) := by
  have h1 := wt_cal (tk := tk) (cl := cl) t
  have h2 : cal tk cl (t + 1) = min (tak tk t + atp tk t) (cal tk cl t + atp cl t) := rfl
  rw [h2]
  omega
theorem cal_mono {a b : Nat} (h : a ≤ b) : cal tk cl a ≤ cal tk cl b := by
  induction h with
  | refl => exact Nat.le_refl _
  | step _ ih =>
    rw [Nat.succ_eq_add_one, cal_succ]
    omega
variable {p : Nat} (hp : 0 < p) (ht : tk.length ∣ p) (hc : cl.length ∣ p)
include ht hc in
theorem wt_up (t : Nat) : wt tk cl t ≤ wt tk cl (t + p) := by
  induction t with
  | zero => simp [wt, tak, cal]
  | succ t ih =>
    rw [show t + 1 + p = (t + p) + 1 by omega, wt_succ, wt_succ, atp_add tk t p ht, atp_add cl t p hc]
    omega
include ht hc in
theorem wt_same {s : Nat} (h : wt tk cl s = wt tk cl (s + p)) : ∀ t, s ≤ t → wt tk cl t = wt tk cl (t + p) := by
  intro t hs
  induction hs with
  | refl => exact h
  | @step t _ ih =>
    rw [show t.succ + p = (t + p) + 1 by omega, Nat.succ_eq_add_one, wt_succ, wt_succ, atp_add tk t p ht, atp_add cl t p hc, ih]
/-- from the second period on each period calls the same -/
theorem now_same (hp : 0 < p) (ht : tk.length ∣ p) (hc : cl.length ∣ p) (t : Nat) (h : p ≤ t) : min (wt tk cl (t + p) + atp tk (t + p)) (atp cl (t + p)) = min (wt tk cl t + atp tk t) (atp cl t) := by
  rw [atp_add tk t p ht, atp_add cl t p hc]
  by_cases st : ∃ s, p ≤ s ∧ s ≤ t ∧ wt tk cl s + atp tk s ≤ atp cl s ∧ s < 2 * p
  · obtain ⟨s, h1, h2, h3, h4⟩ := st
    obtain ⟨r, rfl⟩ : ∃ r, s = r + p := ⟨s - p, by omega⟩
    have u := wt_up (tk := tk) (cl := cl) ht hc r
    rw [atp_add tk r p ht, atp_add cl r p hc] at h3
    have e : wt tk cl (r + 1) = wt tk cl (r + 1 + p) := by
      rw [show r + 1 + p = (r + p) + 1 by omega, wt_succ, wt_succ, atp_add tk r p ht, atp_add cl r p hc]
      omega
    have := wt_same ht hc e t (by omega)
    rw [← this]
  · have full : ∀ k s, p ≤ s → s < 2 * p → s + k * p ≤ t → atp cl (s + k * p) ≤ wt tk cl (s + k * p) + atp tk (s + k * p) := by
      intro k
      induction k with
      | zero =>
        intro s h1 h2 h3
        by_cases q : wt tk cl s + atp tk s ≤ atp cl s
        · exact absurd ⟨s, h1, by omega, q, h2⟩ st
        · simp only [Nat.zero_mul, Nat.add_zero]
          omega
      | succ k ih =>
        intro s h1 h2 h3
        rw [Nat.succ_mul] at h3 ⊢
        have := ih s h1 h2 (by omega)
        have u := wt_up (tk := tk) (cl := cl) ht hc (s + k * p)
        rw [← Nat.add_assoc, atp_add tk _ p ht, atp_add cl _ p hc]
        omega
    have e : t = p + (t - p) % p + (t - p) / p * p := by
      have := Nat.mod_add_div (t - p) p
      rw [Nat.mul_comm] at this
      omega
    have f := full ((t - p) / p) (p + (t - p) % p) (by omega) (by have := Nat.mod_lt (t - p) hp; omega) (by omega)
    rw [← e] at f
    have u := wt_up (tk := tk) (cl := cl) ht hc t
    omega
theorem cal_per (hp : 0 < p) (ht : tk.length ∣ p) (hc : cl.length ∣ p) {t : Nat} (h : p ≤ t) : cal tk cl (t + p) + cal tk cl p = cal tk cl t + cal tk cl (2 * p) := by
  induction h with
  | refl => rw [show p + p = 2 * p by omega, Nat.add_comm]
  | @step t h ih =>
    rw [show t.succ + p = (t + p) + 1 by omega, Nat.succ_eq_add_one, cal_succ, cal_succ, now_same hp ht hc t h]
    omega
theorem cal_far (hp : 0 < p) (ht : tk.length ∣ p) (hc : cl.length ∣ p) {t : Nat} (h : p ≤ t) : ∀ k, cal tk cl (t + k * p) = cal tk cl t + k * (cal tk cl (2 * p) - cal tk cl p)
  | 0 => by simp
  | k + 1 => by
    have ih := cal_far hp ht hc h k
    have m := cal_mono (tk := tk) (cl := cl) (show p ≤ 2 * p by omega)
    have q := cal_per (tk := tk) (cl := cl) hp ht hc (t := t + k * p) (by omega)
    rw [Nat.succ_mul, Nat.succ_mul, ← Nat.add_assoc]
    omega
/-- what the program reckons -/
theorem cal_is (hp : 0 < p) (ht : tk.length ∣ p) (hc : cl.length ∣ p) (t : Nat) : cal tk cl t = (t / p - 1) * (cal tk cl (2 * p) - cal tk cl p) + cal tk cl (t - (t / p - 1) * p) := by
  rcases Nat.eq_zero_or_pos (t / p - 1) with e | e
  · rw [e]
    simp
  · have h1 : t / p * p ≤ t := Nat.div_mul_le_self t p
    have h2 : (t / p - 1) * p + p = t / p * p := by
      rw [Nat.sub_mul, Nat.one_mul]
      have : p ≤ t / p * p := Nat.le_mul_of_pos_left p (by omega)
      omega
    have q := cal_far (tk := tk) (cl := cl) hp ht hc (t := t - (t / p - 1) * p) (by omega) (t / p - 1)
    rw [show t - (t / p - 1) * p + (t / p - 1) * p = t by omega] at q
    rw [q]
    exact Nat.add_comm _ _
theorem rest_lt (hp : 0 < p) (t : Nat) : t - (t / p - 1) * p < 2 * p := by
  have h := Nat.mod_add_div t p
  have m := Nat.mod_lt t hp
  rcases Nat.eq_zero_or_pos (t / p) with e | e
  · rw [e] at h ⊢
    omega
  · obtain ⟨k, hk⟩ : ∃ k, t / p = k + 1 := ⟨t / p - 1, by omega⟩
    rw [hk] at h ⊢
    rw [Nat.mul_comm, Nat.succ_mul] at h
    simp only [Nat.add_sub_cancel]
    omega
theorem take_sum (tk : List Nat) : ∀ i, i ≤ tk.length → tak tk i = (tk.take i).sum
  | 0, _ => by simp [tak]
  | i + 1, h => by
    show tak tk i + atp tk i = _
    rw [take_sum tk i (by omega)]
    unfold atp
    rw [Nat.mod_eq_of_lt (by omega), List.getD_eq_getElem?_getD, List.getElem?_eq_getElem (by omega)]
    have e : tk.take (i + 1) = tk.take i ++ [tk[i]] := by simp
    rw [e, List.sum_append]
    simp
theorem tak_mul (tk : List Nat) : ∀ q r, tak tk (r + q * tk.length) = q * tk.sum + tak tk r
  | 0, r => by simp
  | q + 1, r => by
    rw [Nat.succ_mul, ← Nat.add_assoc, tak_add tk.length (Nat.dvd_refl _), tak_mul tk q r, take_sum tk tk.length (Nat.le_refl _), List.take_length, Nat.succ_mul]
    omega
theorem tak_is (tk : List Nat) (h : 0 < tk.length) (t : Nat) : tak tk t = t / tk.length * tk.sum + (tk.take (t % tk.length)).sum := by
  rw [← take_sum tk (t % tk.length) (Nat.le_of_lt (Nat.mod_lt t h)), ← tak_mul tk (t / tk.length)]
  congr 1
  have := Nat.mod_add_div t tk.length
  rw [Nat.mul_comm] at this
  omega
theorem per_tk : tk.length ∣ per tk cl := Nat.dvd_lcm_left _ _
theorem per_cl : cl.length ∣ per tk cl := Nat.dvd_lcm_right _ _
theorem per_pos (h1 : 0 < tk.length) (h2 : 0 < cl.length) : 0 < per tk cl := Nat.lcm_pos h1 h2
theorem per_le : per tk cl ≤ tk.length * cl.length := by
  unfold per Nat.lcm
  exact Nat.div_le_self _ _
theorem atp_le {ps : List Nat} (h9 : ∀ x ∈ ps, x ≤ 9) (t : Nat) : atp ps t ≤ 9 := by
  unfold atp
  rw [List.getD_eq_getElem?_getD]
  cases e : ps[t % ps.length]? with
  | none => simp
  | some x =>
    simp only [Option.getD_some]
    exact h9 x (List.mem_of_getElem? e)
theorem tak_le {tk : List Nat} (h9 : ∀ x ∈ tk, x ≤ 9) : ∀ t, tak tk t ≤ 9 * t
  | 0 => Nat.le_refl _
  | t + 1 => by
    have h1 := tak_le h9 t
    have h2 := atp_le h9 t
    show tak tk t + atp tk t ≤ 9 * (t + 1)
    omega
end
end Mm

/-! ### The checks of arguments -/
namespace Tk
open PySem PySem.Spec PyProof.Rows L2
/-- values of the kinds that are passed -/
inductive Arg (H : Hp) : V → Prop where
  | non : Arg H .non
  | bl (b : Bool) : Arg H (.bl b)
  | int (i : Int) : Arg H (.int i)
  | str (x : Str) : Arg H (.str x)
  | lst {a : Addr} {xs : List V} (e : H a = some (.lst xs)) : Arg H (.ref a)
  | tup {a : Addr} {xs : List V} (e : H a = some (.tup xs)) : Arg H (.ref a)
def isInt : V → Bool
  | .int _ => true
  | _ => false
def inB (lo hi : Int) : V → Bool
  | .int i => decide (lo ≤ i) && decide (i ≤ hi)
  | _ => false
def spWithin : Sp := fun vs H Q _ => ∃ (v : V) (lo hi : Int), vs = [v, .int lo, .int hi] ∧ Arg H v ∧ Q (.bl (inB lo hi v)) H
section
variable {P : Program} {w : World} {K : PySem.W.Frag} {mg : Str → Option Value} {base : Heap}
theorem boot_ty_bool : bootBuiltins "bool" = some (.type "bool") := by decide +kernel
theorem boot_ty_int : bootBuiltins "int" = some (.type "int") := by decide +kernel
theorem boot_ty_str : bootBuiltins "str" = some (.type "str") := by decide +kernel
theorem boot_ty_tuple : bootBuiltins "tuple" = some (.type "tuple") := by decide +kernel
theorem boot_ty_list : bootBuiltins "list" = some (.type "list") := by decide +kernel
theorem kit_at {a b : String} {r : Bool} (h : kitB a b = some r) : PySem.W.kitOne K (.type a) (.type b) = some r := kit_ty h
/-- the type of such a value and what isinstance says of five classes -/
theorem Arg.ty {H : Hp} {v : V} (h : Arg H v) : ∃ n : String, TyX K H v (.type n) ∧ (∃ b, kitB n "bool" = some b ∧ (b = true ↔ ∃ x, v = .bl x)) ∧ (∃ b, kitB n "int" = some b ∧ (b = true ↔ ((∃ x, v = .bl x) ∨ ∃ i, v = .int i))) := by
  cases h with
  | non => exact ⟨_, .base .non, ⟨false, by decide +kernel, by simp⟩, ⟨false, by decide +kernel, by simp⟩⟩
  | bl b => exact ⟨_, .base (.bl b), ⟨true, by decide +kernel, by simp⟩, ⟨true, by decide +kernel, by simp⟩⟩
  | int i => exact ⟨_, .base (.int i), ⟨false, by decide +kernel, by simp⟩, ⟨true, by decide +kernel, by simp⟩⟩
  | str x => exact ⟨_, .base (.str x), ⟨false, by decide +kernel, by simp⟩, ⟨false, by decide +kernel, by simp⟩⟩
  | lst e => exact ⟨_, .base (.lst e), ⟨false, by decide +kernel, by simp⟩, ⟨false, by decide +kernel, by simp⟩⟩
  | tup e => exact ⟨_, .base (.tup e), ⟨false, by decide +kernel, by simp⟩, ⟨false, by decide +kernel, by simp⟩⟩
theorem ok_is_integer_within (T : Txt K mg) : OkF P w K mg base 1 (He.ga K "is_integer_within") ["value", "low", "high"] spWithin := by
  refine FnP.okF T.f_is_integer_within sc_is_integer_within (fun _ _ _ _ _ _ us hl => match us, hl with | [_, _, _], _ => rfl) (fun vs H Q E h => ?_) (fun cdv A outer s H vs Q E hr h => ?_)
  · obtain ⟨v, lo, hi, rfl, _⟩ := h
    rfl
  obtain ⟨v, lo, hi, rfl, hv, k⟩ := h
  refine ⟨_, (pss_cons (ps_if (PW.pt (pw_or (pt_val (pe_callB (isiK (K := K)) (by rfl) T.g_isinstance (by decide +kernel) (pa_cons (pv 0) (pa_cons (pe_bltn (v := .ty "bool") (by rfl) T.g_bool boot_ty_bool rfl) pa_nil)))) (pw_or1 (pt_not (pt_val (pe_callB (isiK (K := K)) (by rfl) T.g_isinstance (by decide +kernel) (pa_cons (pv 0) (pa_cons (pe_bltn (v := .ty "int") (by rfl) T.g_int boot_ty_int rfl) pa_nil)))))))) (pss_one (ps_ret pe_bl)) pss_nil)
    (pss_one (ps_ret (pe_chain op_le op_le (pv 1) (pv 0) (pv 2))))), ?_⟩
  obtain ⟨n, ty, ⟨b1, k1, e1⟩, ⟨b2, k2, e2⟩⟩ := Arg.ty (K := K) hv
  refine ⟨_, rfl, v, .ty "bool", _, _, b1, rfl, .ty "bool", ty, kit_at k1, b1, rfl, ?_⟩
  cases b1 with
  | true =>
    obtain ⟨x, rfl⟩ := e1.mp rfl
    exact k
  | false =>
    refine ⟨_, rfl, v, .ty "int", _, _, b2, rfl, .ty "int", ty, kit_at k2, b2, rfl, ?_⟩
    cases b2 with
    | false =>
      have no : inB lo hi v = false := by
        cases v with
        | int i => exact absurd (e2.mpr (.inr ⟨i, rfl⟩)) (by simp)
        | _ => rfl
      rw [no] at k
      exact k
    | true =>
      rcases e2.mp rfl with ⟨x, rfl⟩ | ⟨i, rfl⟩
      · exact absurd (e1.mpr ⟨x, rfl⟩) (by simp)
      · refine ⟨_, rfl, _, rfl, _, _, rfl, rfl, _, rfl, ?_⟩
        refine ite2 (fun c => ?_) (fun c => ?_)
        · refine ⟨_, rfl, _, _, rfl, rfl, ?_⟩
          have c1 : decide (lo ≤ i) = true := c
          show Q (V.bl (decide (i ≤ hi))) H
          have k' : Q (V.bl (decide (lo ≤ i) && decide (i ≤ hi))) H := k
          rw [c1, Bool.true_and] at k'
          exact k'
        · have c1 : decide (lo ≤ i) = false := by
            cases q : decide (lo ≤ i) with
            | true => exact absurd q c
            | false => rfl
          have k' : Q (V.bl (decide (lo ≤ i) && decide (i ≤ hi))) H := k
          rw [c1, Bool.false_and] at k'
          exact k'
end
end Tk

/-! ### for i, x in enumerate(a tuple) -/
namespace Tk
open PySem PySem.Spec PyProof.Rows L2
set_option maxHeartbeats 1000000 in
theorem meets_enum1 {v : Value} {o : Obj} {Hs : Heap → Prop} (B : Begins v o Hs) : Meets (Builtin.«enumerate.__new__» ⟨[.type "enumerate", v], []⟩) (fun _ R s => Hs s.heap ∧
    R (.ok (.ret (.ref (s.heap.push o).objs.size))) { s with heap := (s.heap.push o).push { cls := .type "enumerate", data := .fields #[.none, .bool false, .ref s.heap.objs.size, rawInt 0, .none, .none] } }) :=
  .of_wp fun prog w A R s h => by
    obtain ⟨hp, g, d, tk, os⟩ := s
    obtain ⟨b0, b1⟩ := h
    have us := sub_enumerate
    have step : ∀ {A' : Around} {E : Value → Shared → Prop} {Q : Value → Shared → Prop}, Q (.ref hp.objs.size) ⟨hp.push o, g, d, tk, os⟩ → wpAny (model prog w) A' (pyIter v) Q E ⟨hp, g, d, tk, os⟩ :=
      fun z => B.iter prog w _ _ ⟨hp, g, d, tk, os⟩ _ b0 z
    wp_walk using step
    refine wpAny_stack_any fun st => wpAny_pure ?_
    split
    · rename_i c _ _ _ _ _
      cases (c == Value.type "enumerate") <;> (wp_walk using step; exact ⟨_, rfl, b1⟩)
    · wp_walk using step
      exact ⟨_, rfl, b1⟩
theorem enum_of_tuple {prog : Program} {w : World} {A : Around} {E : Value → Shared → Prop} {s : Shared} {t : Addr} {items : Array Value} {Q : Value → Shared → Prop} (ht : s.heap.IsTuple t items)
    (h : ∀ h', IsEnum h' (s.heap.objs.size + 1) s.heap.objs.size 0 .none → h'.IsTupleIter s.heap.objs.size t 0 → (∀ b o, s.heap.get? b = some o → h'.get? b = some o) → Q (.ref (s.heap.objs.size + 1)) { s with heap := h' }) :
    wpAny (model prog w) A (call (.type "enumerate") [.ref t]) Q E s := by
  refine callType_new F.called_enumerate (by decide) (F.typeCall_enumerate_1 _) (F.newCall_enumerate_1 _) (fun obj => F.args_object_init_2 obj _) F.entry_enumerate_new (meets_enum1 (begins_tuple t items)) ⟨ht, ?_⟩
  have z : (s.heap.push { cls := .type "tuple_iterator", data := .fields #[.ref t, .int 0 0] }).objs.size = s.heap.objs.size + 1 := Heap.size_push ..
  have e2 := Heap.get?_push_size (s.heap.push { cls := .type "tuple_iterator", data := .fields #[.ref t, .int 0 0] }) (o := { cls := .type "enumerate", data := .fields #[.none, .bool false, .ref s.heap.objs.size, rawInt 0, .none, .none] }) rfl
  show _ ∧ _
  rw [z] at e2 ⊢
  exact ⟨⟨_, e2, rfl⟩, h _ e2 ⟨_, Heap.get?_push_of_some _ (Heap.get?_push_size _ rfl), rfl, rfl⟩ fun b o x => Heap.get?_push_of_some _ (Heap.get?_push_of_some _ x)⟩
/-- the tuple at a, each item in a new pair -/
def Itu (K : PySem.W.Frag) (a : Addr) : It :=
  ⟨fun i H => ∃ (xs : List V) (x : V), SqT K H a xs ∧ xs[i]? = some x, fun i H v H' => ∃ T x, v = .ref T ∧ H T = none ∧ H' = upd H T (.tup [vnI i, x]) ∧ ∀ xs, SqT K H a xs → xs[i]? = some x, fun i H => ∃ xs : List V, SqT K H a xs ∧ xs.length ≤ i⟩
/-- an iterator at a tuple's end -/
theorem draws_end {prog : Program} {w : World} {A : Around} (hh : A.handled = none) (it t : Addr) (i : Nat) (items : Array Value) (hx : items[i]? = none) :
    Draws prog w A it [it, t] i (fun _ _ => False) (fun j h => j = i ∧ h.IsTupleIter it t i ∧ h.IsTuple t items) where
  live := fun _ _ st => let ⟨_, ⟨o, ho, _⟩, _⟩ := st; ⟨o, ho⟩
  frame := fun _ _ _ st hk => by
    obtain ⟨e, ⟨o, ho, r⟩, o2, ho2, r2⟩ := st
    exact ⟨e, ⟨o, hk it (by simp) o ho, r⟩, o2, hk t (by simp) o2 ho2, r2⟩
  item := fun j s Q E hj st _ => absurd st.1 (by omega)
  done := fun s Q E st hE => wpAny_nextOf_tuple_end hh st.2.1 st.2.2 hx hE
theorem turn_enumT {P : Program} {w : World} {K : PySem.W.Frag} {elts : List Expr} {kk : Nat} {tpos : Pos} (a e it : Addr) (h1 : e ≠ it) (h2 : a ≠ it) (h3 : a ≠ e) :
    Turn P w K (.Tuple elts kk tpos) (Itu K a) [e, it] e (fun i h => (∃ old, IsEnum h e it ((i : Nat) : Int) old) ∧ h.IsTupleIter it a i) where
  mem := List.mem_cons_self
  obj := fun i h st b hb => by
    obtain ⟨⟨old, he⟩, o, ho, hc, hd⟩ := st
    rcases List.mem_cons.mp hb with z | z
    · rw [z]
      exact ⟨_, he, fun v q => nomatch q⟩
    · exact ⟨o, by rw [List.mem_singleton.mp z]; exact ho, fun v q => by rw [hd] at q; cases q⟩
  keep := fun i h h' st k => by
    obtain ⟨⟨old, he⟩, o, ho, r⟩ := st
    exact ⟨⟨old, k e (by simp) _ he⟩, o, k it (by simp) o ho, r⟩
  item := by
    intro X hP hw hK hc i pins s σ H E I hf st hg
    subst hP hw hK
    obtain ⟨⟨old, he⟩, hit⟩ := st
    obtain ⟨xs, x, hq, hx⟩ := hg
    obtain ⟨its, rv, p, hz⟩ := I.tuple hq
    obtain ⟨u, hu, ru⟩ := rv.get hx
    have le : e < s.heap.objs.size := Heap.lt_size he
    have li : it < s.heap.objs.size := by
      obtain ⟨_, q, _⟩ := hit
      exact Heap.lt_size q
    have hi : i < its.toArray.size := by
      have := (List.getElem?_eq_some_iff.mp hu).1
      simpa using this
    refine wpAny_pyNext_enum_itemD (Draws.tuple (A := X.A.in1) (I.ok.hd hc) it a h2 its.toArray) he ⟨hit, istup_old p⟩ hi h1 (by simp [h1, h3.symm]) fun y h' tk hy ho hs hT hsz hk => ?_
    have ey : y = u := by
      have q : its[i]? = some y := by simpa using hy
      rw [hu] at q
      exact (Option.some.inj q).symm
    subst ey
    refine ⟨_, rfl, wpAny_letOwnedTupleGo_enum (s := { s with heap := h', toks := tk + 1 }) ho fun h2' he2 sb => ?_⟩
    have T2 : h2'.get? s.heap.objs.size = some { cls := .type "tuple", data := .seq #[.int i tk, y] } := (sb.2 _ (Nat.ne_of_gt le)).trans hT
    have I1 := I.turnedNew (t' := tk + 1) (ch := [e, it]) (h' := h2') (T := s.heap.objs.size) (ob := .tup [vnI i, x]) (fun b ob hb q => (sb.2 b (fun z => hb (by simp [z]))).trans (hk b ob (fun z => hb (by simp [z])) (fun z => hb (by simp [z])) q)) hf (Nat.le_refl _)
      ⟨by show 2 ≤ sizeLine; decide, [.int i tk, y], .cons ⟨_, rfl⟩ (.cons ru .nil), ⟨_, T2, rfl, _, rfl⟩⟩
    refine ⟨.ref s.heap.objs.size, _, I1, rfl, ⟨_, x, rfl, I.hok.fresh (Nat.le_refl _), rfl, fun ys hy2 => by rw [I.tuple_inj hy2 hq]; exact hx⟩, ⟨⟨y, ?_⟩, ?_⟩, fun b hb => ?_⟩
    · rw [show ((i + 1 : Nat) : Int) = (i : Int) + 1 by omega]
      exact he2
    · obtain ⟨⟨o, ho2, r⟩, _⟩ := hs
      exact ⟨o, (sb.2 it h1.symm).trans ho2, r⟩
    · have lb : b < s.heap.objs.size := by
        rcases List.mem_cons.mp hb with z | z
        · rw [z]; exact le
        · rw [List.mem_singleton.mp z]; exact li
      rw [upd_ne (Nat.ne_of_lt lb)]
      exact (hf b hb).1
  done := by
    intro X hP hw hK hc i pins s σ H E I hf st hg
    subst hP hw hK
    obtain ⟨⟨old, he⟩, hit⟩ := st
    obtain ⟨xs, hq, hx⟩ := hg
    obtain ⟨its, rv, p, hz⟩ := I.tuple hq
    have hl := rv.length
    refine wpAny_pyNext_enum_endD (draws_end (A := X.A.in1) (I.ok.hd hc) it a i its.toArray (by simp; omega)) he ⟨rfl, hit, istup_old p⟩ fun h' q => ⟨rfl, ?_⟩
    exact I.turnedL (t' := s.toks) (ch := [it]) (fun b o hb r => q b o (fun z => hb (by simp [z])) r) fun b hb => hf b (by rw [List.mem_singleton.mp hb]; simp)
  self := fun A i s Q E st h => by
    obtain ⟨⟨_, he⟩, _⟩ := st
    exact wpAny_pyIter_enum he h
def iEnumT (K : PySem.W.Frag) (ta : TA) : TI := fun σ H R => ta σ H fun vs H1 => ∃ a xs, vs = [.ref a] ∧ SqT K H1 a xs ∧ R (Itu K a) H1
theorem pi_enumT {X : Cx} {e : Expr} {ta : TA} {p pos tpos : Pos} {elts : List Expr} {kk : Nat} (hg : Gl X "enumerate") (hm : X.mg "enumerate" = none) (ha : PA X [e] ta) (hs : starEach [e] X.env = [(false, eval e X.env)] := by rfl) :
    PI X (.Tuple elts kk tpos) (.Call (.Name "enumerate" p) [e] [] pos) (iEnumT X.K ta) := by
  refine ⟨fun pins s σ H R I h => Call_ (ld_blt I hg hm boot_enumerate (PyProof.Rows.callWith_type1 (thn (ha.run pos pins s σ H _ I h) fun us s1 ⟨vs, H1, I1, r1, q1⟩ => ?_) hs rfl))⟩
  obtain ⟨a, xs, rfl, hq, q⟩ := q1
  cases r1 with
  | cons r rr =>
    cases rr
    cases r
    obtain ⟨its, rv, p', hz⟩ := I1.tuple hq
    have la : a < s1.heap.objs.size := p'.lt
    refine enum_of_tuple (istup_old p') fun h' he hit hk => wpAny_pyIter_enum he ?_
    refine ⟨s1.heap.objs.size + 1, [s1.heap.objs.size + 1, s1.heap.objs.size], _, _, H1, rfl, I1.kept (t' := s1.toks) hk, turn_enumT a (s1.heap.objs.size + 1) s1.heap.objs.size (Nat.succ_ne_self _) (Nat.ne_of_lt la) (Nat.ne_of_lt (Nat.lt_succ_of_lt la)), ⟨⟨.none, he⟩, hit⟩, fun b hb => ?_, q⟩
    have hle : s1.heap.objs.size ≤ b := by
      rcases List.mem_cons.mp hb with z | z
      · rw [z]; exact Nat.le_succ _
      · rw [List.mem_singleton.mp z]; exact Nat.le_refl _
    exact I1.fpOk hle (I1.hok.fresh hle)
/-- its loop -/
theorem for_enumT {K : PySem.W.Frag} {a : Addr} {xs : List V} {g : TG} {tb : TS} {D : Ends} {σ : L2.St} {H : Hp} (Pv : Nat → L2.St → Hp → Prop) (h0 : Pv 0 σ H) (hl : ∀ i σ H, i ≤ xs.length → Pv i σ H → SqT K H a xs)
    (hs : ∀ i x σ H, xs[i]? = some x → Pv i σ H → ∀ T, H T = none → g (.ref T) σ (upd H T (.tup [vnI i, x])) fun σ2 H2 => tb { D with nx := Pv (i + 1), ct := Pv (i + 1), bk := D.nx } σ2 H2) (hd : ∀ σ H, Pv xs.length σ H → D.nx σ H) :
    ∃ W : Nat → Nat → L2.St → Hp → Prop, (∃ m, W 0 m σ H) ∧ ∀ i m σ H, W i m σ H →
      ((Itu K a).stop i H ∧ D.nx σ H) ∨ ((Itu K a).go i H ∧ ∃ N : L2.St → Hp → Prop, (∀ σ' H', N σ' H' → ∃ m', m' < m ∧ W (i + 1) m' σ' H') ∧ ∀ x H', (Itu K a).yld i H x H' → g x σ H' fun σ2 H2 => tb { D with nx := N, ct := N, bk := D.nx } σ2 H2) := by
  refine ⟨fun i m σ H => m = xs.length - i ∧ i ≤ xs.length ∧ Pv i σ H, ⟨_, rfl, Nat.zero_le _, h0⟩, fun i m σ H w => ?_⟩
  obtain ⟨rfl, hi, p⟩ := w
  have sq := hl i σ H hi p
  rcases Nat.lt_or_ge i xs.length with lt | ge
  · have at_ : xs[i]? = some xs[i] := by simp [lt]
    refine .inr ⟨⟨xs, xs[i], sq, at_⟩, Pv (i + 1), fun σ' H' p' => ⟨_, (by omega : xs.length - (i + 1) < xs.length - i), rfl, lt, p'⟩, fun x H' y => ?_⟩
    obtain ⟨T, x', rfl, hT, rfl, hx⟩ := y
    exact hs i x' σ H (hx xs sq) p T hT
  · obtain rfl : i = xs.length := by omega
    exact .inl ⟨⟨xs, sq, Nat.le_refl _⟩, hd σ H p⟩
end Tk

/-! ### The checks, of what is valid -/
namespace Tk
open PySem PySem.Spec PyProof.Rows L2
def spTick : Sp := fun vs H Q _ => ∃ t : Int, vs = [.int t] ∧ 0 ≤ t ∧ t ≤ 1000000000000000000 ∧ Q .non H
def spFii : Sp := fun vs H Q _ => ∃ (p : Addr) (ps : List Nat), vs = [.ref p] ∧ H p = some (.tup (ps.map vn)) ∧ Pat ps ∧ ∀ H', Same H H' → Q .non H'
def spChk : Sp := fun vs H Q _ => ∃ (v : V) (p : Addr) (ps : List Nat), vs = [v, .ref p] ∧ H p = some (.tup (ps.map vn)) ∧ Pat ps ∧ ∀ H', Same H H' → Q .non H'
def spChall : Sp := fun vs H Q _ => ∃ (tp cp : Addr) (m lt : Nat) (tk cl : List Nat), vs = [vn m, .ref tp, .ref cp, vn lt] ∧ H tp = some (.tup (tk.map vn)) ∧ H cp = some (.tup (cl.map vn)) ∧ Parts m tk cl lt ∧ ∀ H', Same H H' → Q .non H'
theorem inB_in {lo hi i : Int} (h1 : lo ≤ i) (h2 : i ≤ hi) : inB lo hi (.int i) = true := by
  show (decide (lo ≤ i) && decide (i ≤ hi)) = true
  rw [decide_eq_true h1, decide_eq_true h2]
  rfl
theorem Same.upd2 {H : Hp} {a : Addr} {o : HO} (h : H a = none) {H0 : Hp} (s : Same H0 H) : Same H0 (upd H a o) := s.trans (Same.new h)
section
variable {P : Program} {w : World} {K : PySem.W.Frag} {mg : Str → Option Value} {base : Heap}
theorem ok_check_tick (T : Txt K mg) : OkF P w K mg base 2 (He.ga K "check_tick") ["tick"] spTick := by
  have G_is_integer_within : OkF P w K mg base 1 (He.ga K "is_integer_within") ["value", "low", "high"] spWithin := ok_is_integer_within T
  refine FnP.okF T.f_check_tick sc_check_tick (fun _ _ _ _ _ _ us hl => match us, hl with | [_], _ => rfl) (fun vs H Q E h => ?_) (fun cdv A outer s H vs Q E hr h => ?_)
  · obtain ⟨t, rfl, _⟩ := h
    rfl
  obtain ⟨t, rfl, t0, t1, k⟩ := h
  refine ⟨_, (pss_one (ps_if (pt_not (pt_val (pe_call G_is_integer_within.one (hr.mono (by decide)) (by rfl) T.g_is_integer_within G_is_integer_within.kp G_is_integer_within.two .nil passL (pa_cons (pv 0) (pa_cons pe_int (pa_cons (pe_gint (by rfl) T.c_LAST_TICK) pa_nil)))))) (pss_one ps_never) pss_nil)), ?_⟩
  refine ⟨_, rfl, .int t, 0, 1000000000000000000, rfl, .int t, true, by rw [inB_in t0 t1], ?_⟩
  exact k
theorem ok_first_invalid_item (T : Txt K mg) : OkF P w K mg base 2 (He.ga K "first_invalid_item") ["pattern"] spFii := by
  have G_is_integer_within : OkF P w K mg base 1 (He.ga K "is_integer_within") ["value", "low", "high"] spWithin := ok_is_integer_within T
  refine FnP.okF T.f_first_invalid_item sc_first_invalid_item (fun _ _ _ _ _ _ us hl => match us, hl with | [_], _ => rfl) (fun vs H Q E h => ?_) (fun cdv A outer s H vs Q E hr h => ?_)
  · obtain ⟨p, ps, rfl, _⟩ := h
    rfl
  obtain ⟨p, ps, rfl, hp, hP, k⟩ := h
  refine ⟨_, (pss_cons (ps_if (PW.pt (pw_or (pt_not (pt_val (pe_callB (isiK (K := K)) (by rfl) T.g_isinstance (by decide +kernel) (pa_cons (pv 0) (pa_cons (pe_bltn (v := .ty "tuple") (by rfl) T.g_tuple boot_ty_tuple rfl) pa_nil))))) (pw_or1 (pt_cmpR op_eq (pe_callB (lenK (K := K)) (by rfl) T.g_len (by decide +kernel) (pa_cons (pv 0) pa_nil)) pe_int (nomark _))))) (pss_one (ps_ret pe_int)) pss_nil)
    (pss_cons (ps_for own_cx rfl (pi_enumT (by rfl) T.g_enumerate (pa_cons (pv 0) pa_nil)) (pg_tup rfl (pgs_cons (pg_name (i := 1) sc_first_invalid_item.nd rfl (Or.inl rfl)) (pgs_cons (pg_name (i := 2) sc_first_invalid_item.nd rfl (Or.inl rfl)) pgs_nil)))
      (pss_one (ps_if (PW.pt (pw_or (pt_cmpR op_eq (pv 1) (pe_gint (by rfl) T.c_MOST_ITEMS) (nomark _)) (pw_or1 (pt_not (pt_val (pe_call G_is_integer_within.one (hr.mono (by decide)) (by rfl) T.g_is_integer_within G_is_integer_within.kp G_is_integer_within.two .nil passL (pa_cons (pv 2) (pa_cons pe_int (pa_cons (pe_gint (by rfl) T.c_GREATEST_ITEM) pa_nil))))))))) (pss_one (ps_ret (pv 1))) pss_nil)))
    (pss_one (ps_ret pe_non)))), ?_⟩
  -- not a tuple, or empty
  refine ⟨_, rfl, .ref p, .ty "tuple", .type "tuple", _, true, rfl, .ty "tuple", .base (.tup hp), kit_at (by decide +kernel), true, rfl, ?_⟩
  refine ⟨_, rfl, p, _, rfl, .inr (SqT.of hp), rfl, _, rfl, ?_⟩
  refine ite2 (fun c => ?_) (fun _ => ?_)
  · exfalso
    have e : V.int ((ps.map vn).length : Int) = V.int 0 := of_decide_eq_true c
    have e2 : ((ps.map vn).length : Int) = 0 := by injection e
    rw [List.length_map] at e2
    have := hP.pos
    omega
  refine ⟨_, rfl, p, _, rfl, SqT.of hp, for_enumT (K := K) (a := p) (xs := ps.map vn) (fun i σ H2 => ∃ a b, σ = [some (.ref p), a, b] ∧ Same H H2) ⟨_, _, rfl, Same.refl H⟩
    (fun i σ H2 _ ⟨_, _, _, e⟩ => SqT.of (e _ _ hp)) ?_ ?_⟩
  · rintro i x σ H2 hx ⟨a, b, rfl, hS⟩ Tp hT
    have hi : i < ps.length := by
      have := (List.getElem?_eq_some_iff.mp hx).1
      rwa [List.length_map] at this
    obtain ⟨y, rfl, hy⟩ : ∃ y, x = vn y ∧ ps[i]? = some y := by
      rw [List.getElem?_map] at hx
      cases e : ps[i]? with
      | none => rw [e] at hx; cases hx
      | some u => rw [e] at hx; exact ⟨u, (Option.some.inj hx).symm, rfl⟩
    have y9 := hP.nine y (List.mem_of_getElem? hy)
    have hS2 : Same H (upd H2 Tp (.tup [vnI i, vn y])) := Same.upd2 hT hS
    refine ⟨Tp, _, rfl, SqT.of upd_same, rfl, _, _, rfl, _, _, rfl, rfl, ?_⟩
    refine ⟨_, rfl, rfl, _, rfl, ?_⟩
    refine ite2 (fun c => ?_) (fun _ => ?_)
    · exfalso
      have e : V.int (i : Int) = V.int 12 := of_decide_eq_true c
      have e2 : (i : Int) = 12 := by injection e
      have := hP.len
      omega
    refine ⟨_, rfl, vn y, 0, 9, rfl, .int _, true, by rw [inB_in (by omega) (by omega)], ?_⟩
    exact ⟨_, _, rfl, hS2⟩
  · rintro σ H2 ⟨a, b, rfl, hS⟩
    exact k H2 hS
theorem ok_check_pattern (T : Txt K mg) : OkF P w K mg base 3 (He.ga K "check_pattern") ["part", "pattern"] spChk := by
  have G_first_invalid_item : OkF P w K mg base 2 (He.ga K "first_invalid_item") ["pattern"] spFii := ok_first_invalid_item T
  refine FnP.okF T.f_check_pattern sc_check_pattern (fun _ _ _ _ _ _ us hl => match us, hl with | [_, _], _ => rfl) (fun vs H Q E h => ?_) (fun cdv A outer s H vs Q E hr h => ?_)
  · obtain ⟨v, p, ps, rfl, _⟩ := h
    rfl
  obtain ⟨v, p, ps, rfl, hp, hP, k⟩ := h
  refine ⟨_, (pss_cons (ps_set (i := 2) sc_check_pattern.nd rfl (Or.inl rfl) (pe_call G_first_invalid_item.one (hr.mono (by decide)) (by rfl) T.g_first_invalid_item G_first_invalid_item.kp G_first_invalid_item.two .nil passL (pa_cons (pv 1) pa_nil)))
    (pss_one (ps_if (pt_cmpR (show OpR _ (compareOp .IsNot) Rd.rNotN from op_notN) (pv 2) pe_non (nomark _)) (pss_one ps_never) pss_nil))), ?_⟩
  refine ⟨_, rfl, p, ps, rfl, hp, hP, fun H' hS => ?_⟩
  refine ⟨_, rfl, rfl, _, rfl, ?_⟩
  exact k H' hS
theorem ok_check_hall (T : Txt K mg) : OkF P w K mg base 4 (He.ga K "check_hall") ["modulus", "takes", "calls", "lateness"] spChall := by
  have G_is_integer_within : OkF P w K mg base 1 (He.ga K "is_integer_within") ["value", "low", "high"] spWithin := ok_is_integer_within T
  have G_check_pattern : OkF P w K mg base 3 (He.ga K "check_pattern") ["part", "pattern"] spChk := ok_check_pattern T
  refine FnP.okF T.f_check_hall sc_check_hall (fun _ _ _ _ _ _ us hl => match us, hl with | [_, _, _, _], _ => rfl) (fun vs H Q E h => ?_) (fun cdv A outer s H vs Q E hr h => ?_)
  · obtain ⟨tp, cp, m, lt, tk, cl, rfl, _⟩ := h
    rfl
  obtain ⟨tp, cp, m, lt, tk, cl, rfl, htp, hcp, hP, k⟩ := h
  refine ⟨_, (pss_cons (ps_if (pt_not (pt_val (pe_call G_is_integer_within.one (hr.mono (by decide)) (by rfl) T.g_is_integer_within G_is_integer_within.kp G_is_integer_within.two .nil passL (pa_cons (pv 0) (pa_cons (pe_gint (by rfl) T.c_LEAST_MODULUS) (pa_cons (pe_gint (by rfl) T.c_GREATEST_MODULUS) pa_nil)))))) (pss_one ps_never) pss_nil)
    (pss_cons (ps_expr (pe_call G_check_pattern.one (hr.mono (by decide)) (by rfl) T.g_check_pattern G_check_pattern.kp G_check_pattern.two .nil passL (pa_cons pe_str (pa_cons (pv 1) pa_nil))))
    (pss_cons (ps_expr (pe_call G_check_pattern.one (hr.mono (by decide)) (by rfl) T.g_check_pattern G_check_pattern.kp G_check_pattern.two .nil passL (pa_cons pe_str (pa_cons (pv 2) pa_nil))))
    (pss_one (ps_if (pt_not (pt_val (pe_call G_is_integer_within.one (hr.mono (by decide)) (by rfl) T.g_is_integer_within G_is_integer_within.kp G_is_integer_within.two .nil passL (pa_cons (pv 3) (pa_cons pe_int (pa_cons (pe_gint (by rfl) T.c_GREATEST_LATENESS) pa_nil)))))) (pss_one ps_never) pss_nil))))), ?_⟩
  have m2 := hP.m2
  have m4 := hP.m4
  have l9 := hP.l99
  refine ⟨_, rfl, vn m, 2, 10000, rfl, .int _, true, by rw [inB_in (by omega) (by omega)], ?_⟩
  refine ⟨_, rfl, _, tp, tk, rfl, htp, hP.tkP, fun H1 S1 => ?_⟩
  refine ⟨_, rfl, _, cp, cl, rfl, S1 _ _ hcp, hP.clP, fun H2 S2 => ?_⟩
  refine ⟨_, rfl, vn lt, 0, 99, rfl, .int _, true, by rw [inB_in (by omega) (by omega)], ?_⟩
  exact k H2 (S1.trans S2)
end
end Tk

/-! ### The hall -/
namespace Tk
open PySem PySem.Spec PyProof.Rows L2 Mm
def calV (tk cl : List Nat) (n : Nat) : List V := (List.range (n + 1)).map fun t => vn (cal tk cl t)
theorem calV_len {tk cl : List Nat} {n : Nat} : (calV tk cl n).length = n + 1 := by unfold calV; simp
theorem calV_at {tk cl : List Nat} {n t : Nat} (h : t ≤ n) : (calV tk cl n)[t]? = some (vn (cal tk cl t)) := by
  unfold calV
  rw [List.getElem?_map, List.getElem?_range (by omega)]
  rfl
theorem calV_succ {tk cl : List Nat} {n : Nat} : calV tk cl (n + 1) = calV tk cl n ++ [vn (cal tk cl (n + 1))] := by
  unfold calV
  rw [List.range_succ, List.map_append]
  rfl
theorem pat_at {ps : List Nat} (h : 0 < ps.length) {z : Int} {i : Nat} (e : z = (i : Int)) : atI (ps.map vn) (z % ((ps.map vn).length : Int)) = some (vn (atp ps i)) := by
  subst e
  rw [List.length_map, show (i : Int) % (ps.length : Int) = ((i % ps.length : Nat) : Int) from (Int.natCast_emod _ _).symm]
  refine atn ?_
  have lt := Nat.mod_lt i h
  rw [List.getElem?_map]
  unfold atp
  rw [List.getD_eq_getElem?_getD, List.getElem?_eq_getElem lt]
  rfl
def hfs (m : Nat) (tp cp : Addr) (lt : Nat) (lp : Addr) : List (Str × V) := putF "_called" (.ref lp) (putF "lateness" (vn lt) (putF "calls" (.ref cp) (putF "takes" (.ref tp) (putF "modulus" (vn m) []))))
theorem hfs_no {m : Nat} {tp cp : Addr} {lt : Nat} {lp : Addr} {x : Str} (h1 : ¬ x = "_called") (h2 : ¬ x = "lateness") (h3 : ¬ x = "calls") (h4 : ¬ x = "takes") (h5 : ¬ x = "modulus") : (hfs m tp cp lt lp).lookup x = none := by
  unfold hfs
  rw [lookup_putF, if_neg h1, lookup_putF, if_neg h2, lookup_putF, if_neg h3, lookup_putF, if_neg h4, lookup_putF, if_neg h5]
  rfl
theorem hfs_takes {m : Nat} {tp cp : Addr} {lt : Nat} {lp : Addr} : (hfs m tp cp lt lp).lookup ("takes" : Str) = some (.ref tp) := by
  unfold hfs
  rw [lookup_putF, if_neg (by decide +kernel), lookup_putF, if_neg (by decide +kernel), lookup_putF, if_neg (by decide +kernel), lookup_putF, if_pos rfl]
theorem hfs_calls {m : Nat} {tp cp : Addr} {lt : Nat} {lp : Addr} : (hfs m tp cp lt lp).lookup ("calls" : Str) = some (.ref cp) := by
  unfold hfs
  rw [lookup_putF, if_neg (by decide +kernel), lookup_putF, if_neg (by decide +kernel), lookup_putF, if_pos rfl]
theorem hfs_lateness {m : Nat} {tp cp : Addr} {lt : Nat} {lp : Addr} : (hfs m tp cp lt lp).lookup ("lateness" : Str) = some (vn lt) := by
  unfold hfs
  rw [lookup_putF, if_neg (by decide +kernel), lookup_putF, if_pos rfl]
theorem hfs_called {m : Nat} {tp cp : Addr} {lt : Nat} {lp : Addr} : (hfs m tp cp lt lp).lookup ("_called" : Str) = some (.ref lp) := by
  unfold hfs
  rw [lookup_putF, if_pos rfl]
theorem hfs_modulus {m : Nat} {tp cp : Addr} {lt : Nat} {lp : Addr} : (hfs m tp cp lt lp).lookup ("modulus" : Str) = some (vn m) := by
  unfold hfs
  rw [lookup_putF, if_neg (by decide +kernel), lookup_putF, if_neg (by decide +kernel), lookup_putF, if_neg (by decide +kernel), lookup_putF, if_neg (by decide +kernel), lookup_putF, if_pos rfl]
/-- a hall at h, its numbers of calls at lp -/
structure HallAt (C : Addr) (H : Hp) (h : Addr) (m : Nat) (tk cl : List Nat) (lt : Nat) (lp : Addr) : Prop where
  ex : ∃ dx tp cp, H h = some (.ins C dx (hfs m tp cp lt lp)) ∧ H tp = some (.tup (tk.map vn)) ∧ H cp = some (.tup (cl.map vn))
  lst : H lp = some (.lst (calV tk cl (2 * per tk cl)))
  ok : Parts m tk cl lt
theorem HallAt.but {C d h lp : Addr} {H H' : Hp} {m lt : Nat} {tk cl : List Nat} {cs : List V} (p : HallAt C H h m tk cl lt lp) (b : But d H H') (hd : H d = some (.lst cs)) (n : lp ≠ d) : HallAt C H' h m tk cl lt lp := by
  obtain ⟨dx, tp, cp, h1, h2, h3⟩ := p.ex
  exact ⟨⟨dx, tp, cp, b _ _ (ne_of h1 hd (fun q => by cases q)) h1, b _ _ (ne_of h2 hd (fun q => by cases q)) h2, b _ _ (ne_of h3 hd (fun q => by cases q)) h3⟩, b _ _ n p.lst, p.ok⟩
theorem HallAt.same {C h lp : Addr} {H H' : Hp} {m lt : Nat} {tk cl : List Nat} (p : HallAt C H h m tk cl lt lp) (b : Same H H') : HallAt C H' h m tk cl lt lp := by
  obtain ⟨dx, tp, cp, h1, h2, h3⟩ := p.ex
  exact ⟨⟨dx, tp, cp, b _ _ h1, b _ _ h2, b _ _ h3⟩, b _ _ p.lst, p.ok⟩
def spCount : Sp := fun vs H Q _ => ∃ (tp cp : Addr) (tk cl : List Nat) (n : Nat), vs = [.ref tp, .ref cp, vn n] ∧ H tp = some (.tup (tk.map vn)) ∧ H cp = some (.tup (cl.map vn)) ∧ Pat tk ∧ Pat cl ∧ n ≤ 1000 ∧
  ∀ l H', H l = none → Same H H' → H' l = some (.lst (calV tk cl n)) → Q (.ref l) H'
def spPeriod (C : Addr) : Sp := fun vs H Q _ => ∃ (h dx tp cp : Addr) (fs : List (Str × V)) (tk cl : List Nat), vs = [.ref h] ∧ H h = some (.ins C dx fs) ∧ fs.lookup ("takes" : Str) = some (.ref tp) ∧ fs.lookup ("calls" : Str) = some (.ref cp) ∧
  H tp = some (.tup (tk.map vn)) ∧ H cp = some (.tup (cl.map vn)) ∧ Pat tk ∧ Pat cl ∧ Q (vn (per tk cl)) H
def spInit (C : Addr) : Sp := fun vs H Q _ => ∃ (x dx tp cp : Addr) (m lt : Nat) (tk cl : List Nat), vs = [.ref x, vn m, .ref tp, .ref cp, vn lt] ∧ H x = some (.ins C dx []) ∧ H tp = some (.tup (tk.map vn)) ∧ H cp = some (.tup (cl.map vn)) ∧ Parts m tk cl lt ∧
  ∀ H' lp, But x H H' → H lp = none → HallAt C H' x m tk cl lt lp → Q .non H'
theorem per_144 {tk cl : List Nat} (h1 : Pat tk) (h2 : Pat cl) : per tk cl ≤ 144 := by
  have := per_le (tk := tk) (cl := cl)
  have a := Nat.mul_le_mul h1.len h2.len
  omega
theorem vn_int {z : Int} {n : Nat} (h : z = (n : Int)) : V.int z = vn n := by rw [h]
section
variable {P : Program} {w : World} {K : PySem.W.Frag} {mg : Str → Option Value} {base : Heap}
theorem ok_count_calls (T : Txt K mg) : OkF P w K mg base 1 (He.ga K "count_calls") ["takes", "calls", "ticks"] spCount := by
  refine FnP.okF T.f_count_calls sc_count_calls (fun _ _ _ _ _ _ us hl => match us, hl with | [_, _, _], _ => rfl) (fun vs H Q E h => ?_) (fun cdv A outer s H vs Q E hr h => ?_)
  · obtain ⟨tp, cp, tk, cl, n, rfl, _⟩ := h
    rfl
  obtain ⟨tp, cp, tk, cl, n, rfl, htp, hcp, hT, hC, hn, k⟩ := h
  refine ⟨_, (pss_cons (ps_set (i := 3) sc_count_calls.nd rfl (Or.inl rfl) (pe_lst (pa_cons pe_int pa_nil)))
    (pss_cons (ps_set (i := 4) sc_count_calls.nd rfl (Or.inl rfl) pe_int)
    (pss_cons (ps_for own_cx rfl (pi_range1 (by rfl) T.g_range (pa_cons (pv 2) pa_nil)) (pg_name (i := 5) sc_count_calls.nd rfl (Or.inl rfl))
      (pss_cons (ps_aug (i := 4) sc_count_calls.nd rfl (Or.inl rfl) (pe_ix (ixTK (K := K)) (pv 0) (pe_op op_mod (pv 5) (pe_callB (lenK (K := K)) (by rfl) T.g_len (by decide +kernel) (pa_cons (pv 0) pa_nil))) (fun _ _ => rfl)) ip_add)
    (pss_cons (ps_set (i := 6) sc_count_calls.nd rfl (Or.inl rfl) (pe_callB (show CallR _ (.builtin "min") Rd.rMin2 from call_min2 (by rfl)) (by rfl) T.g_min (by decide +kernel) (pa_cons (pv 4) (pa_cons (pe_ix (ixTK (K := K)) (pv 1) (pe_op op_mod (pv 5) (pe_callB (lenK (K := K)) (by rfl) T.g_len (by decide +kernel) (pa_cons (pv 1) pa_nil))) (fun _ _ => rfl)) pa_nil))))
    (pss_cons (ps_aug (i := 4) sc_count_calls.nd rfl (Or.inl rfl) (pv 6) ip_sub)
    (pss_one (ps_expr (pe_bm PySem.F.plainAttrs_list PySem.F.slot_list_append PySem.F.type_list_append mt_append (pv 3) (pa_cons (pe_op op_add (pe_ix (ixLK (K := K)) (pv 3) (pv 5) (fun _ _ => rfl)) (pv 6)) pa_nil))))))))
    (pss_one (ps_ret (pv 3)))))), ?_⟩
  refine ⟨(by show 1 ≤ sizeLine; decide), fun l hl => ?_⟩
  have nl : ∀ {q : Addr} {o : HO}, H q = some o → q ≠ l := fun e => ne_of_none e hl
  refine ⟨_, rfl, (n : Int), rfl, by omega, by omega, for_range (lo := 0) (n := ((n : Int)).toNat) (fun i σ H2 => ∃ a b, σ = [some (.ref tp), some (.ref cp), some (vn n), some (.ref l), some (vn (wt tk cl i)), a, b] ∧ H2 = upd H l (.lst (calV tk cl i)))
    ⟨_, _, rfl, rfl⟩ ?_ ?_⟩
  · rintro i σ H2 hi ⟨a, b, rfl, rfl⟩
    have hi2 : i < n := by simpa using hi
    have t1 : upd H l (.lst (calV tk cl i)) tp = some (.tup (tk.map vn)) := by rw [upd_ne (nl htp)]; exact htp
    have t2 : upd H l (.lst (calV tk cl i)) cp = some (.tup (cl.map vn)) := by rw [upd_ne (nl hcp)]; exact hcp
    have L1 := hT.pos
    have L2 := hC.pos
    -- waiting += takes[tick % len(takes)]
    refine ⟨_, rfl, _, rfl, _, rfl, _, rfl, tp, _, rfl, .inr (SqT.of t1), _, _, rfl, rfl, (by show (0 : Int) < ((tk.map vn).length : Int); rw [List.length_map]; omega), tp, _, _, _, rfl, rfl, SqT.of t1, pat_at L1 (Int.zero_add _), _, _, rfl, rfl, ?_⟩
    -- now = min(waiting, calls[tick % len(calls)])
    refine ⟨_, rfl, _, rfl, _, rfl, _, rfl, cp, _, rfl, .inr (SqT.of t2), _, _, rfl, rfl, (by show (0 : Int) < ((cl.map vn).length : Int); rw [List.length_map]; omega), cp, _, _, _, rfl, rfl, SqT.of t2, pat_at L2 (Int.zero_add _), _, _, rfl, ?_⟩
    have em : V.int (if (atp cl i : Int) < ((wt tk cl i : Int) + (atp tk i : Int)) then (atp cl i : Int) else ((wt tk cl i : Int) + (atp tk i : Int))) = vn (min (wt tk cl i + atp tk i) (atp cl i)) := by
      refine vn_int ?_
      split <;> omega
    rw [em]
    -- waiting -= now
    refine ⟨_, rfl, _, rfl, _, _, rfl, rfl, ?_⟩
    -- called.append(called[tick] + now)
    refine ⟨_, rfl, .inl ⟨rfl, _, SqL.of upd_same⟩, _, rfl, _, rfl, l, _, _, _, rfl, rfl, SqL.of upd_same, (show atI (calV tk cl i) ((0 : Int) + (i : Int)) = some (vn (cal tk cl i)) by rw [Int.zero_add]; exact atn (calV_at (Nat.le_refl i))), _, rfl, _, _, rfl, rfl, ?_⟩
    refine ⟨l, _, _, rfl, rfl, upd_same, small1000 (by rw [calV_len]; omega), some (.int (0 + (i : Int))), some (vn (min (wt tk cl i + atp tk i) (atp cl i))), ?_, ?_⟩
    · have e1 : V.int ((wt tk cl i : Int) + (atp tk i : Int) - ((min (wt tk cl i + atp tk i) (atp cl i) : Nat) : Int)) = vn (wt tk cl (i + 1)) := vn_int (by rw [wt_succ]; omega)
      rw [← e1]
      rfl
    · rw [upd_upd, calV_succ]
      have e2 : V.int ((cal tk cl i : Int) + ((min (wt tk cl i + atp tk i) (atp cl i) : Nat) : Int)) = vn (cal tk cl (i + 1)) := vn_int (by rw [cal_succ]; omega)
      rw [← e2]
  · rintro σ H2 ⟨a, b, rfl, rfl⟩
    refine ⟨_, rfl, k l _ hl (Same.new hl) ?_⟩
    rw [upd_same]
    simp
theorem ok_period (T : Txt K mg) : OkF P w K mg base 1 (getAt K (He.ga K "Hall") "period") ["self"] (spPeriod (He.ga K "Hall")) := by
  refine FnP.okF T.f_period sc_period (fun _ _ _ _ _ _ us hl => match us, hl with | [_], _ => rfl) (fun vs H Q E h => ?_) (fun cdv A outer s H vs Q E hr h => ?_)
  · obtain ⟨h, _, _, _, _, _, _, rfl, _⟩ := h
    rfl
  obtain ⟨h, dx, tp, cp, fs, tk, cl, rfl, hh, f1, f2, htp, hcp, hT, hC, k⟩ := h
  refine ⟨_, (pss_one (ps_ret (pfun cr_lcm (by rfl) T.g_lcm (pa_cons (pe_callB (lenK (K := K)) (by rfl) T.g_len (by decide +kernel) (pa_cons (pe_fld (pv 0) rfl) pa_nil)) (pa_cons (pe_callB (lenK (K := K)) (by rfl) T.g_len (by decide +kernel) (pa_cons (pe_fld (pv 0) rfl) pa_nil)) pa_nil))))), ?_⟩
  have a1 := hT.len
  have a2 := hC.len
  refine ⟨_, rfl, h, _, dx, fs, _, rfl, hh, T.cl_Hall, T.n_takes, f1, tp, _, rfl, .inr (SqT.of htp), ?_⟩
  refine ⟨_, rfl, h, _, dx, fs, _, rfl, hh, T.cl_Hall, T.n_calls, f2, cp, _, rfl, .inr (SqT.of hcp), ?_⟩
  refine ⟨_, _, rfl, by rw [List.length_map]; omega, by rw [List.length_map]; omega, ?_⟩
  rw [List.length_map, List.length_map]
  exact k
theorem ok_init (T : Txt K mg) : OkF P w K mg base 5 (He.ma K (He.ga K "Hall") "__init__") ["self", "modulus", "takes", "calls", "lateness"] (spInit (He.ga K "Hall")) := by
  have G_check_hall : OkF P w K mg base 4 (He.ga K "check_hall") ["modulus", "takes", "calls", "lateness"] spChall := ok_check_hall T
  have G_count_calls : OkF P w K mg base 1 (He.ga K "count_calls") ["takes", "calls", "ticks"] spCount := ok_count_calls T
  have G_period : OkF P w K mg base 1 (getAt K (He.ga K "Hall") "period") ["self"] (spPeriod (He.ga K "Hall")) := ok_period T
  refine FnP.okF T.f_init sc_init (fun _ _ _ _ _ _ us hl => match us, hl with | [_, _, _, _, _], _ => rfl) (fun vs H Q E h => ?_) (fun cdv A outer s H vs Q E hr h => ?_)
  · obtain ⟨x, _, _, _, _, _, _, _, rfl, _⟩ := h
    rfl
  obtain ⟨x, dx, tp, cp, m, lt, tk, cl, rfl, hx, htp, hcp, hP, k⟩ := h
  refine ⟨_, (pss_cons (ps_expr (pe_call G_check_hall.one (hr.mono (by decide)) (by rfl) T.g_check_hall G_check_hall.kp G_check_hall.two .nil passL (pa_cons (pv 1) (pa_cons (pv 2) (pa_cons (pv 3) (pa_cons (pv 4) pa_nil))))))
    (pss_cons (ps_fld (pv 0) (pv 1) rfl)
    (pss_cons (ps_fld (pv 0) (pv 2) rfl)
    (pss_cons (ps_fld (pv 0) (pv 3) rfl)
    (pss_cons (ps_fld (pv 0) (pv 4) rfl)
    (pss_one (ps_fld (pv 0) (pe_call G_count_calls.one (hr.mono (by decide)) (by rfl) T.g_count_calls G_count_calls.kp G_count_calls.two .nil passL (pa_cons (pv 2) (pa_cons (pv 3) (pa_cons (pe_op op_mul pe_int (pe_prop (pv 0) T.cl_Hall T.p_period G_period.one (hr.mono (by decide)) G_period.two .nil passL (by rfl))) pa_nil)))) rfl))))))), ?_⟩
  refine ⟨_, rfl, _, rfl, _, rfl, _, rfl, tp, cp, m, lt, tk, cl, rfl, htp, hcp, hP, fun H1 S1 => ?_⟩
  have x1 := S1 _ _ hx
  have n1 : tp ≠ x := ne_of htp hx (fun q => by cases q)
  have n2 : cp ≠ x := ne_of hcp hx (fun q => by cases q)
  have len1 : ∀ (f : Str) (v : V) (fs : List (Str × V)) (n : Nat), fs.length ≤ n → (putF f v fs).length ≤ n + 1 := fun f v fs n h => Nat.le_trans (length_putF f v fs) (Nat.succ_le_succ h)
  refine ⟨_, rfl, _, rfl, x, _, dx, _, rfl, x1, T.cl_Hall, T.n_modulus, (by decide), ?_⟩
  refine ⟨_, rfl, _, rfl, x, _, dx, _, rfl, upd_same, T.cl_Hall, T.n_takes, Nat.lt_of_le_of_lt (len1 _ _ _ 0 (Nat.le_refl 0)) (by decide), ?_⟩
  refine ⟨_, rfl, _, rfl, x, _, dx, _, rfl, upd_same, T.cl_Hall, T.n_calls, Nat.lt_of_le_of_lt (len1 _ _ _ 1 (len1 _ _ _ 0 (Nat.le_refl 0))) (by decide), ?_⟩
  refine ⟨_, rfl, _, rfl, x, _, dx, _, rfl, upd_same, T.cl_Hall, T.n_lateness, Nat.lt_of_le_of_lt (len1 _ _ _ 2 (len1 _ _ _ 1 (len1 _ _ _ 0 (Nat.le_refl 0)))) (by decide), ?_⟩
  rw [upd_upd, upd_upd, upd_upd]
  have t1 : ∀ o, upd H1 x o tp = some (.tup (tk.map vn)) := fun o => by rw [upd_ne n1]; exact S1 _ _ htp
  have t2 : ∀ o, upd H1 x o cp = some (.tup (cl.map vn)) := fun o => by rw [upd_ne n2]; exact S1 _ _ hcp
  have p144 := per_144 hP.tkP hP.clP
  -- self._called = count_calls(takes, calls, 2 * self.period)
  refine ⟨_, rfl, _, rfl, _, rfl, x, dx, _, rfl, upd_same, x, dx, tp, cp, _, tk, cl, rfl, upd_same, ?_, ?_, t1 _, t2 _, hP.tkP, hP.clP, ?_⟩
  · rw [lookup_putF, if_neg (by decide +kernel), lookup_putF, if_neg (by decide +kernel), lookup_putF, if_pos rfl]
  · rw [lookup_putF, if_neg (by decide +kernel), lookup_putF, if_pos rfl]
  refine ⟨2, _, rfl, rfl, .inl ⟨by decide, by decide⟩, tp, cp, tk, cl, 2 * per tk cl, by simp, t1 _, t2 _, hP.tkP, hP.clP, by omega, fun lp H2 n3 S2 h2 => ?_⟩
  have nx : x ≠ lp := fun e => by rw [e, upd_same] at n3; cases n3
  have n4 : H lp = none := by
    rw [upd_ne (Ne.symm nx)] at n3
    exact S1.free n3
  refine ⟨_, rfl, x, _, dx, _, rfl, S2 _ _ upd_same, T.cl_Hall, T.n__called, Nat.lt_of_le_of_lt (len1 _ _ _ 3 (len1 _ _ _ 2 (len1 _ _ _ 1 (len1 _ _ _ 0 (Nat.le_refl 0))))) (by decide), ?_⟩
  refine k _ lp (fun b o nb e => ?_) n4 ⟨⟨dx, tp, cp, upd_same, ?_, ?_⟩, ?_, hP⟩
  · rw [upd_ne nb]
    exact S2 _ _ (by rw [upd_ne nb]; exact S1 _ _ e)
  · rw [upd_ne n1]
    exact S2 _ _ (t1 _)
  · rw [upd_ne n2]
    exact S2 _ _ (t2 _)
  · rw [upd_ne (Ne.symm nx)]
    exact h2
end
end Tk

/-! ### The hall's methods -/
namespace Tk
open PySem PySem.Spec PyProof.Rows L2 Mm
def spTaken (C : Addr) : Sp := fun vs H Q _ => ∃ (h lp : Addr) (z : Int) (m lt : Nat) (tk cl : List Nat), vs = [.ref h, .int z] ∧ HallAt C H h m tk cl lt lp ∧ ∀ H', Same H H' → Q (vn (tak tk z.toNat)) H'
def spCalled (C : Addr) : Sp := fun vs H Q _ => ∃ (h lp : Addr) (z : Int) (m lt : Nat) (tk cl : List Nat), vs = [.ref h, .int z] ∧ HallAt C H h m tk cl lt lp ∧ Q (vn (cal tk cl z.toNat)) H
def spWaiting (C : Addr) : Sp := fun vs H Q _ => ∃ (h lp : Addr) (n : Nat) (m lt : Nat) (tk cl : List Nat), vs = [.ref h, vn n] ∧ n ≤ 1000000000000000000 ∧ HallAt C H h m tk cl lt lp ∧ ∀ H', Same H H' → Q (vn (wt tk cl (n + 1))) H'
def grow (tk cl : List Nat) : Nat := wt tk cl (2 * per tk cl + 1) - wt tk cl (per tk cl + 1)
def spGrowth (C : Addr) : Sp := fun vs H Q _ => ∃ (h lp : Addr) (m lt : Nat) (tk cl : List Nat), vs = [.ref h] ∧ HallAt C H h m tk cl lt lp ∧ ∀ H', Same H H' → Q (vn (grow tk cl)) H'
theorem map_vn (tk : List Nat) : (tk.map (fun n : Nat => (n : Int))).map V.int = tk.map vn := by rw [List.map_map]; rfl
theorem sum_cast (tk : List Nat) : (tk.map (fun n : Nat => (n : Int))).sum = ((tk.sum : Nat) : Int) := by
  induction tk with
  | nil => rfl
  | cons a r ih => rw [List.map_cons, List.sum_cons, List.sum_cons, ih]; omega
theorem max0 (z : Int) : (if (0 : Int) > z then (0 : Int) else z) = ((z.toNat : Nat) : Int) := by split <;> omega
section
variable {P : Program} {w : World} {K : PySem.W.Frag} {mg : Str → Option Value} {base : Heap}
theorem ok_called (T : Txt K mg) : OkF P w K mg base 3 (He.ma K (He.ga K "Hall") "called") ["self", "tick"] (spCalled (He.ga K "Hall")) := by
  have G_period : OkF P w K mg base 1 (getAt K (He.ga K "Hall") "period") ["self"] (spPeriod (He.ga K "Hall")) := ok_period T
  refine FnP.okF T.f_called sc_called (fun _ _ _ _ _ _ us hl => match us, hl with | [_, _], _ => rfl) (fun vs H Q E h => ?_) (fun cdv A outer s H vs Q E hr h => ?_)
  · obtain ⟨h, _, _, _, _, _, _, rfl, _⟩ := h
    rfl
  obtain ⟨h, lp, z, m, lt, tk, cl, rfl, hA, k⟩ := h
  obtain ⟨dx, tp, cp, hh, htp, hcp⟩ := hA.ex
  have p0 := per_pos hA.ok.tkP.pos hA.ok.clP.pos
  have p144 := per_144 hA.ok.tkP hA.ok.clP
  have ht := per_tk (tk := tk) (cl := cl)
  have hc := per_cl (tk := tk) (cl := cl)
  generalize hp : per tk cl = p at *
  have hL : SqL K H lp (calV tk cl (2 * p)) := SqL.of (by rw [← hp]; exact hA.lst)
  refine ⟨_, (pss_cons (ps_set (i := 2) sc_called.nd rfl (Or.inl rfl) (pe_prop (pv 0) T.cl_Hall T.p_period G_period.one (hr.mono (by decide)) G_period.two .nil passL (by rfl)))
    (pss_cons (ps_set (i := 3) sc_called.nd rfl (Or.inl rfl) (pe_callB (show CallR _ (.builtin "max") Rd.rMax2 from call_max2 (by rfl)) (by rfl) T.g_max (by decide +kernel) (pa_cons (pe_op op_sub (pe_op op_fdiv (pv 1) (pv 2)) pe_int) (pa_cons pe_int pa_nil))))
    (pss_cons (ps_set (i := 4) sc_called.nd rfl (Or.inl rfl) (pe_op op_sub (pe_ix (ixLK (K := K)) (pe_fld (pv 0) rfl) (pe_op op_mul pe_int (pv 2)) (fun _ _ => rfl)) (pe_ix (ixLK (K := K)) (pe_fld (pv 0) rfl) (pv 2) (fun _ _ => rfl))))
    (pss_one (ps_ret (pe_op op_add (pe_op op_mul (pv 3) (pv 4)) (pe_ix (ixLK (K := K)) (pe_fld (pv 0) rfl) (pe_op op_sub (pe_callB (show CallR _ (.builtin "max") Rd.rMax2 from call_max2 (by rfl)) (by rfl) T.g_max (by decide +kernel) (pa_cons (pv 1) (pa_cons pe_int pa_nil))) (pe_op op_mul (pv 3) (pv 2))) (fun _ _ => rfl)))))))), ?_⟩
  refine ⟨_, rfl, h, dx, _, rfl, hh, h, dx, tp, cp, _, tk, cl, rfl, hh, hfs_takes, hfs_calls, htp, hcp, hA.ok.tkP, hA.ok.clP, ?_⟩
  rw [hp]
  -- skipped
  refine ⟨_, rfl, _, rfl, _, _, rfl, rfl, ⟨by omega, by omega⟩, _, _, rfl, rfl, _, _, rfl, ?_⟩
  have es : (if (0 : Int) > z / (p : Int) - 1 then (0 : Int) else z / (p : Int) - 1) = ((z.toNat / p - 1 : Nat) : Int) := by
    rcases Int.lt_or_le z 0 with n | n
    · have h1 : z / (p : Int) < 0 := Int.ediv_lt_of_lt_mul (by omega) (by omega)
      have h2 : z.toNat = 0 := by omega
      rw [h2, Nat.zero_div]
      split <;> omega
    · obtain ⟨q, rfl⟩ : ∃ q : Nat, z = (q : Int) := ⟨z.toNat, by omega⟩
      have h1 : (q : Int) / (p : Int) = ((q / p : Nat) : Int) := (Int.natCast_ediv _ _).symm
      rw [h1, Int.toNat_natCast]
      split <;> omega
  rw [es]
  generalize hs : z.toNat / p - 1 = sk
  -- in_period
  have mono := cal_mono (tk := tk) (cl := cl) (show p ≤ 2 * p by omega)
  have a1 : atI (calV tk cl (2 * p)) ((2 : Int) * (p : Int)) = some (vn (cal tk cl (2 * p))) := by
    rw [show (2 : Int) * (p : Int) = ((2 * p : Nat) : Int) by omega]
    exact atn (calV_at (Nat.le_refl _))
  have a2 : atI (calV tk cl (2 * p)) (p : Int) = some (vn (cal tk cl p)) := atn (calV_at (by omega))
  refine ⟨_, rfl, h, _, dx, _, _, rfl, hh, T.cl_Hall, T.n__called, hfs_called, _, rfl, _, _, rfl, rfl, .inl ⟨by decide, by decide⟩, lp, _, _, _, rfl, rfl, hL, a1, ?_⟩
  refine ⟨_, rfl, h, _, dx, _, _, rfl, hh, T.cl_Hall, T.n__called, hfs_called, _, rfl, lp, _, _, _, rfl, rfl, hL, a2, _, _, rfl, rfl, ?_⟩
  -- the end
  have small : cal tk cl (2 * p) - cal tk cl p ≤ 100000 := by
    have := cal_le (tk := tk) (cl := cl) (2 * p)
    have := tak_le hA.ok.tkP.nine (2 * p)
    omega
  refine ⟨_, rfl, _, rfl, _, _, rfl, rfl, .inr ⟨by omega, by omega⟩, ?_⟩
  refine ⟨_, rfl, h, _, dx, _, _, rfl, hh, T.cl_Hall, T.n__called, hfs_called, _, rfl, _, _, rfl, ?_⟩
  rw [max0]
  refine ⟨_, rfl, _, rfl, _, _, rfl, rfl, .inr ⟨by omega, by omega⟩, _, _, rfl, rfl, ?_⟩
  have sk_le : sk * p ≤ z.toNat := by
    rw [← hs]
    have := Nat.div_mul_le_self z.toNat p
    have := Nat.mul_le_mul_right p (Nat.sub_le (z.toNat / p) 1)
    omega
  have a3 : atI (calV tk cl (2 * p)) ((z.toNat : Int) - (sk : Int) * (p : Int)) = some (vn (cal tk cl (z.toNat - sk * p))) := by
    rw [show (z.toNat : Int) - (sk : Int) * (p : Int) = ((z.toNat - sk * p : Nat) : Int) by rw [Int.ofNat_sub sk_le, Int.natCast_mul]]
    refine atn (calV_at ?_)
    have := rest_lt p0 z.toNat
    rw [hs] at this
    omega
  refine ⟨lp, _, _, _, rfl, rfl, hL, a3, _, _, rfl, rfl, ?_⟩
  have e := cal_is p0 ht hc z.toNat
  rw [hs] at e
  have ev : V.int ((sk : Int) * ((cal tk cl (2 * p) : Int) - (cal tk cl p : Int)) + (cal tk cl (z.toNat - sk * p) : Int)) = vn (cal tk cl z.toNat) := by
    refine vn_int ?_
    rw [e, Int.natCast_add, Int.natCast_mul, Int.ofNat_sub mono]
  show Q (V.int ((sk : Int) * ((cal tk cl (2 * p) : Int) - (cal tk cl p : Int)) + (cal tk cl (z.toNat - sk * p) : Int))) H
  rw [ev]
  exact k
theorem ok_taken (T : Txt K mg) : OkF P w K mg base 1 (He.ma K (He.ga K "Hall") "taken") ["self", "tick"] (spTaken (He.ga K "Hall")) := by
  refine FnP.okF T.f_taken sc_taken (fun _ _ _ _ _ _ us hl => match us, hl with | [_, _], _ => rfl) (fun vs H Q E h => ?_) (fun cdv A outer s H vs Q E hr h => ?_)
  · obtain ⟨h, _, _, _, _, _, _, rfl, _⟩ := h
    rfl
  obtain ⟨h, lp, z, m, lt, tk, cl, rfl, hA, k⟩ := h
  obtain ⟨dx, tp, cp, hh, htp, hcp⟩ := hA.ex
  have n0 := hA.ok.tkP.pos
  have n12 := hA.ok.tkP.len
  refine ⟨_, (pss_cons (ps_asg (pe_callB call_divmod (by rfl) T.g_divmod (by decide +kernel) (pa_cons (pe_callB (show CallR _ (.builtin "max") Rd.rMax2 from call_max2 (by rfl)) (by rfl) T.g_max (by decide +kernel) (pa_cons (pv 1) (pa_cons pe_int pa_nil))) (pa_cons (pe_callB (lenK (K := K)) (by rfl) T.g_len (by decide +kernel) (pa_cons (pe_fld (pv 0) rfl) pa_nil)) pa_nil))) (pg_tup rfl (pgs_cons (pg_name (i := 2) sc_taken.nd rfl (Or.inl rfl)) (pgs_cons (pg_name (i := 3) sc_taken.nd rfl (Or.inl rfl)) pgs_nil))))
    (pss_one (ps_ret (pe_op op_add (pe_op op_mul (pv 2) (pe_callB (sumTK (K := K)) (by rfl) T.g_sum (by decide +kernel) (pa_cons (pe_fld (pv 0) rfl) pa_nil))) (pe_callB (sumTK (K := K)) (by rfl) T.g_sum (by decide +kernel) (pa_cons (pe_slice (slAK (K := K)) (pe_fld (pv 0) rfl) po_none (po_some (pv 3))) pa_nil)))))), ?_⟩
  -- rounds, rest = divmod(max(tick, 0), len(self.takes))
  refine ⟨_, rfl, _, _, rfl, ?_⟩
  rw [max0]
  refine ⟨_, rfl, h, _, dx, _, _, rfl, hh, T.cl_Hall, T.n_takes, hfs_takes, tp, _, rfl, .inr (SqT.of htp), _, _, rfl, ⟨by rw [List.length_map]; omega, by rw [List.length_map]; omega⟩, fun d hd => ?_⟩
  rw [List.length_map, show (z.toNat : Int) / (tk.length : Int) = ((z.toNat / tk.length : Nat) : Int) from (Int.natCast_ediv _ _).symm, show (z.toNat : Int) % (tk.length : Int) = ((z.toNat % tk.length : Nat) : Int) from (Int.natCast_emod _ _).symm]
  have rl := Nat.mod_lt z.toNat n0
  have S1 : Same H (upd H d (.tup [vn (z.toNat / tk.length), vn (z.toNat % tk.length)])) := Same.new hd
  generalize hH1 : upd H d (.tup [vn (z.toNat / tk.length), vn (z.toNat % tk.length)]) = H1 at S1
  refine ⟨d, _, rfl, SqT.of (by rw [← hH1]; exact upd_same), rfl, _, _, rfl, _, _, rfl, rfl, ?_⟩
  -- rounds * sum(self.takes) + sum(self.takes[:rest])
  have sm : ∀ x ∈ tk, x ≤ 9 := hA.ok.tkP.nine
  have s108 : tk.sum ≤ 108 := by
    have h1 := take_sum tk tk.length (Nat.le_refl _)
    have h2 := tak_le sm tk.length
    rw [List.take_length] at h1
    omega
  refine ⟨_, rfl, _, rfl, h, _, dx, _, _, rfl, S1 _ _ hh, T.cl_Hall, T.n_takes, hfs_takes, tp, tk.map (fun n : Nat => (n : Int)), rfl, by rw [map_vn]; exact SqT.of (S1 _ _ htp), _, _, rfl, rfl, .inr (by rw [sum_cast]; omega), ?_⟩
  have T1 : SqT K H1 tp (tk.map vn) := SqT.of (S1 _ _ htp)
  refine ⟨_, rfl, h, _, dx, _, _, rfl, S1 _ _ hh, T.cl_Hall, T.n_takes, hfs_takes, _, rfl, _, rfl, tp, _, rfl, T1, fun c => ?_, fun _ t ht => ?_⟩
  · exfalso
    have c2 := c.2
    rw [HT.sIx_nat, List.length_map] at c2
    omega
  have S2 : Same H (upd H1 t (.tup (cutV (tk.map vn) none (some ((z.toNat % tk.length : Nat) : Int))))) := S1.trans (Same.new ht)
  have ec : cutV (tk.map vn) none (some ((z.toNat % tk.length : Nat) : Int)) = (tk.take (z.toNat % tk.length)).map vn := by
    unfold cutV
    rw [HT.sIx_none, HT.sIx_nat, List.drop_zero, List.length_map, Nat.sub_zero, Nat.min_eq_left (Nat.le_of_lt rl), List.map_take]
  refine ⟨t, (tk.take (z.toNat % tk.length)).map (fun n : Nat => (n : Int)), rfl, by rw [map_vn, ec]; exact SqT.of upd_same, _, _, rfl, rfl, ?_⟩
  have ev : V.int (((z.toNat / tk.length : Nat) : Int) * (tk.map (fun n : Nat => (n : Int))).sum + ((tk.take (z.toNat % tk.length)).map (fun n : Nat => (n : Int))).sum) = vn (tak tk z.toNat) := by
    refine vn_int ?_
    rw [sum_cast, sum_cast, tak_is tk n0 z.toNat, Int.natCast_add, Int.natCast_mul]
  have q := k _ S2
  rw [← ev] at q
  exact q
theorem ok_waiting (T : Txt K mg) : OkF P w K mg base 4 (He.ma K (He.ga K "Hall") "waiting") ["self", "tick"] (spWaiting (He.ga K "Hall")) := by
  have G_check_tick : OkF P w K mg base 2 (He.ga K "check_tick") ["tick"] spTick := ok_check_tick T
  have G_taken : OkF P w K mg base 1 (He.ma K (He.ga K "Hall") "taken") ["self", "tick"] (spTaken (He.ga K "Hall")) := ok_taken T
  have G_called : OkF P w K mg base 3 (He.ma K (He.ga K "Hall") "called") ["self", "tick"] (spCalled (He.ga K "Hall")) := ok_called T
  refine FnP.okF T.f_waiting sc_waiting (fun _ _ _ _ _ _ us hl => match us, hl with | [_, _], _ => rfl) (fun vs H Q E h => ?_) (fun cdv A outer s H vs Q E hr h => ?_)
  · obtain ⟨h, _, _, _, _, _, _, rfl, _⟩ := h
    rfl
  obtain ⟨h, lp, n, m, lt, tk, cl, rfl, hn, hA, k⟩ := h
  obtain ⟨dx, tp, cp, hh, htp, hcp⟩ := hA.ex
  refine ⟨_, (pss_cons (ps_expr (pe_call G_check_tick.one (hr.mono (by decide)) (by rfl) T.g_check_tick G_check_tick.kp G_check_tick.two .nil passL (pa_cons (pv 1) pa_nil)))
    (pss_one (ps_ret (pe_op op_sub (pe_meth (pv 0) T.cl_Hall T.m_taken G_taken.one (hr.mono (by decide)) G_taken.two .nil passL (pa_cons (pe_op op_add (pv 1) pe_int) pa_nil)) (pe_meth (pv 0) T.cl_Hall T.m_called G_called.one (hr.mono (by decide)) G_called.two .nil passL (pa_cons (pe_op op_add (pv 1) pe_int) pa_nil)))))), ?_⟩
  refine ⟨_, rfl, (n : Int), rfl, by omega, by omega, ?_⟩
  refine ⟨_, rfl, h, dx, _, rfl, hh, hfs_no (by decide +kernel) (by decide +kernel) (by decide +kernel) (by decide +kernel) (by decide +kernel), _, rfl, _, _, rfl, rfl, h, lp, (n : Int) + 1, m, lt, tk, cl, rfl, hA, fun H1 S1 => ?_⟩
  refine ⟨_, rfl, h, dx, _, rfl, S1 _ _ hh, hfs_no (by decide +kernel) (by decide +kernel) (by decide +kernel) (by decide +kernel) (by decide +kernel), _, rfl, _, _, rfl, rfl, h, lp, (n : Int) + 1, m, lt, tk, cl, rfl, hA.same S1, ?_⟩
  refine ⟨_, _, rfl, rfl, ?_⟩
  have e : ((n : Int) + 1).toNat = n + 1 := by omega
  rw [e]
  have c := cal_le (tk := tk) (cl := cl) (n + 1)
  have ev : V.int ((tak tk (n + 1) : Int) - (cal tk cl (n + 1) : Int)) = vn (wt tk cl (n + 1)) := vn_int (by unfold wt; omega)
  have q := k H1 S1
  rw [← ev] at q
  exact q
theorem ok_growth (T : Txt K mg) : OkF P w K mg base 5 (getAt K (He.ga K "Hall") "growth") ["self"] (spGrowth (He.ga K "Hall")) := by
  have G_period : OkF P w K mg base 1 (getAt K (He.ga K "Hall") "period") ["self"] (spPeriod (He.ga K "Hall")) := ok_period T
  have G_waiting : OkF P w K mg base 4 (He.ma K (He.ga K "Hall") "waiting") ["self", "tick"] (spWaiting (He.ga K "Hall")) := ok_waiting T
  refine FnP.okF T.f_growth sc_growth (fun _ _ _ _ _ _ us hl => match us, hl with | [_], _ => rfl) (fun vs H Q E h => ?_) (fun cdv A outer s H vs Q E hr h => ?_)
  · obtain ⟨h, _, _, _, _, _, rfl, _⟩ := h
    rfl
  obtain ⟨h, lp, m, lt, tk, cl, rfl, hA, k⟩ := h
  obtain ⟨dx, tp, cp, hh, htp, hcp⟩ := hA.ex
  have p144 := per_144 hA.ok.tkP hA.ok.clP
  refine ⟨_, (pss_one (ps_ret (pe_op op_sub (pe_meth (pv 0) T.cl_Hall T.m_waiting G_waiting.one (hr.mono (by decide)) G_waiting.two .nil passL (pa_cons (pe_op op_mul pe_int (pe_prop (pv 0) T.cl_Hall T.p_period G_period.one (hr.mono (by decide)) G_period.two .nil passL (by rfl))) pa_nil)) (pe_meth (pv 0) T.cl_Hall T.m_waiting G_waiting.one (hr.mono (by decide)) G_waiting.two .nil passL (pa_cons (pe_prop (pv 0) T.cl_Hall T.p_period G_period.one (hr.mono (by decide)) G_period.two .nil passL (by rfl)) pa_nil))))), ?_⟩
  have no : (hfs m tp cp lt lp).lookup ("waiting" : Str) = none := hfs_no (by decide +kernel) (by decide +kernel) (by decide +kernel) (by decide +kernel) (by decide +kernel)
  refine ⟨_, rfl, h, dx, _, rfl, hh, no, _, rfl, h, dx, _, rfl, hh, h, dx, tp, cp, _, tk, cl, rfl, hh, hfs_takes, hfs_calls, htp, hcp, hA.ok.tkP, hA.ok.clP, _, _, rfl, rfl, .inl ⟨by decide, by decide⟩, h, lp, 2 * per tk cl, m, lt, tk, cl, by simp, by omega, hA, fun H1 S1 => ?_⟩
  refine ⟨_, rfl, h, dx, _, rfl, S1 _ _ hh, no, _, rfl, h, dx, _, rfl, S1 _ _ hh, h, dx, tp, cp, _, tk, cl, rfl, S1 _ _ hh, hfs_takes, hfs_calls, S1 _ _ htp, S1 _ _ hcp, hA.ok.tkP, hA.ok.clP, h, lp, per tk cl, m, lt, tk, cl, rfl, by omega, hA.same S1, fun H2 S2 => ?_⟩
  refine ⟨_, _, rfl, rfl, ?_⟩
  have u := wt_up (tk := tk) (cl := cl) per_tk per_cl (per tk cl + 1)
  have e2 : per tk cl + 1 + per tk cl = 2 * per tk cl + 1 := by omega
  rw [e2] at u
  have ev : V.int ((wt tk cl (2 * per tk cl + 1) : Int) - (wt tk cl (per tk cl + 1) : Int)) = vn (grow tk cl) := vn_int (by unfold grow; omega)
  have q := k H2 (S1.trans S2)
  rw [← ev] at q
  exact q
end
end Tk

/-! ### The law's own defs: hall, length, counts -/
namespace Tk
open PySem PySem.Spec PyProof.Rows L2 Mm
def fV (f : Nat → Nat) (n : Nat) : List V := (List.range (n + 1)).map fun t => vn (f t)
theorem fV_len {f : Nat → Nat} {n : Nat} : (fV f n).length = n + 1 := by unfold fV; simp
theorem fV_at {f : Nat → Nat} {n t : Nat} (h : t ≤ n) : (fV f n)[t]? = some (vn (f t)) := by
  unfold fV
  rw [List.getElem?_map, List.getElem?_range (by omega)]
  rfl
theorem fV_succ {f : Nat → Nat} {n : Nat} : fV f (n + 1) = fV f n ++ [vn (f (n + 1))] := by
  unfold fV
  rw [List.range_succ, List.map_append]
  rfl
theorem at_last {xs : List V} {n : Nat} {x : V} (hl : xs.length = n + 1) (h : xs[n]? = some x) : atI xs (-(1 : Int)) = some x := by
  unfold atI ixN
  rw [hl, if_neg (by omega), if_pos (by omega)]
  show xs[(-(1 : Int) + ((n + 1 : Nat) : Int)).toNat]? = some x
  rw [show (-(1 : Int) + ((n + 1 : Nat) : Int)).toNat = n by omega]
  exact h
def spLHall (C : Addr) : Sp := fun vs H Q _ => ∃ (t tp cp : Addr) (m lt : Nat) (tk cl : List Nat), vs = [.ref t] ∧ PartsAt H t m tp tk cp cl lt ∧
  ∀ h lp H', H h = none → H lp = none → Same H H' → HallAt C H' h m tk cl lt lp → Q (.ref h) H'
theorem small10k {n : Nat} (h : n ≤ 10000) : n + 1 ≤ sizeLine := Nat.le_trans (Nat.succ_le_succ h) (by decide)
def spLength : Sp := fun vs H Q _ => ∃ (t tp cp : Addr) (m lt : Nat) (tk cl : List Nat), vs = [.ref t] ∧ PartsAt H t m tp tk cp cl lt ∧ Q (vn (per tk cl)) H
def spCounts : Sp := fun vs H Q _ => ∃ (t tp cp : Addr) (m lt : Nat) (tk cl : List Nat) (n : Nat), vs = [.ref t, vn n] ∧ PartsAt H t m tp tk cp cl lt ∧ n ≤ 10000 ∧
  ∀ r a b H', H r = none → H a = none → H b = none → a ≠ b → Same H H' → H' r = some (.tup [.ref a, .ref b]) → H' a = some (.lst (fV (tak tk) n)) → H' b = some (.lst (fV (cal tk cl) n)) → Q (.ref r) H'
theorem at3 {a b c d : V} {j : Nat} {x : V} (h : [a, b, c, d][j]? = some x) : atI [a, b, c, d] (j : Int) = some x := atn h
/-- the least multiple of n that c divides -/
theorem least_lcm {n c k : Nat} (hk : 0 < k) (h : c ∣ k * n) (no : ∀ j, 0 < j → j < k → ¬ c ∣ j * n) (hn : 0 < n) (hc : 0 < c) : k * n = Nat.lcm n c := by
  have d1 : Nat.lcm n c ∣ k * n := Nat.lcm_dvd (Nat.dvd_mul_left n k) h
  obtain ⟨j, hj⟩ := Nat.dvd_lcm_left n c
  have hp : 0 < Nat.lcm n c := Nat.lcm_pos hn hc
  have j0 : 0 < j := by
    rcases Nat.eq_zero_or_pos j with e | e
    · rw [e] at hj
      omega
    · exact e
  have e2 : Nat.lcm n c = j * n := by rw [hj, Nat.mul_comm]
  rcases Nat.lt_or_ge j k with lt | ge
  · exact absurd (by rw [← e2]; exact Nat.dvd_lcm_right n c) (no j j0 lt)
  · have h1 := Nat.le_of_dvd (Nat.mul_pos hk hn) d1
    have h2 := Nat.mul_le_mul_right n ge
    omega
theorem below_lcm {n c k : Nat} (no : ∀ j, 0 < j → j < k → ¬ c ∣ j * n) (hn : 0 < n) (hc : 0 < c) : k * n ≤ Nat.lcm n c := by
  obtain ⟨j, hj⟩ := Nat.dvd_lcm_left n c
  have hp : 0 < Nat.lcm n c := Nat.lcm_pos hn hc
  have e2 : Nat.lcm n c = j * n := by rw [hj, Nat.mul_comm]
  have j0 : 0 < j := by
    rcases Nat.eq_zero_or_pos j with e | e
    · rw [e] at hj
      omega
    · exact e
  rcases Nat.lt_or_ge j k with lt | ge
  · exact absurd (by rw [← e2]; exact Nat.dvd_lcm_right n c) (no j j0 lt)
  · rw [e2]
    exact Nat.mul_le_mul_right n ge
section
variable {P : Program} {w : World} {K : PySem.W.Frag} {mg : Str → Option Value} {base : Heap}
end
end Tk

/-! ### Equal data -/
namespace Tk
open PySem PySem.Spec PyProof.Rows L2
def flat : V → Bool
  | .non => true
  | .bl _ => true
  | .int _ => true
  | .str _ => true
  | _ => false
/-- one level of data -/
def Nx (K : PySem.W.Frag) (R : Hp → V → V → Prop) (H : Hp) (v u : V) : Prop :=
  (v = u ∧ flat v = true) ∨ (∃ a b xs ys, v = .ref a ∧ u = .ref b ∧ SqL K H a xs ∧ SqL K H b ys ∧ xs.length = ys.length ∧ xs.length ≤ 100000 ∧ ∀ (i : Nat) x y, xs[i]? = some x → ys[i]? = some y → R H x y) ∨
  (∃ a b xs ys, v = .ref a ∧ u = .ref b ∧ SqT K H a xs ∧ SqT K H b ys ∧ xs.length = ys.length ∧ xs.length ≤ 100000 ∧ ∀ (i : Nat) x y, xs[i]? = some x → ys[i]? = some y → R H x y)
/-- the same data, at most n deep -/
def Sm (K : PySem.W.Frag) : Nat → Hp → V → V → Prop
  | 0 => fun _ _ _ => False
  | n + 1 => Nx K (Sm K n)
def spEqOf (R : Hp → V → V → Prop) : Sp := fun vs H Q _ => ∃ v u, vs = [v, u] ∧ R H v u ∧ ∀ H', Same H H' → Q (.bl true) H'
theorem sqt_same {K : PySem.W.Frag} {H H' : Hp} {a : Addr} {xs : List V} (e : Same H H') (h : SqT K H a xs) : SqT K H' a xs := by
  rcases h with (h | ⟨o, h⟩) | h
  · exact .inl (.inl (e _ _ h))
  · exact .inl (.inr ⟨o, e _ _ h⟩)
  · exact .inr h
theorem Sm.same {K : PySem.W.Frag} {H H' : Hp} (e : Same H H') : ∀ {n : Nat} {v u : V}, Sm K n H v u → Sm K n H' v u
  | 0, _, _, h => h
  | n + 1, _, _, h => by
    rcases h with h | ⟨a, b, xs, ys, h1, h2, h3, h4, h5, h6, h7⟩ | ⟨a, b, xs, ys, h1, h2, h3, h4, h5, h6, h7⟩
    · exact .inl h
    · exact .inr (.inl ⟨a, b, xs, ys, h1, h2, e.seq h3, e.seq h4, h5, h6, fun i x y p q => Sm.same e (h7 i x y p q)⟩)
    · exact .inr (.inr ⟨a, b, xs, ys, h1, h2, sqt_same e h3, sqt_same e h4, h5, h6, fun i x y p q => Sm.same e (h7 i x y p q)⟩)
theorem tyx_l {K : PySem.W.Frag} {H : Hp} {a : Addr} {xs : List V} (h : SqL K H a xs) : TyX K H (.ref a) (.type "list") := by
  rcases h with (h | ⟨o, h⟩) | ⟨o, its, n, h1, h2, _⟩
  · exact .base (.lst h)
  · exact .base (.frz h)
  · exact .kList h1 h2
theorem tyx_t {K : PySem.W.Frag} {H : Hp} {a : Addr} {xs : List V} (h : SqT K H a xs) : TyX K H (.ref a) (.type "tuple") := by
  rcases h with (h | ⟨o, h⟩) | ⟨o, its, n, h1, h2, _⟩
  · exact .base (.tup h)
  · exact .fTuple h
  · exact .kTuple h1 h2
theorem rix {K : PySem.W.Frag} {H : Hp} {a : Addr} {xs : List V} {i : Int} {v : V} {Q : VK} (s : SqL K H a xs ∨ SqT K H a xs) (g : atI xs i = some v) (q : Q v H) : rIx K (.ref a) (.int i) H Q := by
  rcases s with s | s
  · exact .inl ⟨a, xs, i, v, rfl, rfl, s, g, q⟩
  · exact .inr (.inl ⟨a, xs, i, v, rfl, rfl, s, g, q⟩)
section
variable {P : Program} {w : World} {K : PySem.W.Frag} {mg : Str → Option Value} {base : Heap}
theorem eq_never (T : Txt K mg) : OkF P w K mg base 1 (He.ga K "_law_equal") ["_law_actual", "_law_expected"] (spEqOf fun _ _ _ => False) :=
  FnP.okF T.f__law_equal sc__law_equal (fun _ _ _ _ _ _ us hl => match us, hl with | [_, _], _ => rfl) (fun vs H Q E h => by obtain ⟨v, u, rfl, _⟩ := h; rfl) (fun cdv A outer s H vs Q E hr h => by obtain ⟨v, u, _, f, _⟩ := h; exact f.elim)
theorem eq_step {k : Nat} {R : Hp → V → V → Prop} (hR : ∀ H H' v u, Same H H' → R H v u → R H' v u) (T : Txt K mg) (G__law_equal : OkF P w K mg base k (He.ga K "_law_equal") ["_law_actual", "_law_expected"] (spEqOf R)) :
    OkF P w K mg base (k + 1) (He.ga K "_law_equal") ["_law_actual", "_law_expected"] (spEqOf (Nx K R)) := by
  refine FnP.okF T.f__law_equal sc__law_equal (fun _ _ _ _ _ _ us hl => match us, hl with | [_, _], _ => rfl) (fun vs H Q E h => ?_) (fun cdv A outer s H vs Q E hr h => ?_)
  · obtain ⟨v, u, rfl, _⟩ := h
    rfl
  obtain ⟨v, u, rfl, hS, q⟩ := h
  refine ⟨_, (pss_cons (ps_if (pt_cmpR (show OpR _ (compareOp .Is) Rd.rIsN from op_isN) (pv 1) pe_non (nomark _)) (pss_one (ps_ret (pe_cmpR (show OpR _ (compareOp .Is) Rd.rIsN from op_isN) (pv 0) pe_non (nomark _)))) pss_nil)
    (pss_cons (ps_if (pt_val (pe_callB (isiK (K := K)) (by rfl) T.g_isinstance (by decide +kernel) (pa_cons (pv 1) (pa_cons (pe_bltn (v := .ty "bool") (by rfl) T.g_bool boot_ty_bool rfl) pa_nil)))) (pss_one (ps_ret (pe_and (pe_callB (isiK (K := K)) (by rfl) T.g_isinstance (by decide +kernel) (pa_cons (pv 0) (pa_cons (pe_bltn (v := .ty "bool") (by rfl) T.g_bool boot_ty_bool rfl) pa_nil))) (pe_one (pe_cmpR op_eq (pv 0) (pv 1) (nomark _)))))) pss_nil)
    (pss_cons (ps_if (pt_val (pe_callB (isiK (K := K)) (by rfl) T.g_isinstance (by decide +kernel) (pa_cons (pv 1) (pa_cons (pe_bltn (v := .ty "int") (by rfl) T.g_int boot_ty_int rfl) pa_nil)))) (pss_one (ps_ret (pe_and (pe_callB (isiK (K := K)) (by rfl) T.g_isinstance (by decide +kernel) (pa_cons (pv 0) (pa_cons (pe_bltn (v := .ty "int") (by rfl) T.g_int boot_ty_int rfl) pa_nil))) (pe_and (pe_not (pe_callB (isiK (K := K)) (by rfl) T.g_isinstance (by decide +kernel) (pa_cons (pv 0) (pa_cons (pe_bltn (v := .ty "bool") (by rfl) T.g_bool boot_ty_bool rfl) pa_nil)))) (pe_one (pe_cmpR op_eq (pv 0) (pv 1) (nomark _))))))) pss_nil)
    (pss_cons (ps_if (pt_val (pe_callB (isiK (K := K)) (by rfl) T.g_isinstance (by decide +kernel) (pa_cons (pv 1) (pa_cons (pe_bltn (v := .ty "str") (by rfl) T.g_str boot_ty_str rfl) pa_nil)))) (pss_one (ps_ret (pe_and (pe_callB (isiK (K := K)) (by rfl) T.g_isinstance (by decide +kernel) (pa_cons (pv 0) (pa_cons (pe_bltn (v := .ty "str") (by rfl) T.g_str boot_ty_str rfl) pa_nil))) (pe_one (pe_cmpR op_eq (pv 0) (pv 1) (nomark _)))))) pss_nil)
    (pss_cons (ps_if (pt_cmpR op_ne (pe_callB (isiK (K := K)) (by rfl) T.g_isinstance (by decide +kernel) (pa_cons (pv 1) (pa_cons (pe_bltn (v := .ty "tuple") (by rfl) T.g_tuple boot_ty_tuple rfl) pa_nil))) (pe_callB (isiK (K := K)) (by rfl) T.g_isinstance (by decide +kernel) (pa_cons (pv 0) (pa_cons (pe_bltn (v := .ty "tuple") (by rfl) T.g_tuple boot_ty_tuple rfl) pa_nil))) (nomark _)) (pss_one (ps_ret pe_bl)) pss_nil)
    (pss_cons (ps_if (pt_cmpR op_ne (pe_callB (isiK (K := K)) (by rfl) T.g_isinstance (by decide +kernel) (pa_cons (pv 1) (pa_cons (pe_bltn (v := .ty "list") (by rfl) T.g_list boot_ty_list rfl) pa_nil))) (pe_callB (isiK (K := K)) (by rfl) T.g_isinstance (by decide +kernel) (pa_cons (pv 0) (pa_cons (pe_bltn (v := .ty "list") (by rfl) T.g_list boot_ty_list rfl) pa_nil))) (nomark _)) (pss_one (ps_ret pe_bl)) pss_nil)
    (pss_cons (ps_if (pt_cmpR op_ne (pe_callB (lenK (K := K)) (by rfl) T.g_len (by decide +kernel) (pa_cons (pv 0) pa_nil)) (pe_callB (lenK (K := K)) (by rfl) T.g_len (by decide +kernel) (pa_cons (pv 1) pa_nil)) (nomark _)) (pss_one (ps_ret pe_bl)) pss_nil)
    (pss_one (ps_ret (pe_callB (allLK (K := K)) (by rfl) T.g_all (by decide +kernel) (pa_cons (pe_lc (own := [("_law_k", 2)]) (g := gName 2) (tt := tYes) (by rfl) sc__law_equal.nd (pi_range1 (by rfl) T.g_range (pa_cons (pe_callB (lenK (K := K)) (by rfl) T.g_len (by decide +kernel) (pa_cons (pv 1) pa_nil)) pa_nil)) (blkOk_by (own := [("_law_k", 2)]) (N := N__law_equal) (sc := (defScope s__law_equal)) (by decide +kernel)) (fun _ _ _ _ _ => pg_name (i := 2) sc__law_equal.nd rfl (Or.inl rfl)) (fun _ _ _ _ _ => pts_nil) (fun _ _ _ _ _ => (pe_call G__law_equal.one hr (by rfl) T.g__law_equal G__law_equal.kp G__law_equal.two .nil passL (pa_cons (pe_ix (ixSK (K := K)) (pv 0) (pv 2) (fun _ _ => rfl)) (pa_cons (pe_ix (ixSK (K := K)) (pv 1) (pv 2) (fun _ _ => rfl)) pa_nil))))) pa_nil))))))))))), ?_⟩
  have q0 := q H (Same.refl H)
  -- isinstance(x, n)
  rcases hS with ⟨rfl, hf⟩ | hS
  · cases v with
    | non => exact ⟨_, rfl, rfl, _, rfl, _, rfl, rfl, q0⟩
    | bl x =>
      refine ⟨_, rfl, rfl, _, rfl, ?_⟩
      refine ⟨_, rfl, .bl x, .ty "bool", _, _, true, rfl, .ty "bool", .base (.bl x), kit_at (by decide +kernel), true, rfl, ?_⟩
      refine ⟨_, rfl, .bl x, .ty "bool", _, _, true, rfl, .ty "bool", .base (.bl x), kit_at (by decide +kernel), true, rfl, ?_⟩
      refine ⟨_, rfl, _, rfl, rfl, ?_⟩
      show Q (V.bl (decide (V.bl x = V.bl x))) H
      rw [decide_eq_true rfl]
      exact q0
    | int x =>
      refine ⟨_, rfl, rfl, _, rfl, ?_⟩
      refine ⟨_, rfl, .int x, .ty "bool", _, _, false, rfl, .ty "bool", .base (.int x), kit_at (by decide +kernel), false, rfl, ?_⟩
      refine ⟨_, rfl, .int x, .ty "int", _, _, true, rfl, .ty "int", .base (.int x), kit_at (by decide +kernel), true, rfl, ?_⟩
      refine ⟨_, rfl, .int x, .ty "int", _, _, true, rfl, .ty "int", .base (.int x), kit_at (by decide +kernel), true, rfl, ?_⟩
      refine ⟨_, rfl, .int x, .ty "bool", _, _, false, rfl, .ty "bool", .base (.int x), kit_at (by decide +kernel), false, rfl, true, rfl, ?_⟩
      refine ⟨_, rfl, _, rfl, rfl, ?_⟩
      show Q (V.bl (decide (V.int x = V.int x))) H
      rw [decide_eq_true rfl]
      exact q0
    | str x =>
      refine ⟨_, rfl, rfl, _, rfl, ?_⟩
      refine ⟨_, rfl, .str x, .ty "bool", _, _, false, rfl, .ty "bool", .base (.str x), kit_at (by decide +kernel), false, rfl, ?_⟩
      refine ⟨_, rfl, .str x, .ty "int", _, _, false, rfl, .ty "int", .base (.str x), kit_at (by decide +kernel), false, rfl, ?_⟩
      refine ⟨_, rfl, .str x, .ty "str", _, _, true, rfl, .ty "str", .base (.str x), kit_at (by decide +kernel), true, rfl, ?_⟩
      refine ⟨_, rfl, .str x, .ty "str", _, _, true, rfl, .ty "str", .base (.str x), kit_at (by decide +kernel), true, rfl, ?_⟩
      refine ⟨_, rfl, _, rfl, rfl, ?_⟩
      show Q (V.bl (decide (V.str x = V.str x))) H
      rw [decide_eq_true rfl]
      exact q0
    | _ => cases hf
  · -- two lists, two tuples: what both want
    obtain ⟨kind, a, b, xs, ys, tya, tyb, rfl, rfl, st, hl, hz, hi, ka, kb, kc, tt1, tl1⟩ : ∃ (kind : String) (a b : Addr) (xs ys : List V), TyX K H (.ref a) (.type kind) ∧ TyX K H (.ref b) (.type kind) ∧ v = .ref a ∧ u = .ref b ∧
        (∀ H', Same H H' → (SqL K H' a xs ∨ SqT K H' a xs) ∧ (SqL K H' b ys ∨ SqT K H' b ys)) ∧ xs.length = ys.length ∧ xs.length ≤ 100000 ∧ (∀ (i : Nat) x y, xs[i]? = some x → ys[i]? = some y → R H x y) ∧
        kitB kind "bool" = some false ∧ kitB kind "int" = some false ∧ kitB kind "str" = some false ∧ (∃ b, kitB kind "tuple" = some b) ∧ (∃ b, kitB kind "list" = some b) := by
      rcases hS with ⟨a, b, xs, ys, h1, h2, h3, h4, h5, h6, h7⟩ | ⟨a, b, xs, ys, h1, h2, h3, h4, h5, h6, h7⟩
      · exact ⟨"list", a, b, xs, ys, tyx_l h3, tyx_l h4, h1, h2, fun H' e => ⟨.inl (e.seq h3), .inl (e.seq h4)⟩, h5, h6, h7, by decide +kernel, by decide +kernel, by decide +kernel, ⟨false, by decide +kernel⟩, ⟨true, by decide +kernel⟩⟩
      · exact ⟨"tuple", a, b, xs, ys, tyx_t h3, tyx_t h4, h1, h2, fun H' e => ⟨.inr (sqt_same e h3), .inr (sqt_same e h4)⟩, h5, h6, h7, by decide +kernel, by decide +kernel, by decide +kernel, ⟨true, by decide +kernel⟩, ⟨false, by decide +kernel⟩⟩
    obtain ⟨tt, htt⟩ := tt1
    obtain ⟨tl, htl⟩ := tl1
    refine ⟨_, rfl, rfl, _, rfl, ?_⟩
    refine ⟨_, rfl, .ref b, .ty "bool", _, _, false, rfl, .ty "bool", tyb, kit_at ka, false, rfl, ?_⟩
    refine ⟨_, rfl, .ref b, .ty "int", _, _, false, rfl, .ty "int", tyb, kit_at kb, false, rfl, ?_⟩
    refine ⟨_, rfl, .ref b, .ty "str", _, _, false, rfl, .ty "str", tyb, kit_at kc, false, rfl, ?_⟩
    refine ⟨_, rfl, .ref b, .ty "tuple", _, _, tt, rfl, .ty "tuple", tyb, kit_at htt, _, rfl, .ref a, .ty "tuple", _, _, tt, rfl, .ty "tuple", tya, kit_at htt, (by cases tt <;> rfl), _, rfl, ?_⟩
    refine iteNS rfl ?_
    refine ⟨_, rfl, .ref b, .ty "list", _, _, tl, rfl, .ty "list", tyb, kit_at htl, _, rfl, .ref a, .ty "list", _, _, tl, rfl, .ty "list", tya, kit_at htl, (by cases tl <;> rfl), _, rfl, ?_⟩
    refine iteNS rfl ?_
    have s0 := st H (Same.refl H)
    refine ⟨_, rfl, a, xs, rfl, s0.1, _, rfl, b, ys, rfl, s0.2, rfl, _, rfl, ?_⟩
    refine iteNS (by rw [hl]) ?_
    -- all([..])
    refine ⟨_, rfl, b, ys, rfl, s0.2, _, rfl, by omega, by omega, fun D hD => ?_⟩
    refine lc_range (lo := 0) (n := ((ys.length : Int)).toNat) (fun i H2 => Same H H2 ∧ H2 D = some (.lst ((List.replicate i true).map V.bl))) ⟨Same.new hD, upd_same⟩ ?_ ?_
    · rintro i H2 hi2 ⟨S2, hD2⟩
      have iy : i < ys.length := by simpa using hi2
      have ix : i < xs.length := by omega
      have s2 := st H2 S2
      have gx : atI xs ((0 : Int) + (i : Int)) = some xs[i] := by rw [Int.zero_add]; exact atn (List.getElem?_eq_getElem ix)
      have gy : atI ys ((0 : Int) + (i : Int)) = some ys[i] := by rw [Int.zero_add]; exact atn (List.getElem?_eq_getElem iy)
      refine ⟨rfl, ?_⟩
      refine ⟨_, rfl, _, rfl, rix s2.1 gx ?_⟩
      refine ⟨_, rfl, _, rfl, rix s2.2 gy ?_⟩
      refine ⟨_, _, rfl, hR _ _ _ _ S2 (hi i _ _ (List.getElem?_eq_getElem ix) (List.getElem?_eq_getElem iy)), fun H3 S3 => ?_⟩
      refine ⟨(List.replicate i true).map V.bl, S3 _ _ hD2, Nat.lt_of_le_of_lt (m := 100000) (by simp; omega) (by decide), ?_, ?_⟩
      · intro b' o e
        rw [upd_ne (ne_of_none e hD)]
        exact S3 _ _ (S2 _ _ e)
      · rw [upd_same, List.replicate_succ', List.map_append]
        rfl
    · rintro H2 ⟨S2, hD2⟩
      refine ⟨D, _, rfl, SqL.of hD2, ?_⟩
      have e : (List.replicate ((ys.length : Int)).toNat true).all id = true := by simp
      rw [e]
      exact q H2 S2
theorem ok__law_equal (T : Txt K mg) : ∀ n : Nat, OkF P w K mg base (n + 1) (He.ga K "_law_equal") ["_law_actual", "_law_expected"] (spEqOf (Sm K n))
  | 0 => eq_never T
  | n + 1 => eq_step (fun H H' v u e h => Sm.same e h) T (ok__law_equal T n)
end
theorem Sm.flats {K : PySem.W.Frag} {n : Nat} {H : Hp} {a b : Addr} {xs : List V} (h1 : SqL K H a xs) (h2 : SqL K H b xs) (hl : xs.length ≤ 100000) (hf : ∀ x ∈ xs, flat x = true) : Sm K (n + 2) H (.ref a) (.ref b) :=
  .inr (.inl ⟨a, b, xs, xs, rfl, rfl, h1, h2, rfl, hl, fun i x y hx hy => .inl ⟨Option.some.inj (hx.symm.trans hy), hf x (List.mem_of_getElem? hx)⟩⟩)
theorem Sm.int {K : PySem.W.Frag} {n : Nat} {H : Hp} {i j : Int} (h : i = j) : Sm K (n + 1) H (.int i) (.int j) := .inl ⟨by rw [h], rfl⟩
end Tk

namespace Tk
open PySem PySem.Spec PyProof.Rows L2 Mm
/-- what a turn of a law holds: the hall, the counts up to n, away from d -/
structure EnvN (C : Addr) (H : Hp) (d hh a1 b1 : Addr) (m : Nat) (tk cl : List Nat) (lt : Nat) (lp : Addr) (n : Nat) : Prop where
  hall : HallAt C H hh m tk cl lt lp
  one : H a1 = some (.lst (fV (tak tk) n))
  two : H b1 = some (.lst (fV (cal tk cl) n))
  nl : lp ≠ d
  n1 : a1 ≠ d
  n2 : b1 ≠ d
theorem EnvN.but {C : Addr} {H H' : Hp} {d hh a1 b1 lp : Addr} {m lt n : Nat} {tk cl : List Nat} {cs : List V} (e : EnvN C H d hh a1 b1 m tk cl lt lp n) (b : But d H H') (hd : H d = some (.lst cs)) : EnvN C H' d hh a1 b1 m tk cl lt lp n :=
  ⟨e.hall.but b hd e.nl, b _ _ e.n1 e.one, b _ _ e.n2 e.two, e.nl, e.n1, e.n2⟩
theorem EnvN.same {C : Addr} {H H' : Hp} {d hh a1 b1 lp : Addr} {m lt n : Nat} {tk cl : List Nat} (e : EnvN C H d hh a1 b1 m tk cl lt lp n) (b : Same H H') : EnvN C H' d hh a1 b1 m tk cl lt lp n :=
  ⟨e.hall.same b, b _ _ e.one, b _ _ e.two, e.nl, e.n1, e.n2⟩
theorem hfs_meth {m : Nat} {tp cp : Addr} {lt : Nat} {lp : Addr} {x : Str} (h : (["_called", "lateness", "calls", "takes", "modulus"] : List Str).contains x = false) : (hfs m tp cp lt lp).lookup x = none := by
  simp only [List.contains_cons, Bool.or_eq_false_iff, beq_eq_false_iff_ne] at h
  obtain ⟨h1, h2, h3, h4, h5, _⟩ := h
  exact hfs_no h1 h2 h3 h4 h5
theorem Sm.flatsT {K : PySem.W.Frag} {n : Nat} {H : Hp} {a b : Addr} {xs : List V} (h1 : SqT K H a xs) (h2 : SqT K H b xs) (hl : xs.length ≤ 100000) (hf : ∀ x ∈ xs, flat x = true) : Sm K (n + 2) H (.ref a) (.ref b) :=
  .inr (.inr ⟨a, b, xs, xs, rfl, rfl, h1, h2, rfl, hl, fun i x y hx hy => .inl ⟨Option.some.inj (hx.symm.trans hy), hf x (List.mem_of_getElem? hx)⟩⟩)
theorem Sm.flat1 {K : PySem.W.Frag} {n : Nat} {H : Hp} {v : V} (h : flat v = true) : Sm K (n + 1) H v v := .inl ⟨rfl, h⟩
theorem flat_vn {ps : List Nat} : ∀ x ∈ ps.map vn, flat x = true := fun x hx => by
  obtain ⟨n, _, rfl⟩ := List.mem_map.mp hx
  rfl
end Tk

/-! ### Readings of halls -/
namespace Tk
open PySem PySem.Spec PyProof.Rows L2 Mm
theorem HallAt.sm {C h lp : Addr} {H H' : Hp} {m lt : Nat} {tk cl : List Nat} (b : Same H H') (p : HallAt C H h m tk cl lt lp) : HallAt C H' h m tk cl lt lp := p.same b
theorem PartsAt.sm {t tp cp : Addr} {H H' : Hp} {m lt : Nat} {tk cl : List Nat} (b : Same H H') (p : PartsAt H t m tp tk cp cl lt) : PartsAt H' t m tp tk cp cl lt := p.same b
theorem PartsAt.sq {K : PySem.W.Frag} {t tp cp : Addr} {H : Hp} {m lt : Nat} {tk cl : List Nat} (p : PartsAt H t m tp tk cp cl lt) : SqT K H t [vn m, .ref tp, .ref cp, vn lt] := SqT.of p.at_
theorem Sm.sm {K : PySem.W.Frag} {H H' : Hp} {n : Nat} {v u : V} (e : Same H H') (h : Sm K n H v u) : Sm K n H' v u := Sm.same e h
inductive SmL (R : V → V → Prop) : List V → List V → Prop where
  | nil : SmL R [] []
  | cons {x y : V} {xs ys : List V} (h : R x y) (t : SmL R xs ys) : SmL R (x :: xs) (y :: ys)
theorem SmL.len {R : V → V → Prop} : ∀ {xs ys : List V}, SmL R xs ys → xs.length = ys.length
  | _, _, .nil => rfl
  | _, _, .cons _ t => by rw [List.length_cons, List.length_cons, t.len]
theorem SmL.at {R : V → V → Prop} : ∀ {xs ys : List V}, SmL R xs ys → ∀ (i : Nat) x y, xs[i]? = some x → ys[i]? = some y → R x y
  | _, _, .nil, i, x, y, h, _ => by cases h
  | _, _, .cons h t, 0, x, y, h1, h2 => by
    obtain rfl := Option.some.inj h1
    obtain rfl := Option.some.inj h2
    exact h
  | _, _, .cons h t, i + 1, x, y, h1, h2 => t.at i x y h1 h2
theorem Sm.lst {K : PySem.W.Frag} {n : Nat} {H : Hp} {a b : Addr} {xs ys : List V} (h1 : SqL K H a xs) (h2 : SqL K H b ys) (hz : xs.length ≤ 100000) (h : SmL (Sm K n H) xs ys) : Sm K (n + 1) H (.ref a) (.ref b) := .inr (.inl ⟨a, b, xs, ys, rfl, rfl, h1, h2, h.len, hz, h.at⟩)
theorem Sm.tpl {K : PySem.W.Frag} {n : Nat} {H : Hp} {a b : Addr} {xs ys : List V} (h1 : SqT K H a xs) (h2 : SqT K H b ys) (hz : xs.length ≤ 100000) (h : SmL (Sm K n H) xs ys) : Sm K (n + 1) H (.ref a) (.ref b) := .inr (.inr ⟨a, b, xs, ys, rfl, rfl, h1, h2, h.len, hz, h.at⟩)
theorem Sm.rfl1 {K : PySem.W.Frag} {n : Nat} {H : Hp} {v : V} (h : flat v = true := by rfl) : Sm K (n + 1) H v v := .inl ⟨rfl, h⟩
namespace Rd
variable {K : PySem.W.Frag} {mg : Str → Option Value} {σ : L2.St} {H : Hp} {Q : VK} {E : XK} {t : TA} {C h lp : Addr} {m lt : Nat} {tk cl : List Nat}
theorem rgK_ab {a b : Int} {lo n : Nat} (ea : a = (lo : Int)) (eb : b = ((lo + n : Nat) : Int)) (h1 : lo ≤ 4000000000000000000) (hn : n ≤ 100000) (k : ∀ q H', H q = none → Same H H' → H' q = some (.lst ((List.range n).map fun i => vn (lo + i))) → Q (.ref q) H') : rgK Q a b H := by
  subst ea eb
  have e : rgV (lo : Int) ((lo + n : Nat) : Int) = (List.range n).map fun i => vn (lo + i) := by
    unfold rgV
    rw [show (((lo + n : Nat) : Int) - (lo : Int)).toNat = n by omega]
    rfl
  refine ⟨⟨by omega, by omega, by omega, by omega, by omega⟩, fun q hq => ?_⟩
  · rw [e]
    exact k q _ hq (Same.nw hq (Same.refl H)) upd_same
theorem rgK_n {b : Int} {n : Nat} (eb : b = (n : Int)) (hn : n ≤ 100000) (k : ∀ q H', H q = none → Same H H' → H' q = some (.lst ((List.range n).map vn)) → Q (.ref q) H') : rgK Q 0 b H :=
  rgK_ab (lo := 0) rfl (by rw [Nat.zero_add]; exact eb) (by decide) hn fun q H' nq S hq => k q H' nq S (by rw [hq]; simp)
theorem f_modulus (T : Txt K mg) (hA : HallAt (He.ga K "Hall") H h m tk cl lt lp) (k : Q (vn m) H) : fldK K "modulus" Q (.ref h) H := by
  obtain ⟨dx, tp, cp, hh, htp, hcp⟩ := hA.ex
  exact ⟨h, _, dx, _, _, rfl, hh, T.cl_Hall, T.n_modulus, hfs_modulus, k⟩
theorem f_lateness (T : Txt K mg) (hA : HallAt (He.ga K "Hall") H h m tk cl lt lp) (k : Q (vn lt) H) : fldK K "lateness" Q (.ref h) H := by
  obtain ⟨dx, tp, cp, hh, htp, hcp⟩ := hA.ex
  exact ⟨h, _, dx, _, _, rfl, hh, T.cl_Hall, T.n_lateness, hfs_lateness, k⟩
theorem f_takes (T : Txt K mg) (hA : HallAt (He.ga K "Hall") H h m tk cl lt lp) (k : ∀ tp, H tp = some (.tup (tk.map vn)) → Q (.ref tp) H) : fldK K "takes" Q (.ref h) H := by
  obtain ⟨dx, tp, cp, hh, htp, hcp⟩ := hA.ex
  exact ⟨h, _, dx, _, _, rfl, hh, T.cl_Hall, T.n_takes, hfs_takes, k tp htp⟩
theorem f_calls (T : Txt K mg) (hA : HallAt (He.ga K "Hall") H h m tk cl lt lp) (k : ∀ cp, H cp = some (.tup (cl.map vn)) → Q (.ref cp) H) : fldK K "calls" Q (.ref h) H := by
  obtain ⟨dx, tp, cp, hh, htp, hcp⟩ := hA.ex
  exact ⟨h, _, dx, _, _, rfl, hh, T.cl_Hall, T.n_calls, hfs_calls, k cp hcp⟩
theorem h_meth {x : Str} {sp : Sp} (hA : HallAt C H h m tk cl lt lp) (hx : (["_called", "lateness", "calls", "takes", "modulus"] : List Str).contains x = false) (k : t σ H fun vs H2 => sp (.ref h :: vs) H2 Q E) : methK x sp C [] E t σ Q (.ref h) H := by
  obtain ⟨dx, tp, cp, hh, htp, hcp⟩ := hA.ex
  refine ⟨h, dx, _, rfl, hh, hfs_meth hx, ?_⟩
  simp only [List.append_nil]
  exact k
theorem h_prop {sp : Sp} {dvs : List V} (hA : HallAt C H h m tk cl lt lp) (k : sp (.ref h :: dvs) H Q E) : propK sp C dvs E Q (.ref h) H := by
  obtain ⟨dx, tp, cp, hh, htp, hcp⟩ := hA.ex
  exact ⟨h, dx, _, rfl, hh, k⟩
theorem h_taken {n : Nat} {z : Int} {r : List V} (hA : HallAt C H h m tk cl lt lp) (e : z.toNat = n) (k : ∀ H', Same H H' → Q (vn (tak tk n)) H') : spTaken C [.ref h, .int z] H Q E :=
  ⟨h, lp, z, m, lt, tk, cl, rfl, hA, by rw [e]; exact k⟩
theorem h_taken0 {n : Nat} (hA : HallAt C H h m tk cl lt lp) (k : ∀ H', Same H H' → Q (vn (tak tk n)) H') : spTaken C [.ref h, .int (n : Int)] H Q E := h_taken (r := []) hA (by omega) k
theorem h_taken1 {n : Nat} (hA : HallAt C H h m tk cl lt lp) (k : ∀ H', Same H H' → Q (vn (tak tk (n + 1))) H') : spTaken C [.ref h, .int ((n : Int) + 1)] H Q E := h_taken (r := []) hA (by omega) k
theorem h_takenL {n j : Nat} (hA : HallAt C H h m tk cl lt lp) (k : ∀ H', Same H H' → Q (vn (tak tk (n - j))) H') : spTaken C [.ref h, .int ((n : Int) - (j : Int))] H Q E := h_taken (r := []) hA (by omega) k
theorem h_called {n : Nat} {z : Int} {r : List V} (hA : HallAt C H h m tk cl lt lp) (e : z.toNat = n) (k : Q (vn (cal tk cl n)) H) : spCalled C [.ref h, .int z] H Q E :=
  ⟨h, lp, z, m, lt, tk, cl, rfl, hA, by rw [e]; exact k⟩
theorem h_called0 {n : Nat} (hA : HallAt C H h m tk cl lt lp) (k : Q (vn (cal tk cl n)) H) : spCalled C [.ref h, .int (n : Int)] H Q E := h_called (r := []) hA (by omega) k
theorem h_called1 {n : Nat} (hA : HallAt C H h m tk cl lt lp) (k : Q (vn (cal tk cl (n + 1))) H) : spCalled C [.ref h, .int ((n : Int) + 1)] H Q E := h_called (r := []) hA (by omega) k
theorem h_calledL {n j : Nat} (hA : HallAt C H h m tk cl lt lp) (k : Q (vn (cal tk cl (n - j))) H) : spCalled C [.ref h, .int ((n : Int) - (j : Int))] H Q E := h_called (r := []) hA (by omega) k
theorem h_waiting {n : Nat} (hA : HallAt C H h m tk cl lt lp) (hn : n ≤ 1000000000000000000) (k : ∀ H', Same H H' → Q (vn (wt tk cl (n + 1))) H') : spWaiting C [.ref h, .int (n : Int)] H Q E := ⟨h, lp, n, m, lt, tk, cl, rfl, hn, hA, k⟩
theorem h_growth (hA : HallAt C H h m tk cl lt lp) (k : ∀ H', Same H H' → Q (vn (grow tk cl)) H') : spGrowth C [.ref h] H Q E := ⟨h, lp, m, lt, tk, cl, rfl, hA, k⟩
theorem h_period (hA : HallAt C H h m tk cl lt lp) (k : Q (vn (per tk cl)) H) : spPeriod C [.ref h] H Q E := by
  obtain ⟨dx, tp, cp, hh, htp, hcp⟩ := hA.ex
  exact ⟨h, dx, tp, cp, _, tk, cl, rfl, hh, hfs_takes, hfs_calls, htp, hcp, hA.ok.tkP, hA.ok.clP, k⟩
theorem h_lhall {tp cp p : Addr} (hP : PartsAt H p m tp tk cp cl lt) (k : ∀ h lp H', H h = none → H lp = none → Same H H' → HallAt C H' h m tk cl lt lp → Q (.ref h) H') : spLHall C [.ref p] H Q E := ⟨p, tp, cp, m, lt, tk, cl, rfl, hP, k⟩
theorem h_length {tp cp p : Addr} (hP : PartsAt H p m tp tk cp cl lt) (k : Q (vn (per tk cl)) H) : spLength [.ref p] H Q E := ⟨p, tp, cp, m, lt, tk, cl, rfl, hP, k⟩
theorem h_counts {tp cp p : Addr} {n : Nat} (hP : PartsAt H p m tp tk cp cl lt) (hn : n ≤ 10000) (k : ∀ r a b H', H r = none → H a = none → H b = none → a ≠ b → Same H H' → H' r = some (.tup [.ref a, .ref b]) → H' a = some (.lst (fV (tak tk) n)) → H' b = some (.lst (fV (cal tk cl) n)) → Q (.ref r) H') :
    spCounts [.ref p, .int (n : Int)] H Q E := ⟨p, tp, cp, m, lt, tk, cl, n, rfl, hP, hn, k⟩
theorem h_countsL {tp cp p : Addr} {n : Nat} (hP : PartsAt H p m tp tk cp cl lt) (hn : n ≤ 10000) (k : ∀ r a b H', H r = none → H a = none → H b = none → a ≠ b → Same H H' → H' r = some (.tup [.ref a, .ref b]) → H' a = some (.lst (fV (tak tk) (OfNat.ofNat n : Nat))) → H' b = some (.lst (fV (cal tk cl) (OfNat.ofNat n : Nat))) → Q (.ref r) H') :
    spCounts [.ref p, .int (OfNat.ofNat n : Int)] H Q E := h_counts hP hn k
theorem ixF {f : Nat → Nat} {n i : Nat} {p : Addr} (hq : H p = some (.lst (fV f n))) (hi : i ≤ n) (k : Q (vn (f i)) H) : rIxL K (.ref p) (.int (i : Int)) H Q := ixL (SqL.of hq) (atn (fV_at hi)) k
theorem ixF1 {f : Nat → Nat} {n i : Nat} {p : Addr} (hq : H p = some (.lst (fV f n))) (hi : i + 1 ≤ n) (k : Q (vn (f (i + 1))) H) : rIxL K (.ref p) (.int ((i : Int) + 1)) H Q := ixL (SqL.of hq) (by rw [show ((i : Int) + 1) = ((i + 1 : Nat) : Int) by omega]; exact atn (fV_at hi)) k
theorem h_equal {n : Nat} {v u : V} (h : Sm K n H v u) (k : ∀ H', Same H H' → Q (.bl true) H') : spEqOf (Sm K n) [v, u] H Q E := ⟨v, u, rfl, h, k⟩
theorem h_make {tp cp : Addr} (hP : Parts m tk cl lt) (htp : H tp = some (.tup (tk.map vn))) (hcp : H cp = some (.tup (cl.map vn))) (k : ∀ h lp H', H h = none → H lp = none → Same H H' → HallAt C H' h m tk cl lt lp → Q (.ref h) H') :
    makeK C (spInit C) [] E Q [vn m, .ref tp, .ref cp, vn lt] H := fun x dx nx ndx nex => by
  have S1 : Same H (upd (upd H dx (.own x)) x (.ins C dx [])) := fun b o e => by
    rw [upd_ne (ne_of_none e nx), upd_ne (ne_of_none e ndx)]
    exact e
  refine ⟨x, dx, tp, cp, m, lt, tk, cl, rfl, upd_same, S1 _ _ htp, S1 _ _ hcp, hP, fun H' lp B n hA => ⟨rfl, ?_⟩⟩
  exact k x lp H' nx (S1.free n) (fun b o e => B b o (ne_of_none e nx) (S1 b o e)) hA
/-- the parts' items -/
theorem p_0 {tp cp p : Addr} (hP : PartsAt H p m tp tk cp cl lt) (k : Q (vn m) H) : rIxT K (.ref p) (.int 0) H Q := ixT (SqT.of hP.at_) (at3 (j := 0) rfl) k
theorem p_1 {tp cp p : Addr} (hP : PartsAt H p m tp tk cp cl lt) (k : H tp = some (.tup (tk.map vn)) → Q (.ref tp) H) : rIxT K (.ref p) (.int 1) H Q := ixT (SqT.of hP.at_) (at3 (j := 1) rfl) (k hP.tkA)
theorem p_2 {tp cp p : Addr} (hP : PartsAt H p m tp tk cp cl lt) (k : H cp = some (.tup (cl.map vn)) → Q (.ref cp) H) : rIxT K (.ref p) (.int 2) H Q := ixT (SqT.of hP.at_) (at3 (j := 2) rfl) (k hP.clA)
theorem p_3 {tp cp p : Addr} (hP : PartsAt H p m tp tk cp cl lt) (k : Q (vn lt) H) : rIxT K (.ref p) (.int 3) H Q := ixT (SqT.of hP.at_) (at3 (j := 3) rfl) k
end Rd
end Tk

/-! ### Data: what a value is worth -/
namespace Tk
open PySem PySem.Spec PyProof.Rows L2
abbrev dN (n : Nat) : PyData := .int (n : Int)
/-- data without dicts and bools, at most n deep, no list too long -/
def Sml : Nat → PyData → Prop
  | 0, _ => False
  | n + 1, .list xs => xs.length ≤ 100000 ∧ ∀ x ∈ xs, Sml n x
  | n + 1, .tuple xs => xs.length ≤ 100000 ∧ ∀ x ∈ xs, Sml n x
  | _ + 1, .dict _ => False
  | _ + 1, .bool _ => False
  | _ + 1, .none => True
  | _ + 1, .int _ => True
  | _ + 1, .str x => PyData.strOk x = true
theorem Sml.ints {n : Nat} {ns : List Nat} (h : ns.length ≤ 100000) : Sml (n + 2) (.list (ns.map dN)) := ⟨by rw [List.length_map]; exact h, fun x hx => by
  obtain ⟨m, _, rfl⟩ := List.mem_map.mp hx
  trivial⟩
theorem Sml.intsT {n : Nat} {ns : List Nat} (h : ns.length ≤ 100000) : Sml (n + 2) (.tuple (ns.map dN)) := ⟨by rw [List.length_map]; exact h, fun x hx => by
  obtain ⟨m, _, rfl⟩ := List.mem_map.mp hx
  trivial⟩
theorem Sml.mono : ∀ {n : Nat} {d : PyData}, Sml n d → Sml (n + 1) d
  | 0, _, h => h.elim
  | n + 1, .list xs, h => ⟨h.1, fun x hx => (h.2 x hx).mono⟩
  | n + 1, .tuple xs, h => ⟨h.1, fun x hx => (h.2 x hx).mono⟩
  | n + 1, .dict _, h => h.elim
  | n + 1, .bool _, h => h.elim
  | n + 1, .none, _ => trivial
  | n + 1, .int _, _ => trivial
  | n + 1, .str _, h => h
theorem Sml.up {n m : Nat} {d : PyData} (h : Sml n d) (l : n ≤ m) : Sml m d := by
  induction l with
  | refl => exact h
  | step _ ih => exact ih.mono
theorem canAll : ∀ {xs : List PyData}, (∀ x ∈ xs, x.canLay0 = true) → PyData.canLayAll0 xs = true
  | [], _ => rfl
  | x :: xs, h => by
    simp only [PyData.canLayAll0, h x List.mem_cons_self, canAll fun y hy => h y (List.mem_cons_of_mem _ hy), Bool.and_self]
theorem depAll {n : Nat} : ∀ {xs : List PyData}, (∀ x ∈ xs, x.depth ≤ n) → PyData.depthAll xs ≤ n
  | [], _ => Nat.zero_le _
  | x :: xs, h => by
    have a := h x List.mem_cons_self
    have b := depAll fun y hy => h y (List.mem_cons_of_mem x hy)
    show max _ _ ≤ n
    omega
theorem sml_lay : ∀ {n : Nat} {d : PyData}, Sml n d → d.canLay0 = true ∧ d.depth ≤ n
  | 0, _, h => h.elim
  | n + 1, .list xs, h => by
    have z := fun x hx => sml_lay (h.2 x hx)
    exact ⟨by simpa [PyData.canLay0] using canAll fun x hx => (z x hx).1, Nat.succ_le_succ (depAll fun x hx => (z x hx).2)⟩
  | n + 1, .tuple xs, h => by
    have z := fun x hx => sml_lay (h.2 x hx)
    exact ⟨by simpa [PyData.canLay0] using canAll fun x hx => (z x hx).1, Nat.succ_le_succ (depAll fun x hx => (z x hx).2)⟩
  | n + 1, .dict _, h => h.elim
  | n + 1, .bool _, h => h.elim
  | n + 1, .none, _ => ⟨rfl, Nat.zero_le _⟩
  | n + 1, .int _, _ => ⟨rfl, Nat.zero_le _⟩
  | n + 1, .str x, h => ⟨by have h : PyData.strOk x = true := h; simpa [PyData.canLay0] using h, Nat.zero_le _⟩
theorem sml_shaped {n : Nat} {d : PyData} (h : Sml n d) (hn : n ≤ 64) : SeqAt.shaped d = true := by
  obtain ⟨a, b⟩ := sml_lay h
  unfold SeqAt.shaped
  rw [a, decide_eq_true (Nat.le_trans b hn)]
  rfl
theorem eqvAll_iff : ∀ {xs ys : List PyData}, (∀ x ∈ xs, ∀ y ∈ ys, PyData.eqv x y = true ↔ x = y) → (PyData.eqvAll xs ys = true ↔ xs = ys)
  | [], [], _ => by simp [PyData.eqvAll]
  | [], _ :: _, _ => by simp [PyData.eqvAll]
  | _ :: _, [], _ => by simp [PyData.eqvAll]
  | x :: xs, y :: ys, h => by
    rw [PyData.eqvAll, Bool.and_eq_true, h x List.mem_cons_self y List.mem_cons_self, eqvAll_iff fun a ha b hb => h a (List.mem_cons_of_mem _ ha) b (List.mem_cons_of_mem _ hb), List.cons.injEq]
theorem eqv_iff : ∀ {n : Nat} {d e : PyData}, Sml n d → Sml n e → (PyData.eqv d e = true ↔ d = e)
  | 0, _, _, h, _ => h.elim
  | n + 1, .list xs, e, h, g => by
    cases e with
    | list ys =>
      rw [PyData.eqv, eqvAll_iff fun x hx y hy => eqv_iff (h.2 x hx) (g.2 y hy)]
      simp
    | _ => simp [PyData.eqv]
  | n + 1, .tuple xs, e, h, g => by
    cases e with
    | tuple ys =>
      rw [PyData.eqv, eqvAll_iff fun x hx y hy => eqv_iff (h.2 x hx) (g.2 y hy)]
      simp
    | _ => simp [PyData.eqv]
  | n + 1, .dict _, _, h, _ => h.elim
  | n + 1, .bool _, _, h, _ => h.elim
  | n + 1, .none, e, _, _ => by cases e <;> simp [PyData.eqv]
  | n + 1, .int i, e, _, g => by
    cases e with
    | bool _ => exact g.elim
    | _ => simp [PyData.eqv]
  | n + 1, .str _, e, _, _ => by cases e <;> simp [PyData.eqv]
section
variable {K : PySem.W.Frag} {H H' : Hp}
theorem dp_sm {v : V} {d : PyData} (S : Same H H') : L2.Dp K H v d → L2.Dp K H' v d := fun h => by
  refine L2.Dp.rec (motive_1 := fun v d _ => L2.Dp K H' v d) (motive_2 := fun vs ds _ => DpAll K H' vs ds) .non .bl .int .str (fun h1 _ ih => .lst (S.seq h1) ih) (fun h1 _ ih => .tup (sqt_sm S h1) ih) .nil (fun _ _ i1 i2 => .cons i1 i2) h
theorem dpA_sm {vs : List V} {ds : List PyData} (S : Same H H') (h : DpAll K H vs ds) : DpAll K H' vs ds := by
  induction vs generalizing ds with
  | nil => cases h; exact .nil
  | cons v vs ih =>
    cases h with
    | cons h1 h2 => exact .cons (dp_sm S h1) (ih h2)
theorem dpA_len {vs : List V} {ds : List PyData} (h : DpAll K H vs ds) : vs.length = ds.length := by
  induction vs generalizing ds with
  | nil => cases h; rfl
  | cons v vs ih =>
    cases h with
    | cons h1 h2 => rw [List.length_cons, List.length_cons, ih h2]
theorem dpA_at {vs : List V} {ds : List PyData} (h : DpAll K H vs ds) {i : Nat} {v : V} (hv : vs[i]? = some v) : ∃ d, ds[i]? = some d ∧ L2.Dp K H v d := by
  induction vs generalizing ds i with
  | nil => cases hv
  | cons v vs ih =>
    cases h with
    | cons h1 h2 =>
      cases i with
      | zero => cases hv; exact ⟨_, rfl, h1⟩
      | succ i => exact ih h2 hv
theorem dpA_app {vs us : List V} {ds es : List PyData} (h : DpAll K H vs ds) (g : DpAll K H us es) : DpAll K H (vs ++ us) (ds ++ es) := by
  induction vs generalizing ds with
  | nil => cases h; exact g
  | cons v vs ih =>
    cases h with
    | cons h1 h2 => exact .cons h1 (ih h2)
theorem dpA_map {α : Type} {l : List α} {f : α → V} {g : α → PyData} (h : ∀ x ∈ l, L2.Dp K H (f x) (g x)) : DpAll K H (l.map f) (l.map g) := by
  induction l with
  | nil => exact .nil
  | cons a l ih => exact .cons (h a List.mem_cons_self) (ih fun x hx => h x (List.mem_cons_of_mem _ hx))
theorem dp_nats (l : List Nat) : DpAll K H (l.map vn) (l.map dN) := dpA_map fun _ _ => .int _
theorem dp_int {i : Int} : L2.Dp K H (.int i) (.int i) := .int i
theorem dp_ofall {vs : List V} {n : Nat} (g : Nat → PyData) (hl : vs.length = n) (h : ∀ (i : Nat) v, vs[i]? = some v → L2.Dp K H v (g i)) : DpAll K H vs ((List.range n).map g) := by
  induction vs generalizing n g with
  | nil => subst hl; exact .nil
  | cons v vs ih =>
    subst hl
    rw [List.length_cons, List.range_succ_eq_map, List.map_cons, List.map_map]
    exact .cons (h 0 v rfl) (ih (fun i => g (i + 1)) rfl fun i v hv => h (i + 1) v hv)
/-- the same data -/
theorem Sm.dp : ∀ {n : Nat} {d : PyData} {v u : V}, L2.Dp K H v d → L2.Dp K H u d → Sml n d → Sm K n H v u
  | 0, _, _, _, _, _, h => h.elim
  | n + 1, _, _, _, .non, .non, _ => .inl ⟨rfl, rfl⟩
  | n + 1, _, _, _, .int _, .int _, _ => .inl ⟨rfl, rfl⟩
  | n + 1, _, _, _, .str _, .str _, _ => .inl ⟨rfl, rfl⟩
  | n + 1, _, _, _, .bl _, .bl _, h => h.elim
  | n + 1, _, _, _, .lst h1 a1, .lst h2 a2, h => by
    have l1 := (dpA_len a1)
    have l2 := (dpA_len a2)
    refine .inr (.inl ⟨_, _, _, _, rfl, rfl, h1, h2, by omega, by have := h.1; omega, fun i x y hx hy => ?_⟩)
    obtain ⟨d, hd, r⟩ := dpA_at a1 hx
    obtain ⟨e, he, q⟩ := dpA_at a2 hy
    obtain rfl := Option.some.inj (hd.symm.trans he)
    exact Sm.dp r q (h.2 _ (List.mem_of_getElem? hd))
  | n + 1, _, _, _, .tup h1 a1, .tup h2 a2, h => by
    have l1 := (dpA_len a1)
    have l2 := (dpA_len a2)
    refine .inr (.inr ⟨_, _, _, _, rfl, rfl, h1, h2, by omega, by have := h.1; omega, fun i x y hx hy => ?_⟩)
    obtain ⟨d, hd, r⟩ := dpA_at a1 hx
    obtain ⟨e, he, q⟩ := dpA_at a2 hy
    obtain rfl := Option.some.inj (hd.symm.trans he)
    exact Sm.dp r q (h.2 _ (List.mem_of_getElem? hd))
namespace Rd
variable {Q : VK} {E : XK}
theorem h_eqd {n : Nat} {v u : V} {d : PyData} (h1 : L2.Dp K H v d) (h2 : L2.Dp K H u d) (hd : Sml n d) (k : ∀ H', Same H H' → Q (.bl true) H') : spEqOf (Sm K n) [v, u] H Q E := ⟨v, u, rfl, Sm.dp h1 h2 hd, k⟩
open Classical in
theorem eqd {v u : V} {d e : PyData} (h1 : L2.Dp K H v d) (h2 : L2.Dp K H u e) (hd : Sml 8 d) (he : Sml 8 e) (k : Q (.bl (decide (d = e))) H) : rEqD K v u H Q := by
  refine ⟨d, e, h1, h2, sml_shaped hd (by decide), sml_shaped he (by decide), ?_⟩
  have z : PyData.eqv d e = decide (d = e) := by
    by_cases c : d = e
    · rw [(eqv_iff hd he).mpr c, decide_eq_true c]
    · rw [decide_eq_false c]
      cases q : PyData.eqv d e with
      | false => rfl
      | true => exact absurd ((eqv_iff hd he).mp q) c
  rw [z]
  exact k
open Classical in
theorem ned {v u : V} {d e : PyData} (h1 : L2.Dp K H v d) (h2 : L2.Dp K H u e) (hd : Sml 8 d) (he : Sml 8 e) (k : Q (.bl (!decide (d = e))) H) : rNeD K v u H Q := by
  refine ⟨d, e, h1, h2, sml_shaped hd (by decide), sml_shaped he (by decide), ?_⟩
  have z : PyData.eqv d e = decide (d = e) := by
    by_cases c : d = e
    · rw [(eqv_iff hd he).mpr c, decide_eq_true c]
    · rw [decide_eq_false c]
      cases q : PyData.eqv d e with
      | false => rfl
      | true => exact absurd ((eqv_iff hd he).mp q) c
  rw [z]
  exact k
end Rd
end
end Tk

/-! ### list(range(a, b, c)) -/
namespace Tk
open PySem PySem.Spec PyProof.Rows L2 Mm
def tLstRg3 (ta : TA) : TE := fun σ H Q => ta σ H fun vs H1 => ∃ (i j c : Int) (n : Nat), vs = [.int i, .int j, .int c] ∧ RgC i j c n ∧ n ≤ 2 ^ 24 ∧ ∀ q, H1 q = none → Q (.ref q) (upd H1 q (.lst ((List.range n).map fun k => V.int (i + (k : Nat) * c))))
section
variable {X : Cx} {a b c : Expr} {ta : TA}
theorem pe_listRg3 {p pos p2 pos2 : Pos} (hc : X.calm = true) (hgl : Gl X "list") (hml : X.mg "list" = none) (hg : Gl X "range") (hm : X.mg "range" = none) (ha : PA X [a, b, c] ta)
    (hs : starEach [a, b, c] X.env = (false, eval a X.env) :: starEach [b, c] X.env := by rfl) (hpl : (backTo pos2 (starEach [b, c] X.env)).any (·.1) = false := by rfl)
    (na : starEach [.Call (.Name "range" p2) [a, b, c] [] pos2] X.env = (false, eval (.Call (.Name "range" p2) [a, b, c] [] pos2) X.env) :: starEach [] X.env := by rfl) :
    PE X (.Call (.Name "list" p) [.Call (.Name "range" p2) [a, b, c] [] pos2] [] pos) (tLstRg3 ta) := by
  refine ⟨fun pins s σ H Q I h => ?_⟩
  have inner : wpAny (model X.prog X.w) X.A (eval (.Call (.Name "range" p2) [a, b, c] [] pos2) X.env) (fun x s' => ∃ r i j k n t u v H', x = Value.ref r ∧ IsRange s'.heap r i j k t u v ∧ Inv X pins σ H' s' ∧ RgC i j k n ∧ n ≤ 2 ^ 24 ∧
      ∀ q, H' q = none → Q (.ref q) (upd H' q (.lst ((List.range n).map fun m => V.int (i + (m : Nat) * k))))) X.xe s := by
    refine Call_ (ld_blt I hg hm boot_range (PyProof.Rows.callWith_type1 (thn (ha.run pos2 pins s σ H _ I h) fun us s1 ⟨vs, H1, I1, r1, q1⟩ => ?_) hs hpl))
    obtain ⟨i, j, k, n, e, hR, hz, q⟩ := q1
    subst e
    cases r1 with
    | cons r rr =>
      cases rr with
      | cons r' rr =>
        cases rr with
        | cons r'' rr =>
          cases rr
          obtain ⟨t, rfl⟩ := r
          obtain ⟨t', rfl⟩ := r'
          obtain ⟨t'', rfl⟩ := r''
          refine call_range_3 hR.1 ?_ (.inl (PyProof.noPylong_small hR.2.1))
          exact ⟨_, i, j, k, n, _, _, _, H1, rfl, IsRange.new _ _ _ _ _ _ _, I1.kept fun b u e => Heap.get?_push_of_some _ e, hR, hz, q⟩
  refine Call_ (ld_blt I hgl hml boot_list (PyProof.Rows.callWith_type1 (args_cons (thn inner fun x s1 ⟨r, i, j, k, n, t, u, v, H1, ex, hr, I1, hR, hz, q⟩ => args_nil ?_) na) na))
  subst ex
  obtain ⟨c0, c1, c2, c3⟩ := hR
  refine call_list_range (n := n) (I1.ok.hd hc) hr c2 c3 hz fun h' tk acc c' hk e' hi => ?_
  have vals : Vals ((List.range n).map fun m => V.int (i + (m : Nat) * k)) acc.toList := by
    have e : acc.toList.length = n := by rw [Array.length_toList]; exact hi.1
    rw [← e]
    refine vals_of_get acc.toList _ fun m u hm => ?_
    obtain ⟨t, rfl⟩ := hi.2 m u (by rw [← hm, Array.getElem?_toList])
    exact ⟨t, rfl⟩
  refine ⟨.ref s1.heap.objs.size, upd H1 s1.heap.objs.size (.lst _), I1.laid hk (Nat.le_refl _) (show ObjOk X.prog X.w _ _ _ (.lst _) from ⟨?_, acc.toList, c', vals, ?_⟩), rfl, q _ (I1.hok.fresh (Nat.le_refl _))⟩
  · rw [List.length_map, List.length_range, sizeLine_eq]; omega
  · rw [Array.toArray_toList]; exact e'
end
/-- the numbers from a on and below b that leave the rest d -/
def resL (a b d m : Nat) : List Nat := ((List.range (b - a)).map fun i => a + i).filter fun n => decide (n % m = d)
/-- how the steps tell them -/
theorem res_steps {a d m : Nat} (hm : 0 < m) (hd : d < m) : ∀ b, resL a b d m = (List.range ((b - (a + (d + (m - a % m)) % m) + m - 1) / m)).map fun k => (a + (d + (m - a % m)) % m) + k * m
  | 0 => by
    unfold resL
    rw [Nat.zero_sub, Nat.zero_sub, Nat.zero_add, Nat.div_eq_of_lt (by omega)]
    rfl
  | b + 1 => by
    have ih := res_steps (a := a) hm hd b
    generalize hs : a + (d + (m - a % m)) % m = s at *
    have am := Nat.mod_lt a hm
    have sm : s % m = d := by
      rw [← hs, Nat.add_mod_mod, show a + (d + (m - a % m)) = d + (a - a % m + m) by have := Nat.mod_le a m; omega]
      have : (a - a % m + m) % m = 0 := by
        rw [Nat.add_mod_right]
        have := Nat.div_add_mod a m
        rw [show a - a % m = m * (a / m) by omega, Nat.mul_mod_right]
      rw [Nat.add_mod, this, Nat.add_zero, Nat.mod_mod, Nat.mod_eq_of_lt hd]
    have sa : a ≤ s := by omega
    have sb : s < a + m := by
      have := Nat.mod_lt (d + (m - a % m)) hm
      omega
    -- is b the next one?
    by_cases hab : a ≤ b
    · have e1 : resL a (b + 1) d m = resL a b d m ++ if b % m = d then [b] else [] := by
        unfold resL
        rw [show b + 1 - a = (b - a) + 1 by omega, List.range_succ, List.map_append, List.filter_append]
        congr 1
        rw [List.map_singleton, show a + (b - a) = b by omega]
        by_cases c : b % m = d <;> simp [c]
      rw [e1, ih]
      by_cases c : b % m = d
      · rw [if_pos c]
        have ge : s ≤ b := by
          refine Nat.le_of_not_lt fun lt => ?_
          have e : (s - b) % m = 0 := Nat.sub_mod_eq_zero_of_mod_eq (by rw [sm, c])
          have := Nat.mod_eq_of_lt (show s - b < m by omega)
          omega
        obtain ⟨k, hk⟩ : ∃ k, b = s + k * m := by
          have e : (b - s) % m = 0 := Nat.sub_mod_eq_zero_of_mod_eq (by rw [sm, c])
          have := Nat.div_add_mod (b - s) m
          refine ⟨(b - s) / m, ?_⟩
          rw [Nat.mul_comm]
          omega
        have q1 : (b - s + m - 1) / m = k := by
          rw [show b - s + m - 1 = (m - 1) + k * m by omega, Nat.add_mul_div_right _ _ hm, Nat.div_eq_of_lt (by omega), Nat.zero_add]
        have q2 : (b + 1 - s + m - 1) / m = k + 1 := by
          rw [show b + 1 - s + m - 1 = (k + 1) * m by rw [Nat.add_mul]; omega, Nat.mul_div_cancel _ hm]
        rw [q1, q2, List.range_succ, List.map_append, List.map_singleton, ← hk]
      · rw [if_neg c, List.append_nil]
        congr 2
        rcases Nat.lt_or_ge b s with lt | ge
        · rw [show b - s = 0 by omega, show b + 1 - s = 0 by omega]
        · have e2 : b + 1 - s + m - 1 = (b - s + m - 1) + 1 := by omega
          rw [e2, Nat.succ_div, if_neg]
          · rfl
          · intro dv
            refine c ?_
            have : (b - s) % m = 0 := by
              rw [show b - s + m - 1 + 1 = (b - s) + m by omega] at dv
              have := Nat.mod_eq_zero_of_dvd dv
              rwa [Nat.add_mod_right] at this
            have dm := Nat.div_add_mod (b - s) m
            rw [show b = s + m * ((b - s) / m) by omega, Nat.add_mul_mod_self_left, sm]
    · unfold resL
      rw [show b + 1 - a = 0 by omega, show b + 1 - s = 0 by omega, Nat.zero_add, Nat.div_eq_of_lt (by omega)]
      rfl
namespace Rd
variable {σ : L2.St} {H : Hp} {Q : VK} {ta : TA}
def rg3K (Q : VK) : List V → Hp → Prop := fun vs H1 => ∃ (i j c : Int) (n : Nat), vs = [.int i, .int j, .int c] ∧ RgC i j c n ∧ n ≤ 2 ^ 24 ∧ ∀ q, H1 q = none → Q (.ref q) (upd H1 q (.lst ((List.range n).map fun k => V.int (i + (k : Nat) * c))))
theorem lrg3 (k : ta σ H (rg3K Q)) : tLstRg3 ta σ H Q := k
end Rd
theorem rgC_up {s b m : Nat} (hm : 0 < m) (h1 : m ≤ 1000000) (hs : s ≤ 4500000000000000000) (hb : b ≤ 4500000000000000000) : RgC (s : Int) (b : Int) (m : Int) ((b - s + m - 1) / m) := by
  have rz : Builtin.Range.rangeSize (s : Int) (b : Int) (m : Int) = (((b - s + m - 1) / m : Nat) : Int) := by
    unfold Builtin.Range.rangeSize
    rw [if_pos (by omega)]
    by_cases lt : s < b
    · rw [if_pos (by omega), show (b : Int) - (s : Int) - 1 = ((b - s - 1 : Nat) : Int) by omega, show b - s + m - 1 = (b - s - 1) + m by omega, Nat.add_div_right _ hm, ← Int.natCast_ediv]
      rfl
    · rw [if_neg (by omega), show b - s = 0 by omega, Nat.zero_add, Nat.div_eq_of_lt (by omega)]
      rfl
  have hq : (b - s + m - 1) / m ≤ b - s + m - 1 := Nat.div_le_self _ _
  refine ⟨by omega, by omega, ?_, rz⟩
  unfold Builtin.Range.small
  rw [rz]
  generalize (b - s + m - 1) / m = q at *
  simp only [Builtin.Range.rangeFitsLong, Bool.and_eq_true, Bool.or_eq_true, decide_eq_true_eq, beq_iff_eq]
  rw [if_pos (by omega)]
  simp only [Bool.and_eq_true, decide_eq_true_eq]
  omega
end Tk

/-! ### Comprehensions by two walks; items told by their data -/
namespace Tk
open PySem PySem.Spec PyProof.Rows L2 Mm
namespace Rd
variable {K : PySem.W.Frag} {σ : L2.St} {H : Hp} {Q : VK} {te : TE} {tt tt1 : L2.TT}
def lc2K (g : TG) (tt : L2.TT) (wi1 : TI) (g1 : TG) (tt1 : L2.TT) (te : TE) (vs vs1 : List Nat) (σ : L2.St) (Q : VK) (J : It) (H1 : Hp) : Prop := ∀ D, H1 D = none → ∃ W : Nat → Nat → Hp → Prop, (∃ m, W 0 m (upd H1 D (.lst []))) ∧ ∀ i m H, W i m H →
  (J.stop i H ∧ Q (.ref D) H) ∨ (J.go i H ∧ ∃ Nx : Hp → Prop, (∀ H', Nx H' → ∃ m', m' < m ∧ W (i + 1) m' H') ∧ ∀ x H', J.yld i H x H' → g x (wipe σ vs) H' fun σ2 H2 => wipe σ2 vs = wipe σ vs ∧ tt σ2 H2 fun b H3 =>
    if b = true then wi1 σ2 H3 fun J1 H4 => ∃ W1 : Nat → Nat → Hp → Prop, (∃ m, W1 0 m H4) ∧ ∀ j k H, W1 j k H →
      (J1.stop j H ∧ Nx H) ∨ (J1.go j H ∧ ∃ Nx1 : Hp → Prop, (∀ H', Nx1 H' → ∃ k', k' < k ∧ W1 (j + 1) k' H') ∧ ∀ x H', J1.yld j H x H' → g1 x (wipe σ2 vs1) H' fun σ3 H5 => wipe σ3 vs1 = wipe σ2 vs1 ∧ tt1 σ3 H5 fun b H6 =>
        if b = true then te σ3 H6 fun y H7 => ∃ acc, H7 D = some (.lst acc) ∧ acc.length < sizeLine ∧ Nx1 (upd H7 D (.lst (acc ++ [y]))) else Nx1 H6)
    else Nx H3)
theorem tlc2 {wi wi1 : TI} {g g1 : TG} {vs vs1 : List Nat} (k : wi σ H (lc2K g tt wi1 g1 tt1 te vs vs1 σ Q)) : tLc2 wi g tt wi1 g1 tt1 te vs vs1 σ H Q := k
/-- [e for i in range(lo, lo + n) for x in a list of numbers] -/
theorem lc2_rng {lo : Int} {n i1 i2 N : Nat} {wi1 : TI} {vs vs1 : List Nat} (L : Nat → List Nat) (f : Nat → Nat → PyData) (hN : ((List.range n).flatMap fun i => (L i).map (f i)).length ≤ N) (hN2 : N ≤ 100000)
    (hw1 : ∀ v : V, wipe ((wipe σ vs).set i1 (some v)) vs = wipe σ vs) (hw2 : ∀ v u : V, wipe ((wipe ((wipe σ vs).set i1 (some v)) vs1).set i2 (some u)) vs1 = wipe ((wipe σ vs).set i1 (some v)) vs1)
    (hi : ∀ i : Nat, i < n → ∀ H', Same H H' → ∀ R : It → Hp → Prop, (∀ l H'', H' l = none → Same H' H'' → H'' l = some (.lst ((L i).map vn)) → R (Itl K l) H'') → wi1 ((wipe σ vs).set i1 (some (.int (lo + i)))) H' R)
    (he : ∀ i x : Nat, i < n → x ∈ L i → ∀ H' D, H D = none → Same H H' → H' D ≠ none → ∀ Q' : VK, (∀ y H'', Same H' H'' → (∀ Hx, But D H'' Hx → L2.Dp K Hx y (f i x)) → Q' y H'') → te ((wipe ((wipe σ vs).set i1 (some (.int (lo + i)))) vs1).set i2 (some (vn x))) H' Q')
    (k : ∀ D ys H', H D = none → Same H H' → H' D = some (.lst ys) → DpAll K H' ys ((List.range n).flatMap fun i => (L i).map (f i)) → Q (.ref D) H') :
    lc2K (gName i1) tYes wi1 (gName i2) tYes te vs vs1 σ Q (Itr lo n) H := fun D hD => by
  have key : ∀ (ds : List PyData) (H2 : Hp) (ys : List V), (∀ Hx, But D H2 Hx → DpAll K Hx ys ds) → ys.length = ds.length := fun ds H2 ys h => dpA_len (h H2 fun _ _ _ e => e)
  let P : List PyData → Hp → Prop := fun ds H2 => ∃ ys : List V, Same H H2 ∧ H2 D = some (.lst ys) ∧ ∀ Hx, But D H2 Hx → DpAll K Hx ys ds
  refine ⟨fun i m H2 => m = n - i ∧ i ≤ n ∧ P ((List.range i).flatMap fun i => (L i).map (f i)) H2, ⟨n, by simp, Nat.zero_le _, [], Same.nw hD (Same.refl H), upd_same, fun _ _ => .nil⟩, ?_⟩
  rintro i m H2 ⟨rfl, hin, ys, S2, h2, d2⟩
  by_cases hlt : i < n
  · refine .inr ⟨hlt, P ((List.range (i + 1)).flatMap fun i => (L i).map (f i)), fun H' p' => ⟨n - (i + 1), by omega, rfl, hlt, p'⟩, fun x H' y => ?_⟩
    obtain ⟨e, y⟩ := y
    subst e y
    refine ⟨hw1 _, yes (ift (hi i hlt _ S2 _ fun l H3 nl S3 hl => ?_))⟩
    have nDl : l ≠ D := fun q => by
      rw [q, h2] at nl
      cases nl
    have step : ∀ {Ha Hb : Hp}, Same Ha Hb → ∀ {Hx : Hp}, But D Hb Hx → But D Ha Hx := fun S _ b c o ne e => b c o ne (S _ _ e)
    refine ⟨fun j k H4 => k = (L i).length - j ∧ j ≤ (L i).length ∧ H4 l = some (.lst ((L i).map vn)) ∧ P (((List.range i).flatMap fun i => (L i).map (f i)) ++ ((L i).take j).map (f i)) H4, ⟨(L i).length, by simp, Nat.zero_le _, hl, ys, S2.trans S3, S3 _ _ h2, fun Hx b => by
      rw [List.take_zero, List.map_nil, List.append_nil]
      exact d2 Hx (step S3 b)⟩, ?_⟩
    rintro j k H4 ⟨rfl, hj, hl4, ys4, S4, h4, d4⟩
    by_cases hjl : j < (L i).length
    · have hx : (L i)[j]? = some ((L i)[j]) := List.getElem?_eq_getElem hjl
      refine .inr ⟨⟨_, vn ((L i)[j]), SqL.of hl4, by rw [List.getElem?_map, hx]; rfl⟩, fun H' => H' l = some (.lst ((L i).map vn)) ∧ P (((List.range i).flatMap fun i => (L i).map (f i)) ++ ((L i).take (j + 1)).map (f i)) H', fun H' p' => ⟨_, Nat.sub_lt_sub_left hjl (Nat.lt_succ_self j), rfl, hjl, p'⟩, fun x H' y => ?_⟩
      obtain ⟨e, y⟩ := y
      subst e
      obtain rfl : vn ((L i)[j]) = x := by
        have := y _ (SqL.of hl4)
        rw [List.getElem?_map, hx] at this
        exact Option.some.inj this
      refine ⟨hw2 _ _, yes (ift (he i _ hlt (List.getElem_mem hjl) _ D hD S4 (by rw [h4]; simp) _ fun y H5 S5 hy => ⟨ys4, S5 _ _ h4, ?_, ?_, ys4 ++ [y], fun b o e => ?_, upd_same, fun Hx b => ?_⟩))⟩
      · have e := key _ _ _ d4
        have le : (((List.range i).flatMap fun i => (L i).map (f i)) ++ ((L i).take j).map (f i)).length ≤ ((List.range n).flatMap fun i => (L i).map (f i)).length := by
          obtain ⟨r, hr⟩ : ∃ r, n = i + 1 + r := ⟨n - (i + 1), by omega⟩
          rw [hr, List.range_add, List.flatMap_append, List.range_succ, List.flatMap_append, List.length_append, List.length_append, List.length_append]
          simp only [List.flatMap_cons, List.flatMap_nil, List.append_nil, List.length_map, List.length_take]
          omega
        exact Nat.lt_of_le_of_lt (m := 100000) (by omega) (by decide)
      · rw [upd_ne nDl]
        exact S5 _ _ hl4
      · rw [upd_ne (ne_of_none e hD)]
        exact S5 _ _ (S4 _ _ e)
      · have b5 : But D H5 Hx := fun c o ne e => b c o ne (by rw [upd_ne ne]; exact e)
        have e : (L i).take (j + 1) = (L i).take j ++ [(L i)[j]] := by rw [List.take_succ, hx]; rfl
        rw [e, List.map_append, ← List.append_assoc]
        exact dpA_app (d4 Hx (step S5 b5)) (.cons (hy Hx b5) .nil)
    · have e : j = (L i).length := by omega
      subst e
      refine .inl ⟨⟨_, SqL.of hl4, by simp⟩, ys4, S4, h4, fun Hx b => ?_⟩
      have := d4 Hx b
      rw [List.take_length] at this
      rw [List.range_succ, List.flatMap_append]
      simpa using this
  · have e : i = n := by omega
    subst e
    exact .inl ⟨Nat.le_refl _, k D ys H2 hD S2 h2 (d2 _ fun _ _ _ e => e)⟩
/-- [e for x in range(lo, lo + n) if t], the items told by their data -/
theorem lc_rngD {lo : Int} {n i1 : Nat} {vs : List Nat} (c : Nat → Bool) (f : Nat → PyData) (hn : n ≤ 100000) (hw1 : ∀ v : V, wipe ((wipe σ vs).set i1 (some v)) vs = wipe σ vs)
    (ht : ∀ i : Nat, i < n → ∀ H', Same H H' → ∀ Q' : Bool → Hp → Prop, (∀ H'', Same H' H'' → Q' (c i) H'') → tt ((wipe σ vs).set i1 (some (.int (lo + i)))) H' Q')
    (he : ∀ i : Nat, i < n → c i = true → ∀ H' D, H D = none → Same H H' → H' D ≠ none → ∀ Q' : VK, (∀ y H'', Same H' H'' → (∀ Hx, But D H'' Hx → L2.Dp K Hx y (f i)) → Q' y H'') → te ((wipe σ vs).set i1 (some (.int (lo + i)))) H' Q')
    (k : ∀ D ys H', H D = none → Same H H' → H' D = some (.lst ys) → DpAll K H' ys (((List.range n).filter c).map f) → Q (.ref D) H') : lcK (gName i1) tt te vs σ Q (Itr lo n) H := fun D hD => by
  refine lc_range (lo := lo) (n := n) (fun i H2 => ∃ ys : List V, Same H H2 ∧ H2 D = some (.lst ys) ∧ ys.length ≤ i ∧ ∀ Hx, But D H2 Hx → DpAll K Hx ys (((List.range i).filter c).map f)) ⟨[], Same.nw hD (Same.refl H), upd_same, Nat.le_refl _, fun _ _ => .nil⟩ ?_ fun H2 ⟨ys, S2, h2, hl, hR⟩ => k D ys H2 hD S2 h2 (hR _ fun _ _ _ e => e)
  rintro i H2 hi ⟨ys, S2, h2, hl, hR⟩
  have e1 : (List.range (i + 1)).filter c = (List.range i).filter c ++ if c i = true then [i] else [] := by
    rw [List.range_succ, List.filter_append]
    congr 1
    by_cases h : c i = true <;> simp [h]
  have stp : ∀ {Ha Hb : Hp}, Same Ha Hb → ∀ {Hx : Hp}, But D Hb Hx → But D Ha Hx := fun S _ b c o ne e => b c o ne (S _ _ e)
  refine ⟨hw1 _, ht i hi H2 S2 _ fun H3 S3 => bb (fun hc => ?_) (fun hc => ?_)⟩
  · refine he i hi hc H3 D hD (S2.trans S3) (by rw [S3 _ _ h2]; simp) _ fun y H4 S4 hy => ⟨ys, S4 _ _ (S3 _ _ h2), Nat.lt_of_le_of_lt (m := 100000) (by omega) (by decide), ys ++ [y], fun b o e => ?_, upd_same, by rw [List.length_append]; exact Nat.succ_le_succ hl, fun Hx b => ?_⟩
    · rw [upd_ne (ne_of_none e hD)]
      exact S4 _ _ (S3 _ _ (S2 _ _ e))
    · have b4 : But D H4 Hx := fun c o ne e => b c o ne (by rw [upd_ne ne]; exact e)
      rw [e1, if_pos hc, List.map_append]
      exact dpA_app (hR Hx (stp (S3.trans S4) b4)) (.cons (hy Hx b4) .nil)
  · refine ⟨ys, S2.trans S3, S3 _ _ h2, by omega, fun Hx b => ?_⟩
    rw [e1, if_neg (by rw [hc]; decide), List.append_nil]
    exact hR Hx (stp S3 b)
/-- over a list -/
theorem lc_lstD {a : Addr} {xs : List V} {i1 : Nat} {vs : List Nat} (c : Nat → Bool) (f : Nat → PyData) (ha : SqL K H a xs) (hn : xs.length ≤ 100000) (hw1 : ∀ v : V, wipe ((wipe σ vs).set i1 (some v)) vs = wipe σ vs)
    (ht : ∀ (i : Nat) x, xs[i]? = some x → ∀ H', Same H H' → ∀ Q' : Bool → Hp → Prop, (∀ H'', Same H' H'' → Q' (c i) H'') → tt ((wipe σ vs).set i1 (some x)) H' Q')
    (he : ∀ (i : Nat) x, xs[i]? = some x → c i = true → ∀ H' D, H D = none → Same H H' → H' D ≠ none → ∀ Q' : VK, (∀ y H'', Same H' H'' → (∀ Hx, But D H'' Hx → L2.Dp K Hx y (f i)) → Q' y H'') → te ((wipe σ vs).set i1 (some x)) H' Q')
    (k : ∀ D ys H', H D = none → Same H H' → H' D = some (.lst ys) → DpAll K H' ys (((List.range xs.length).filter c).map f) → Q (.ref D) H') : lcK (gName i1) tt te vs σ Q (Itl K a) H := fun D hD => by
  refine lc_list (K := K) (a := a) (xs := xs) (fun i H2 => ∃ ys : List V, Same H H2 ∧ H2 D = some (.lst ys) ∧ ys.length ≤ i ∧ ∀ Hx, But D H2 Hx → DpAll K Hx ys (((List.range i).filter c).map f)) ⟨[], Same.nw hD (Same.refl H), upd_same, Nat.le_refl _, fun _ _ => .nil⟩ (fun i H2 _ ⟨_, S2, _⟩ => S2.seq ha) ?_ fun H2 ⟨ys, S2, h2, hl, hR⟩ => k D ys H2 hD S2 h2 (hR _ fun _ _ _ e => e)
  rintro i x H2 hx ⟨ys, S2, h2, hl, hR⟩
  have hi : i < xs.length := (List.getElem?_eq_some_iff.mp hx).1
  have e1 : (List.range (i + 1)).filter c = (List.range i).filter c ++ if c i = true then [i] else [] := by
    rw [List.range_succ, List.filter_append]
    congr 1
    by_cases h : c i = true <;> simp [h]
  have stp : ∀ {Ha Hb : Hp}, Same Ha Hb → ∀ {Hx : Hp}, But D Hb Hx → But D Ha Hx := fun S _ b c o ne e => b c o ne (S _ _ e)
  refine ⟨hw1 _, ht i x hx H2 S2 _ fun H3 S3 => bb (fun hc => ?_) (fun hc => ?_)⟩
  · refine he i x hx hc H3 D hD (S2.trans S3) (by rw [S3 _ _ h2]; simp) _ fun y H4 S4 hy => ⟨ys, S4 _ _ (S3 _ _ h2), Nat.lt_of_le_of_lt (m := 100000) (by omega) (by decide), ys ++ [y], fun b o e => ?_, upd_same, by rw [List.length_append]; exact Nat.succ_le_succ hl, fun Hx b => ?_⟩
    · rw [upd_ne (ne_of_none e hD)]
      exact S4 _ _ (S3 _ _ (S2 _ _ e))
    · have b4 : But D H4 Hx := fun c o ne e => b c o ne (by rw [upd_ne ne]; exact e)
      rw [e1, if_pos hc, List.map_append]
      exact dpA_app (hR Hx (stp (S3.trans S4) b4)) (.cons (hy Hx b4) .nil)
  · refine ⟨ys, S2.trans S3, S3 _ _ h2, by omega, fun Hx b => ?_⟩
    rw [e1, if_neg (by rw [hc]; decide), List.append_nil]
    exact hR Hx (stp S3 b)
end Rd
end Tk

namespace Tk
open PySem PySem.Spec PyProof.Rows L2
def spTickD : Sp := fun vs H Q _ => ∃ (d : Addr) (cs : List V), vs = [.ref d] ∧ H d = some (.lst cs) ∧ DSt cs ∧ ∀ (t : Nat) H', Src d H H' → t ≤ 1000000000000000000 → Q (vn t) H'
section
variable {P : Program} {w : World} {K : PySem.W.Frag} {mg : Str → Option Value} {base : Heap}
end
end Tk

/-! ### Draws -/
namespace Tk
open PySem PySem.Spec PyProof.Rows L2 Mm
theorem But.gt {d b : Addr} {H H' : Hp} {cs xs : List V} (B : But d H H') (hd : H d = some (.lst cs)) (h : H b = some (.tup xs)) : H' b = some (.tup xs) := B _ _ (ne_of h hd (fun q => by cases q)) h
theorem But.gl {d b : Addr} {H H' : Hp} {xs : List V} (B : But d H H') (n : b ≠ d) (h : H b = some (.lst xs)) : H' b = some (.lst xs) := B _ _ n h
theorem HallAt.bt {C d h lp : Addr} {H H' : Hp} {m lt : Nat} {tk cl : List Nat} {cs : List V} (B : But d H H') (hd : H d = some (.lst cs)) (n : lp ≠ d) (p : HallAt C H h m tk cl lt lp) : HallAt C H' h m tk cl lt lp := p.but B hd n
theorem PartsAt.bt {d t tp cp : Addr} {H H' : Hp} {m lt : Nat} {tk cl : List Nat} {cs : List V} (B : But d H H') (hd : H d = some (.lst cs)) (p : PartsAt H t m tp tk cp cl lt) : PartsAt H' t m tp tk cp cl lt := p.but B hd
/-- a new address is not an old one -/
theorem ne_new {a d : Addr} {H : Hp} {o : HO} (n : H a = none) (e : H d = some o) : a ≠ d := fun q => by rw [q, e] at n; cases n
namespace Rd
variable {K : PySem.W.Frag} {H : Hp} {Q : VK} {E : XK} {d : Addr} {cs : List V}
theorem h_below {lim : Int} (hd : H d = some (.lst cs)) (hcs : DSt cs) (h0 : 0 < lim) (h1 : lim < 1073741824) (k : ∀ (r : Nat) H' cs', (r : Int) < lim → But d H H' → H' d = some (.lst cs') → DSt cs' → Q (vn r) H') : spBelow [.ref d, .int lim] H Q E :=
  ⟨d, lim, cs, rfl, h0, h1, hd, hcs, fun r cs' r0 r1 hc => by
    obtain ⟨n, rfl⟩ : ∃ n : Nat, r = (n : Int) := ⟨r.toNat, by omega⟩
    exact k n _ cs' r1 But.at_d upd_same hc⟩
theorem h_parts {most : Nat} (hd : H d = some (.lst cs)) (hcs : DSt cs) (h0 : 0 < most) (h1 : most ≤ 12) (k : ∀ (t tp cp : Addr) (m lt : Nat) (tk cl : List Nat) H' cs', H t = none → But d H H' → H' d = some (.lst cs') → DSt cs' → PartsAt H' t m tp tk cp cl lt → tk.length ≤ most → cl.length ≤ most → Q (.ref t) H') : spParts [.ref d, vn most] H Q E :=
  ⟨d, most, cs, rfl, h0, h1, hd, hcs, fun t tp cp m lt tk cl H' n S hP l1 l2 => by
    obtain ⟨cs', hd', hc'⟩ := S.at_
    exact k t tp cp m lt tk cl H' cs' n S.but hd' hc' hP l1 l2⟩
theorem h_partsL {most : Nat} (hd : H d = some (.lst cs)) (hcs : DSt cs) (h0 : 0 < most) (h1 : most ≤ 12) (k : ∀ (t tp cp : Addr) (m lt : Nat) (tk cl : List Nat) H' cs', H t = none → But d H H' → H' d = some (.lst cs') → DSt cs' → PartsAt H' t m tp tk cp cl lt → tk.length ≤ (OfNat.ofNat most : Nat) → cl.length ≤ (OfNat.ofNat most : Nat) → Q (.ref t) H') : spParts [.ref d, .int (OfNat.ofNat most : Int)] H Q E := h_parts (most := most) hd hcs h0 h1 k
theorem h_small (hd : H d = some (.lst cs)) (hcs : DSt cs) (k : ∀ (t tp cp : Addr) (m lt : Nat) (tk cl : List Nat) H' cs', H t = none → But d H H' → H' d = some (.lst cs') → DSt cs' → PartsAt H' t m tp tk cp cl lt → m ≤ 10 → tk.length ≤ 3 → cl.length ≤ 3 → lt ≤ 5 → Q (.ref t) H') : spSmall [.ref d] H Q E :=
  ⟨d, cs, rfl, hd, hcs, fun t tp cp m lt tk cl H' n S hP m1 l1 l2 l3 => by
    obtain ⟨cs', hd', hc'⟩ := S.at_
    exact k t tp cp m lt tk cl H' cs' n S.but hd' hc' hP m1 l1 l2 l3⟩
theorem h_tick (hd : H d = some (.lst cs)) (hcs : DSt cs) (k : ∀ (t : Nat) H' cs', t ≤ 1000000000000000000 → But d H H' → H' d = some (.lst cs') → DSt cs' → Q (vn t) H') : spTickD [.ref d] H Q E :=
  ⟨d, cs, rfl, hd, hcs, fun t H' S ht => by
    obtain ⟨cs', hd', hc'⟩ := S.at_
    exact k t H' cs' ht S.but hd' hc'⟩
end Rd
end Tk

/-! ### tuple.count, xs[::-1] -/
namespace Tk
open PySem PySem.Spec PyProof.Rows L2
namespace Cn
section
variable {X : Cx}
/-- tuple.count of a flat item -/
def rCntT (K : PySem.W.Frag) : V → List V → Hp → VK → Prop := fun x xs H Q => ∃ (p : Addr) (ys : List V) (y : V), x = .ref p ∧ xs = [y] ∧ SqT K H p ys ∧ flatV y = true ∧ ys.all flatV = true ∧ Q (.int (ys.countP (fun z => eqV z y) : Nat)) H
theorem counted {y : V} {uy : Value} (ry : RelV y uy) (fy : flatV y = true) : ∀ {ys : List V} {its : List Value}, Vals ys its → ys.all flatV = true → its.countP (eqU y) = ys.countP (fun z => eqV z y)
  | _, _, .nil, _ => rfl
  | z :: zs, u :: us, .cons rz rt, f => by
    obtain ⟨f1, f2⟩ := He.ba (show (flatV z && zs.all flatV) = true from f)
    rw [List.countP_cons, List.countP_cons, counted ry fy rt f2, eqU_of rz f1]
theorem mt_countT {K : PySem.W.Frag} (hK : X.K = K := by rfl) : MtR X "tuple.count" (rCntT K) := by
  subst hK
  intro pins s σ H x xs v us Q I rx rxs h
  obtain ⟨p, ys, y, rfl, rfl, hs, fy, fys, q⟩ := h
  cases rx
  cases rxs with
  | cons ry rt =>
    rename_i uy ut
    cases rt
    obtain ⟨its, rv, ⟨⟨cls, dd, data, sl⟩, ho, hc, n, hd⟩, hlen⟩ := I.tuple hs
    simp only at hc hd
    subst hc hd
    refine call_meets PySem.F.slot_tuple_count ⟨_, ho, rfl⟩ PySem.F.entry_tuple_count (PySem.F.args_tuple_count_2 _ _)
      (SeqAt.tuple_countAt p its.toArray n dd sl uy (eqU y)) ⟨ho, fun u' hu' => mem_eqAt ry fy rv fys u' (by simpa using hu'), ?_⟩
    have ec : its.toArray.toList.countP (eqU y) = ys.countP (fun z => eqV z y) := counted ry fy rv fys
    refine ⟨.int (ys.countP (fun z => eqV z y) : Nat), H, I.tok _, ⟨s.toks, ?_⟩, q⟩
    show Value.int ((its.toArray.toList.countP (eqU y) : Nat) : Int) s.toks = Value.int ((ys.countP (fun z => eqV z y) : Nat) : Int) s.toks
    rw [ec]
/-- a built-in method inside a comprehension -/
theorem pe_bmK {K : PySem.W.Frag} {T : String} {name : Str} {id : String} {r : V → List V → Hp → VK → Prop} {o e : Expr} {es : List Expr} {to : TE} {t : TA} {apos cpos : Pos} (pa : PlainAttrs T) (slot : Slot T name id) (hty : typeOf (.builtin id) = pure (.type "method_descriptor")) (hm : MtR X id r) (ho : PE X o to) (ha : PA X (e :: es) t)
    (hK : X.K = K := by rfl) (hbase : attributeBase o name X.env (eval o X.env) = eval o X.env := by rfl)
    (hfew : ((backTo cpos (starEach (e :: es) X.env)).all (fun x => !x.1) && (backToKw cpos (keywordEach [] X.env)).all (fun x => x.1.isSome)
      && decide ((e :: es).length + ([] : List Keyword).length + (if ([] : List Keyword).isEmpty then 0 else 1) < 30)) = true := by rfl)
    (hline : (apos.endLine == cpos.line) = true := by rfl) (hs : starEach (e :: es) X.env = (false, eval e X.env) :: starEach es X.env := by rfl) (hplain : (backTo cpos (starEach es X.env)).any (·.1) = false := by rfl) :
    PE X (.Call (.Attribute o name apos) (e :: es) [] cpos) (tBM K T r to t) := by
  subst hK
  exact pe_bm pa slot hty hm ho ha hbase hfew hline hs hplain
/-- a tuple whose object is known not to have a dict -/
def FzT (H : Hp) (a : Addr) (xs : List V) : Prop := ∃ o : Obj, H a = some (.frz o (.tup xs)) ∧ o.dict = none
theorem FzT.sq {K : PySem.W.Frag} {H : Hp} {a : Addr} {xs : List V} (h : FzT H a xs) : SqT K H a xs := h.elim fun o z => .inl (.inr ⟨o, z.1⟩)
theorem FzT.same {H H' : Hp} {a : Addr} {xs : List V} (h : FzT H a xs) (S : Same H H') : FzT H' a xs := h.elim fun o z => ⟨o, S _ _ z.1, z.2⟩
theorem FzT.but {H H' : Hp} {a d : Addr} {xs : List V} (h : FzT H a xs) (B : But d H H') (n : a ≠ d) : FzT H' a xs := h.elim fun o z => ⟨o, B _ _ n z.1, z.2⟩
theorem FzT.nel {H : Hp} {a d : Addr} {xs ys : List V} (h : FzT H a xs) (hd : H d = some (.lst ys)) : a ≠ d := fun e => by
  obtain ⟨o, z, _⟩ := h
  rw [e, hd] at z
  cases z
/-- a display -/
def tTupF (t : TA) : TE := fun σ H Q => t σ H fun xs H1 => xs.length ≤ sizeLine ∧ ∀ (p : Addr) (o : Obj), H1 p = none → o.dict = none → Q (.ref p) (upd H1 p (.frz o (.tup xs)))
theorem pe_tupF {es : List Expr} {t : TA} {pos : Pos} {x1} (h : PA X es t) : PE X (.Tuple es x1 pos) (tTupF t) := by
  refine ⟨fun pins s σ H Q I hq => ?_⟩
  refine wpAny_Tuple_spliced (thn (h.run pos pins s σ H _ I hq) fun us s1 ⟨xs, H1, I1, r, z, q⟩ => ⟨by rw [← r.length]; exact z, ?_⟩)
  have free : H1 s1.heap.objs.size = none := I1.hok.fresh (Nat.le_refl _)
  exact ⟨.ref s1.heap.objs.size, upd H1 s1.heap.objs.size (.frz _ (.tup xs)), I1.laid (t' := s1.toks) (fun b u e => Heap.get?_push_of_some _ e) (Nat.le_refl _) ⟨Heap.get?_push_size _ rfl, z, us, r, ⟨_, Heap.get?_push_size _ rfl, rfl, _, rfl⟩⟩, rfl, q _ _ free rfl⟩
/-- a sum -/
def rCatF (K : PySem.W.Frag) : R2 := fun x y H Q => ∃ a b xs ys, x = .ref a ∧ y = .ref b ∧ SqT K H a xs ∧ SqT K H b ys ∧ xs.length + ys.length ≤ sizeLine ∧
  (xs = [] → Q (.ref b) H) ∧ (xs ≠ [] → ys = [] → Q (.ref a) H) ∧ (xs ≠ [] → ys ≠ [] → ∀ (p : Addr) (o : Obj), H p = none → o.dict = none → Q (.ref p) (upd H p (.frz o (.tup (xs ++ ys)))))
theorem op_catF {K : PySem.W.Frag} (hK : X.K = K := by rfl) : OpR X (binaryOp .Add) (rCatF K) := by
  subst hK
  intro pins s σ H x y v u Q I rx ry h
  obtain ⟨a, b, xs, ys, rfl, rfl, ha, hb, hz, q0, q1, q2⟩ := h
  cases rx
  cases ry
  obtain ⟨its, r1, p1, _⟩ := I.tuple ha
  obtain ⟨its2, r2, p2, _⟩ := I.tuple hb
  by_cases hx : xs = []
  · subst hx
    cases r1
    exact cat_tup0 p1 p2 ⟨.ref b, H, I, rfl, q0 rfl⟩
  · refine HT.cat_tup p1 p2 (fun z => hx (r1.nil_iff.mp z)) (fun z => ⟨.ref a, H, I, rfl, q1 hx (r2.nil_iff.mp z)⟩) (fun z => ?_) (by rw [← r1.length, ← r2.length]; exact hz)
    exact ⟨.ref s.heap.objs.size, upd H s.heap.objs.size (.frz _ (.tup (xs ++ ys))), I.laid (t' := s.toks) (fun b ob q => Heap.get?_push_of_some _ q) (Nat.le_refl _) ⟨Heap.get?_push_size _ rfl, by rw [List.length_append]; exact hz, _, r1.append r2, IsTup.new _ _⟩, rfl, q2 hx (fun w => z (r2.nil_iff.mpr w)) _ _ (I.hok.fresh (Nat.le_refl _)) rfl⟩
/-- t.count(x) -/
def tCntF (K : PySem.W.Frag) (te : TE) (t : TA) : TE := fun σ H Q => te σ H fun x H1 => ∃ p ys, x = .ref p ∧ FzT H1 p ys ∧ t σ H1 fun xs H2 => rCntT K (.ref p) xs H2 Q
theorem pe_cntF {K : PySem.W.Frag} {o e : Expr} {to : TE} {t : TA} {apos cpos : Pos} (ho : PE X o to) (ha : PA X [e] t)
    (hK : X.K = K := by rfl) (hbase : attributeBase o "count" X.env (eval o X.env) = eval o X.env := by rfl)
    (hfew : ((backTo cpos (starEach [e] X.env)).all (fun x => !x.1) && (backToKw cpos (keywordEach [] X.env)).all (fun x => x.1.isSome)
      && decide (([e] : List Expr).length + ([] : List Keyword).length + (if ([] : List Keyword).isEmpty then 0 else 1) < 30)) = true := by rfl)
    (hline : (apos.endLine == cpos.line) = true := by rfl) (hs : starEach [e] X.env = (false, eval e X.env) :: starEach [] X.env := by rfl) :
    PE X (.Call (.Attribute o "count" apos) [e] [] cpos) (tCntF K to t) := by
  subst hK
  refine ⟨fun pins s σ H Q I h => ?_⟩
  refine wpAny_Call_method_late hbase hfew hline rfl (thn (ho.run pins s σ H _ I h) fun v s1 ⟨x, H1, I1, r1, p, ys, ex, ⟨ob, hob, hdict⟩, q1⟩ => ?_)
  subst ex
  obtain rfl : v = Value.ref p := r1
  obtain ⟨hget, _, its, _, o2, he2, hc2, _⟩ := I1.hok p _ hob
  have hcls : ob.cls = .type "tuple" := by
    have : ob = o2 := Option.some.inj (hget.symm.trans he2)
    rw [this]
    exact hc2
  refine ⟨"tuple", _, PySem.F.plainAttrs_tuple, PySem.F.slot_tuple_count, PySem.F.type_tuple_count, ⟨ob, hget, hcls⟩, fun a e => ?_, ?_⟩
  · cases e
    exact ⟨ob, hget, hdict⟩
  have hA := ha.run cpos pins s1 σ H1 _ I1 q1
  rw [hs] at hA ⊢
  refine Calls.callWith_builtin (by rfl) (Calls.evalArgs_plain ?_)
  exact thn hA fun us s2 ⟨vs, H2, I2, r2, q2⟩ => mt_countT rfl pins s2 σ H2 (.ref p) vs (.ref p) us Q I2 rfl r2 q2
/-- xs[::-1] of a list -/
def tRev (K : PySem.W.Frag) (te : TE) (ts : TO) : TE := fun σ H Q => te σ H fun x H1 => ts σ H1 fun st H2 => st = some (-1) ∧ ∃ a xs, x = .ref a ∧ SqL K H2 a xs ∧ ∀ p, H2 p = none → Q (.ref p) (upd H2 p (.lst xs.reverse))
theorem vals_reverse {xs : List V} {us : List Value} (h : Vals xs us) : Vals xs.reverse us.reverse := by
  induction h with
  | nil => exact .nil
  | cons r _ ih =>
    rw [List.reverse_cons, List.reverse_cons]
    exact ih.append (.cons r .nil)
theorem pe_rev {K : PySem.W.Frag} {e st : Expr} {te : TE} {ts : TO} {p2 pos : Pos} (he : PE X e te) (hst : PO X (some st) ts) (hK : X.K = K := by rfl) (hso : ∀ u v, subscripted (.Slice none none (some st) p2) false u v = operate [u, v] (getItem u v) := by intro _ _; with_unfolding_all rfl) : PE X (.Subscript e (.Slice none none (some st) p2) pos) (tRev K te ts) := by
  subst hK
  refine ⟨fun pins s σ H Q I h => ?_⟩
  refine Subscript_ (thn (he.run pins s σ H _ I h) fun v s1 ⟨x, H1, I1, r1, q1⟩ => ?_)
  refine wpAny_Slice ?_
  rw [evalPart_none]
  refine wpAny_pure (wpAny_pure ?_)
  refine thn (hst.run pins s1 σ H1 _ I1 q1) fun vk s3 ⟨u, H3, I3, pk, eu, a, xs, ex, hx, q⟩ => ?_
  subst eu ex
  cases r1
  have I4 : Inv X pins σ H3 { s3 with heap := s3.heap.push { cls := .type "slice", data := .fields #[.none, .none, vk] } } := I3.kept (t' := s3.toks) fun b ob q => Heap.get?_push_of_some _ q
  obtain ⟨its, r, ht, hz⟩ := I4.list hx
  have hlen := r.length
  have hg : wpAny (model X.prog X.w) X.A (getItem (.ref a) (.ref s3.heap.objs.size)) (EP X pins σ Q) X.xe { s3 with heap := s3.heap.push { cls := .type "slice", data := .fields #[.none, .none, vk] } } := by
    refine wpAny_getItem_list_slice ht.isList (Heap.IsSliceOf.new ..) .none .none pk (by decide) ?_ (by rw [List.size_toArray] <;> omega)
    rw [PySem.W.krv_pick]
    refine ⟨.ref (s3.heap.push { cls := .type "slice", data := .fields #[.none, .none, vk] }).objs.size, _, I4.laid (t' := s3.toks) (o := .lst xs.reverse) (fun b ob q => Heap.get?_push_of_some _ q) (Nat.le_refl _) ?_, rfl, q _ (I4.hok.fresh (Nat.le_refl _))⟩
    exact ⟨by rw [List.length_reverse]; exact hz, _, 0, vals_reverse r, Heap.get?_push_size _ rfl⟩
  show wpAny (model X.prog X.w) X.A (subscriptTail e (.Slice none none (some st) p2) (.ref a) (.ref s3.heap.objs.size)) (EP X pins σ Q) X.xe { s3 with heap := s3.heap.push { cls := .type "slice", data := .fields #[.none, .none, vk] } }
  exact tail_any (ops := [.ref a, .ref s3.heap.objs.size]) ht.isList.typeIs slot_list_getitem.lookup hg (hso _ _)
end
end Cn
namespace Rd
variable {K : PySem.W.Frag} {σ : L2.St} {H : Hp} {Q : VK} {te : TE} {ts : TO}
/-- how often a number stands in a tuple of numbers -/
theorem cntT {a : Addr} {ns : List Nat} {i : Nat} (hq : SqT K H a (ns.map vn)) (k : Q (vn (ns.count i)) H) : Cn.rCntT K (.ref a) [vn i] H Q := by
  refine ⟨a, _, _, rfl, rfl, hq, rfl, ?_, ?_⟩
  · rw [List.all_map]
    exact List.all_eq_true.mpr fun _ _ => rfl
  · have e : (ns.map vn).countP (fun z => eqV z (vn i)) = ns.count i := by
      rw [List.countP_map]
      unfold List.count
      congr 1
      funext n
      show ((n : Int) == (i : Int)) = (n == i)
      rw [Bool.eq_iff_iff]
      simp only [beq_iff_eq]
      omega
    rw [e]
    exact k
/-- () -/
theorem tup0F (k : ∀ p H', H p = none → Same H H' → Cn.FzT H' p [] → Q (.ref p) H') : Cn.tTupF tNil σ H Q :=
  ⟨by show 0 ≤ sizeLine; decide, fun p o np ho => k p _ np (Same.nw np (Same.refl H)) ⟨o, upd_same, ho⟩⟩
/-- t.count(i) -/
theorem cntF {i j r n : Nat} {pl : List Nat} (hi : σ[i]? = some (some (.ref r))) (hj : σ[j]? = some (some (vn n))) (hr : Cn.FzT H r (pl.map vn)) (k : Q (vn (pl.count n)) H) : Cn.tCntF K (tVar i) (tCons (tVar j) tNil) σ H Q :=
  ⟨.ref r, hi, r, _, rfl, hr, vn n, hj, cntT (ns := pl) (i := n) hr.sq k⟩
/-- t + (x,) -/
theorem snoc {i j r x : Nat} {pl : List Nat} (hi : σ[i]? = some (some (.ref r))) (hj : σ[j]? = some (some (vn x))) (hr : Cn.FzT H r (pl.map vn)) (hl : pl.length ≤ 900) (k : ∀ p H', H p = none → Same H H' → Cn.FzT H' p ((pl ++ [x]).map vn) → Q (.ref p) H') :
    tOp (Cn.rCatF K) (tVar i) (Cn.tTupF (tCons (tVar j) tNil)) σ H Q := by
  refine ⟨.ref r, hi, vn x, hj, by show 1 ≤ sizeLine; decide, fun q o nq ho => ?_⟩
  have S1 : Same H (upd H q (.frz o (.tup [vn x]))) := Same.nw nq (Same.refl H)
  have hq : Cn.FzT (upd H q (.frz o (.tup [vn x]))) q [vn x] := ⟨o, upd_same, ho⟩
  refine ⟨r, q, pl.map vn, [vn x], rfl, rfl, (hr.same S1).sq, hq.sq, Nat.le_trans (m := 1000) (by rw [List.length_map]; show pl.length + 1 ≤ 1000; omega) (by decide), fun e => ?_, fun _ e => (by cases e), fun _ _ p o2 np ho2 => ?_⟩
  · have e : pl = [] := List.map_eq_nil_iff.mp e
    subst e
    exact k q _ nq S1 hq
  · refine k p _ (S1.free np) (S1.trans (Same.nw np (Same.refl _))) ⟨o2, ?_, ho2⟩
    rw [upd_same, List.map_append]
    rfl
theorem rev (k : te σ H fun x H1 => ts σ H1 fun st H2 => st = some (-1) ∧ ∃ a xs, x = .ref a ∧ SqL K H2 a xs ∧ ∀ p, H2 p = none → Q (.ref p) (upd H2 p (.lst xs.reverse))) : Cn.tRev K te ts σ H Q := k
end Rd
end Tk

/-! ### Lists of tuples of numbers; a comprehension by two walks, the second one over a range with a test -/
namespace Tk
open PySem PySem.Spec PyProof.Rows L2 Mm
/-- a plan; plans -/
def PlV (H : Hp) (v : V) (pl : List Nat) : Prop := ∃ r, v = .ref r ∧ Cn.FzT H r (pl.map vn)
inductive PlA (H : Hp) : List V → List (List Nat) → Prop
  | nil : PlA H [] []
  | cons {v : V} {vs : List V} {p : List Nat} {ps : List (List Nat)} : PlV H v p → PlA H vs ps → PlA H (v :: vs) (p :: ps)
theorem PlV.same {H H' : Hp} {v : V} {p : List Nat} (h : PlV H v p) (S : Same H H') : PlV H' v p := h.elim fun r z => ⟨r, z.1, z.2.same S⟩
theorem PlA.same {H H' : Hp} {vs : List V} {ps : List (List Nat)} (h : PlA H vs ps) (S : Same H H') : PlA H' vs ps := by
  induction h with
  | nil => exact .nil
  | cons a _ ih => exact .cons (a.same S) ih
theorem PlA.but {H H' : Hp} {vs ys : List V} {ps : List (List Nat)} {d : Addr} (h : PlA H vs ps) (B : But d H H') (hd : H d = some (.lst ys)) : PlA H' vs ps := by
  induction h with
  | nil => exact .nil
  | cons a _ ih =>
    obtain ⟨r, e, z⟩ := a
    exact .cons ⟨r, e, z.but B (z.nel hd)⟩ ih
theorem plA_len {H : Hp} {vs : List V} {ps : List (List Nat)} (h : PlA H vs ps) : vs.length = ps.length := by
  induction h with
  | nil => rfl
  | cons _ _ ih => rw [List.length_cons, List.length_cons, ih]
theorem plA_app {H : Hp} {vs us : List V} {ps qs : List (List Nat)} (h : PlA H vs ps) (g : PlA H us qs) : PlA H (vs ++ us) (ps ++ qs) := by
  induction h with
  | nil => exact g
  | cons a _ ih => exact .cons a ih
theorem plA_get {H : Hp} {xs : List V} {pls : List (List Nat)} (h : PlA H xs pls) {i : Nat} {x : V} (hx : xs[i]? = some x) : ∃ r pl, pls[i]? = some pl ∧ x = .ref r ∧ Cn.FzT H r (pl.map vn) := by
  induction h generalizing i with
  | nil => cases hx
  | cons a _ ih =>
    cases i with
    | zero =>
      cases hx
      obtain ⟨r, e, z⟩ := a
      exact ⟨r, _, rfl, e, z⟩
    | succ i => exact ih hx
theorem plA_rev {H : Hp} {xs : List V} {pls : List (List Nat)} (h : PlA H xs pls) : PlA H xs.reverse pls.reverse := by
  induction h with
  | nil => exact .nil
  | cons a _ ih =>
    rw [List.reverse_cons, List.reverse_cons]
    exact plA_app ih (.cons a .nil)
theorem plA_of {H : Hp} : ∀ {xs : List V} {n : Nat} (g : Nat → List Nat), xs.length = n → (∀ (i : Nat) x, xs[i]? = some x → PlV H x (g i)) → PlA H xs ((List.range n).map g)
  | xs, 0, g, hl, _ => by
    obtain rfl := List.length_eq_zero_iff.mp hl
    exact .nil
  | xs, n + 1, g, hl, h => by
    obtain ⟨ys, y, rfl⟩ : ∃ ys y, xs = ys ++ [y] := ⟨xs.dropLast, xs.getLast (by intro e; rw [e] at hl; cases hl), (List.dropLast_concat_getLast _).symm⟩
    have hl2 : ys.length = n := by simpa using hl
    rw [List.range_succ, List.map_append]
    refine plA_app (plA_of g hl2 fun i x hx => h i x ?_) (.cons (h n y ?_) .nil)
    · rw [List.getElem?_append_left (List.getElem?_eq_some_iff.mp hx).1]
      exact hx
    · rw [← hl2, List.getElem?_append_right (Nat.le_refl _)]
      simp
theorem PlV.dp {K : PySem.W.Frag} {H : Hp} {v : V} {p : List Nat} (h : PlV H v p) : L2.Dp K H v (.tuple (p.map dN)) := by
  obtain ⟨r, rfl, z⟩ := h
  exact .tup z.sq (dp_nats p)
namespace Rd
variable {K : PySem.W.Frag} {σ : L2.St} {H : Hp} {Q : VK} {te : TE} {tt tt1 : L2.TT}
/-- [e for x in a list for y in range(lo, hi) if t] -/
theorem lc2_lst {a : Addr} {xs : List V} {i1 i2 N : Nat} {wi1 : TI} {vs vs1 : List Nat} (lo n : Nat → Nat) (c : Nat → Nat → Bool) (f : Nat → Nat → List Nat) (ha : SqL K H a xs)
    (hN : ((List.range xs.length).flatMap fun i => ((List.range (n i)).filter (c i)).map (f i)).length ≤ N) (hN2 : N ≤ 100000)
    (hw1 : ∀ v : V, wipe ((wipe σ vs).set i1 (some v)) vs = wipe σ vs) (hw2 : ∀ v u : V, wipe ((wipe ((wipe σ vs).set i1 (some v)) vs1).set i2 (some u)) vs1 = wipe ((wipe σ vs).set i1 (some v)) vs1)
    (hi : ∀ (i : Nat) x, xs[i]? = some x → ∀ H', Same H H' → ∀ R : It → Hp → Prop, (∀ H'', Same H' H'' → R (Itr (lo i : Nat) (n i)) H'') → wi1 ((wipe σ vs).set i1 (some x)) H' R)
    (ht : ∀ (i : Nat) x (j : Nat), xs[i]? = some x → j < n i → ∀ H', Same H H' → ∀ Q' : Bool → Hp → Prop, (∀ H'', Same H' H'' → Q' (c i j) H'') → tt1 ((wipe ((wipe σ vs).set i1 (some x)) vs1).set i2 (some (vn (lo i + j)))) H' Q')
    (he : ∀ (i : Nat) x (j : Nat), xs[i]? = some x → j < n i → c i j = true → ∀ H' D, H D = none → Same H H' → H' D ≠ none → ∀ Q' : VK, (∀ y H'', Same H' H'' → (∀ Hx, But D H'' Hx → PlV Hx y (f i j)) → Q' y H'') → te ((wipe ((wipe σ vs).set i1 (some x)) vs1).set i2 (some (vn (lo i + j)))) H' Q')
    (k : ∀ D ys H', H D = none → Same H H' → H' D = some (.lst ys) → PlA H' ys ((List.range xs.length).flatMap fun i => ((List.range (n i)).filter (c i)).map (f i)) → Q (.ref D) H') :
    lc2K (gName i1) tYes wi1 (gName i2) tt1 te vs vs1 σ Q (Itl K a) H := fun D hD => by
  let G : Nat → List (List Nat) := fun i => ((List.range (n i)).filter (c i)).map (f i)
  let P : List (List Nat) → Hp → Prop := fun ds H2 => ∃ ys : List V, Same H H2 ∧ H2 D = some (.lst ys) ∧ ∀ Hx, But D H2 Hx → PlA Hx ys ds
  have key : ∀ (ds : List (List Nat)) (H2 : Hp) (ys : List V), (∀ Hx, But D H2 Hx → PlA Hx ys ds) → ys.length = ds.length := fun ds H2 ys h => plA_len (h H2 fun _ _ _ e => e)
  have stp : ∀ {Ha Hb : Hp}, Same Ha Hb → ∀ {Hx : Hp}, But D Hb Hx → But D Ha Hx := fun S _ b p o ne e => b p o ne (S _ _ e)
  refine ⟨fun i m H2 => m = xs.length - i ∧ i ≤ xs.length ∧ P ((List.range i).flatMap G) H2, ⟨xs.length, by simp, Nat.zero_le _, [], Same.nw hD (Same.refl H), upd_same, fun _ _ => .nil⟩, ?_⟩
  rintro i m H2 ⟨rfl, hin, ys, S2, h2, d2⟩
  by_cases hlt : i < xs.length
  · have hx : xs[i]? = some xs[i] := List.getElem?_eq_getElem hlt
    refine .inr ⟨⟨xs, xs[i], S2.seq ha, by simp [hlt]⟩, P ((List.range (i + 1)).flatMap G), fun H' p' => ⟨xs.length - (i + 1), by omega, rfl, hlt, p'⟩, fun x H' y => ?_⟩
    obtain ⟨e, y⟩ := y
    subst e
    obtain rfl : xs[i] = x := by
      have := y _ (S2.seq ha)
      rw [hx] at this
      exact Option.some.inj this
    refine ⟨hw1 _, yes (ift (hi i _ hx _ S2 _ fun H3 S3 => ?_))⟩
    refine ⟨fun j k H4 => k = n i - j ∧ j ≤ n i ∧ P ((List.range i).flatMap G ++ ((List.range j).filter (c i)).map (f i)) H4, ⟨n i, by simp, Nat.zero_le _, ys, S2.trans S3, S3 _ _ h2, fun Hx b => by
      rw [List.range_zero, List.filter_nil, List.map_nil, List.append_nil]
      exact d2 Hx (stp S3 b)⟩, ?_⟩
    rintro j k H4 ⟨rfl, hj, ys4, S4, h4, d4⟩
    have e1 : (List.range (j + 1)).filter (c i) = (List.range j).filter (c i) ++ if c i j = true then [j] else [] := by
      rw [List.range_succ, List.filter_append]
      congr 1
      by_cases h : c i j = true <;> simp [h]
    by_cases hjl : j < n i
    · refine .inr ⟨hjl, P ((List.range i).flatMap G ++ ((List.range (j + 1)).filter (c i)).map (f i)), fun H' p' => ⟨_, Nat.sub_lt_sub_left hjl (Nat.lt_succ_self j), rfl, hjl, p'⟩, fun x H' y => ?_⟩
      obtain ⟨e, y⟩ := y
      subst e y
      have ev : V.int (((lo i : Nat) : Int) + (j : Int)) = vn (lo i + j) := vn_int (by omega)
      rw [ev]
      refine ⟨hw2 _ _, ht i _ j hx hjl _ S4 _ fun H5 S5 => bb (fun hc => ?_) (fun hc => ?_)⟩
      · refine he i _ j hx hjl hc H5 D hD (S4.trans S5) (by rw [S5 _ _ h4]; simp) _ fun y H6 S6 hy => ⟨ys4, S6 _ _ (S5 _ _ h4), ?_, ys4 ++ [y], fun b o e => ?_, upd_same, fun Hx b => ?_⟩
        · have e := key _ _ _ d4
          have le : ((List.range i).flatMap G ++ ((List.range j).filter (c i)).map (f i)).length ≤ ((List.range xs.length).flatMap G).length := by
            obtain ⟨r, hr⟩ : ∃ r, xs.length = i + 1 + r := ⟨xs.length - (i + 1), by omega⟩
            rw [hr, List.range_add, List.flatMap_append, List.range_succ, List.flatMap_append, List.length_append, List.length_append, List.length_append]
            simp only [List.flatMap_cons, List.flatMap_nil, List.append_nil]
            have l2 : (((List.range j).filter (c i)).map (f i)).length ≤ (G i).length := by
              show _ ≤ (((List.range (n i)).filter (c i)).map (f i)).length
              rw [List.length_map, List.length_map]
              obtain ⟨r2, hr2⟩ : ∃ r2, n i = j + r2 := ⟨n i - j, by omega⟩
              rw [hr2, List.range_add, List.filter_append, List.length_append]
              omega
            omega
          exact Nat.lt_of_le_of_lt (m := 100000) (by have hN' : ((List.range xs.length).flatMap G).length ≤ N := hN; omega) (by decide)
        · rw [upd_ne (ne_of_none e hD)]
          exact S6 _ _ (S5 _ _ (S4 _ _ e))
        · have b6 : But D H6 Hx := fun p o ne e => b p o ne (by rw [upd_ne ne]; exact e)
          rw [e1, if_pos hc, List.map_append, ← List.append_assoc]
          exact plA_app (d4 Hx (stp (S5.trans S6) b6)) (.cons (hy Hx b6) .nil)
      · refine ⟨ys4, S4.trans S5, S5 _ _ h4, fun Hx b => ?_⟩
        rw [e1, if_neg (by rw [hc]; decide), List.append_nil]
        exact d4 Hx (stp S5 b)
    · have e : j = n i := by omega
      subst e
      refine .inl ⟨Nat.le_refl _, ys4, S4, h4, fun Hx b => ?_⟩
      have := d4 Hx b
      rw [List.range_succ, List.flatMap_append]
      simpa using this
  · have e : i = xs.length := by omega
    subst e
    exact .inl ⟨⟨xs, S2.seq ha, Nat.le_refl _⟩, k D ys H2 hD S2 h2 (d2 _ fun _ _ _ e => e)⟩
end Rd
end Tk

/-! ### Counts that repeat -/
namespace Tk
open PySem PySem.Spec PyProof.Rows L2 Mm
structure Per (p : Nat) (f : Nat → Nat) : Prop where
  p0 : 0 < p
  p144 : p ≤ 144
  step : ∀ t, p ≤ t → f (t + p) + f p = f t + f (2 * p)
  up : f p ≤ f (2 * p)
  bd : f (2 * p) ≤ 100000
theorem Per.far {p : Nat} {f : Nat → Nat} (h : Per p f) {t : Nat} (ht : p ≤ t) : ∀ k, f (t + k * p) = f t + k * (f (2 * p) - f p)
  | 0 => by simp
  | k + 1 => by
    have ih := h.far ht k
    have q := h.step (t + k * p) (by omega)
    have u := h.up
    rw [Nat.succ_mul, Nat.succ_mul, ← Nat.add_assoc]
    omega
theorem tak_per (p : Nat) {tk : List Nat} (h : tk.length ∣ p) (h0 : 0 < p) (h144 : p ≤ 144) (h9 : ∀ x ∈ tk, x ≤ 9) : Per p (tak tk) where
  p0 := h0
  p144 := h144
  step := fun t ht => by
    have h1 := tak_add (tk := tk) p h t
    have h2 := tak_add (tk := tk) p h p
    rw [show p + p = 2 * p by omega] at h2
    omega
  up := tak_mono (by omega)
  bd := by
    have := tak_le h9 (2 * p)
    omega
theorem cal_Per {tk cl : List Nat} (h1 : Pat tk) (h2 : Pat cl) : Per (per tk cl) (cal tk cl) where
  p0 := per_pos h1.pos h2.pos
  p144 := per_144 h1 h2
  step := fun t ht => cal_per (per_pos h1.pos h2.pos) per_tk per_cl ht
  up := cal_mono (by omega)
  bd := by
    have a := tak_le h1.nine (2 * per tk cl)
    have b := cal_le (tk := tk) (cl := cl) (2 * per tk cl)
    have c := per_144 h1 h2
    omega
end Tk

/-! ### Waits -/
namespace Mm
section
variable {tk cl : List Nat} {p : Nat}
/-- the tick in which n is reached -/
def Tk (F : Nat → Nat) (n T : Nat) : Prop := F T ≤ n ∧ n < F (T + 1)
theorem Tk.uniq {F : Nat → Nat} (mono : ∀ {a b : Nat}, a ≤ b → F a ≤ F b) {n T T' : Nat} (h : Tk F n T) (h' : Tk F n T') : T = T' := by
  rcases Nat.lt_trichotomy T T' with z | z | z
  · have := mono (show T + 1 ≤ T' by omega)
    have := h.2
    have := h'.1
    omega
  · exact z
  · have := mono (show T' + 1 ≤ T by omega)
    have := h'.2
    have := h.1
    omega
theorem Tk.le {F : Nat → Nat} (mono : ∀ {a b : Nat}, a ≤ b → F a ≤ F b) {n T t : Nat} (h : Tk F n T) (h' : n < F (t + 1)) : T ≤ t := by
  rcases Nat.lt_or_ge t T with z | z
  · have := mono (show t + 1 ≤ T by omega)
    have := h.1
    omega
  · exact z
theorem Tk.ge {F : Nat → Nat} (mono : ∀ {a b : Nat}, a ≤ b → F a ≤ F b) {n T t : Nat} (h : Tk F n T) (h' : F t ≤ n) : t ≤ T := by
  rcases Nat.lt_or_ge T t with z | z
  · have := mono (show T + 1 ≤ t by omega)
    have := h.2
    omega
  · exact z
/-- the first tick below b in which more than n are reached -/
theorem Tk.ex {F : Nat → Nat} (h0 : F 0 = 0) {n : Nat} : ∀ {b : Nat}, n < F b → ∃ T, T < b ∧ Tk F n T
  | 0, h => by omega
  | b + 1, h => by
    by_cases q : n < F b
    · obtain ⟨T, h1, h2⟩ := Tk.ex h0 q
      exact ⟨T, by omega, h2⟩
    · exact ⟨b, by omega, by omega, h⟩
variable (hp : 0 < p) (ht : tk.length ∣ p) (hc : cl.length ∣ p)
include ht hc in
theorem cal_up (t : Nat) : cal tk cl (t + p) ≤ cal tk cl t + tak tk p := by
  have h1 := wt_up (tk := tk) (cl := cl) ht hc t
  have h2 := wt_cal (tk := tk) (cl := cl) t
  have h3 := wt_cal (tk := tk) (cl := cl) (t + p)
  have h4 := tak_add p ht t
  omega
include ht hc in
theorem cal_same (gz : wt tk cl (p + 1) = wt tk cl (p + 1 + p)) {t : Nat} (h : p + 1 ≤ t) : cal tk cl (t + p) = cal tk cl t + tak tk p := by
  have h1 := wt_same ht hc gz t h
  have h2 := wt_cal (tk := tk) (cl := cl) t
  have h3 := wt_cal (tk := tk) (cl := cl) (t + p)
  have h4 := tak_add p ht t
  omega
include ht hc in
theorem cal_same_k (gz : wt tk cl (p + 1) = wt tk cl (p + 1 + p)) : ∀ k, cal tk cl (p + 1 + k * p) = cal tk cl (p + 1) + k * tak tk p
  | 0 => by simp
  | k + 1 => by
    have ih := cal_same_k gz k
    have h := cal_same ht hc gz (t := p + 1 + k * p) (by omega)
    rw [Nat.succ_mul, Nat.succ_mul, ← Nat.add_assoc, h, ih]
    omega
include ht hc in
theorem per_calls (gz : wt tk cl (p + 1) = wt tk cl (p + 1 + p)) (hp : 0 < p) : cal tk cl (2 * p) = cal tk cl p + tak tk p := by
  have h1 := cal_same ht hc gz (t := p + 1) (Nat.le_refl _)
  have h2 := cal_per hp ht hc (t := p + 1) (by omega)
  omega
/-- W is the longest wait -/
structure Long (tk cl : List Nat) (p W : Nat) : Prop where
  up : ∀ t, p ≤ t → t < 2 * p → tak tk t < tak tk (t + 1) → ∃ T, Tk (cal tk cl) (tak tk (t + 1) - 1) T ∧ T - t ≤ W
  at_ : W = 0 ∨ ∃ t T, p ≤ t ∧ t < 2 * p ∧ tak tk t < tak tk (t + 1) ∧ Tk (cal tk cl) (tak tk (t + 1) - 1) T ∧ W = T - t
theorem call_ge {n T0 T : Nat} (h1 : Tk (tak tk) n T0) (h2 : Tk (cal tk cl) n T) : T0 ≤ T := by
  have := cal_le (tk := tk) (cl := cl) (T + 1)
  have := h2.2
  exact Tk.le (fun h => tak_mono h) h1 (by omega)
include ht hc in
/-- each ticket of three periods waits no longer -/
theorem Long.all (gz : wt tk cl (p + 1) = wt tk cl (p + 1 + p)) {W : Nat} (L : Long tk cl p W) {n T0 T : Nat} (hn : n < tak tk (3 * p)) (h1 : Tk (tak tk) n T0) (h2 : Tk (cal tk cl) n T) : T - T0 ≤ W := by
  have monoT : ∀ {a b : Nat}, a ≤ b → tak tk a ≤ tak tk b := fun h => tak_mono h
  have monoC : ∀ {a b : Nat}, a ≤ b → cal tk cl a ≤ cal tk cl b := fun h => cal_mono h
  have lt3 : T0 < 3 * p := by
    rcases Nat.lt_or_ge T0 (3 * p) with z | z
    · exact z
    · have := monoT z
      have := h1.1
      omega
  have some1 : tak tk T0 < tak tk (T0 + 1) := Nat.lt_of_le_of_lt h1.1 h1.2
  -- n is called no later than the last ticket of its tick
  have key : ∀ S, Tk (cal tk cl) (tak tk (T0 + 1) - 1) S → T ≤ S := fun S hS => Tk.le monoC h2 (Nat.lt_of_le_of_lt (by have := h1.2; omega) hS.2)
  by_cases c1 : T0 < p
  · have a1 := tak_add p ht T0
    have a2 := tak_add p ht (T0 + 1)
    rw [show T0 + 1 + p = T0 + p + 1 by omega] at a2
    obtain ⟨S, hS, hW⟩ := L.up (T0 + p) (by omega) (by omega) (by omega)
    have hSp : T0 + p ≤ S := by
      have := cal_le (tk := tk) (cl := cl) (S + 1)
      have := hS.2
      have z : tak tk (T0 + p) < tak tk (S + 1) := by omega
      rcases Nat.lt_or_ge S (T0 + p) with q | q
      · have := monoT (show S + 1 ≤ T0 + p by omega)
        omega
      · exact q
    have up := cal_up ht hc (tk := tk) (cl := cl) (S + 1 - p)
    rw [show S + 1 - p + p = S + 1 by omega] at up
    have := hS.2
    have le : T ≤ S - p := Tk.le monoC h2 (by
      rw [show S - p + 1 = S + 1 - p by omega]
      have := h1.2
      omega)
    omega
  · by_cases c2 : T0 < 2 * p
    · obtain ⟨S, hS, hW⟩ := L.up T0 (by omega) c2 some1
      have := key S hS
      omega
    · obtain ⟨u, rfl⟩ : ∃ u, T0 = u + p := ⟨T0 - p, by omega⟩
      have a1 := tak_add p ht u
      have a2 := tak_add p ht (u + 1)
      rw [show u + 1 + p = u + p + 1 by omega] at a2
      obtain ⟨S, hS, hW⟩ := L.up u (by omega) (by omega) (by omega)
      have hSu : u ≤ S := by
        have := cal_le (tk := tk) (cl := cl) (S + 1)
        have := hS.2
        rcases Nat.lt_or_ge S u with q | q
        · have := monoT (show S + 1 ≤ u by omega)
          omega
        · exact q
      have sm := cal_same ht hc gz (t := S + 1) (by omega)
      have := hS.2
      have le : T ≤ S + p := Tk.le monoC h2 (by
        rw [show S + p + 1 = S + 1 + p by omega]
        have := h1.2
        omega)
      omega
include hp ht hc in
/-- all tickets of three periods are called within four and a tick -/
theorem called_all (gz : wt tk cl (p + 1) = wt tk cl (p + 1 + p)) {n : Nat} (hn : n < tak tk (3 * p)) : ∃ T, T < 4 * p + 1 ∧ Tk (cal tk cl) n T := by
  refine Tk.ex rfl ?_
  have h := cal_same_k ht hc gz 3
  have a1 := tak_add p ht p
  have a2 := tak_add p ht (2 * p)
  rw [show p + p = 2 * p by omega] at a1
  rw [show 2 * p + p = 3 * p by omega] at a2
  rw [show 4 * p + 1 = p + 1 + 3 * p by omega, h]
  omega
/-- what is called in a stretch without an empty room -/
theorem full_calls {a : Nat} : ∀ k, (∀ t, a < t → t ≤ a + k → 0 < wt tk cl t) → cal tk cl (a + k) + tak cl a = cal tk cl a + tak cl (a + k)
  | 0, _ => by simp
  | k + 1, h => by
    have ih := full_calls (a := a) k fun t h1 h2 => h t h1 (by omega)
    have w := h (a + k + 1) (by omega) (by omega)
    rw [wt_succ] at w
    have c := cal_succ (tk := tk) (cl := cl) (a + k)
    have e : tak cl (a + k + 1) = tak cl (a + k) + atp cl (a + k) := rfl
    rw [show a + (k + 1) = a + k + 1 by omega, c, e]
    omega
theorem some_calls {a : Nat} : ∀ k, cal tk cl (a + k) + tak cl a ≤ cal tk cl a + tak cl (a + k)
  | 0 => by simp
  | k + 1 => by
    have ih := some_calls (a := a) k
    have c := cal_succ (tk := tk) (cl := cl) (a + k)
    have e : tak cl (a + k + 1) = tak cl (a + k) + atp cl (a + k) := rfl
    rw [show a + (k + 1) = a + k + 1 by omega, c, e]
    omega
include hp ht hc in
/-- nobody more waits after a period iff no more are taken than can be called -/
theorem grow_iff : wt tk cl (p + 1) = wt tk cl (p + 1 + p) ↔ tak tk p ≤ tak cl p := by
  have a1 := tak_add p ht (p + 1)
  have a2 := tak_add (tk := cl) p hc (p + 1)
  have w1 := wt_cal (tk := tk) (cl := cl) (p + 1)
  have w2 := wt_cal (tk := tk) (cl := cl) (p + 1 + p)
  constructor
  · intro h
    have s := some_calls (tk := tk) (cl := cl) (a := p + 1) p
    omega
  · intro h
    by_cases z : ∀ t, p + 1 < t → t ≤ p + 1 + p → 0 < wt tk cl t
    · have f := full_calls (tk := tk) (cl := cl) (a := p + 1) p z
      have u := wt_up (tk := tk) (cl := cl) ht hc (p + 1)
      omega
    · obtain ⟨t, h1, h2, h3⟩ : ∃ t, p + 1 < t ∧ t ≤ p + 1 + p ∧ wt tk cl t = 0 := by
        refine Classical.byContradiction fun q => z fun t h1 h2 => ?_
        rcases Nat.eq_zero_or_pos (wt tk cl t) with e | e
        · exact absurd ⟨t, h1, h2, e⟩ q
        · exact e
      have u := wt_up (tk := tk) (cl := cl) ht hc (t - p)
      rw [show t - p + p = t by omega, h3] at u
      refine wt_same ht hc (s := t - p) ?_ (p + 1) (by omega)
      rw [show t - p + p = t by omega, h3]
      omega
end
end Mm

/-! ### Open tickets -/
namespace Mm
/-- how many tickets are open at t, with the lateness lt -/
def opn (tk cl : List Nat) (lt t : Nat) : Nat := tak tk (t + 1) - cal tk cl (t - lt)
structure MaxIs (f : Nat → Nat) (M : Nat) : Prop where
  le : ∀ t, f t ≤ M
  at_ : ∃ t, f t = M
theorem MaxIs.uniq {f : Nat → Nat} {M N : Nat} (a : MaxIs f M) (b : MaxIs f N) : M = N := by
  obtain ⟨t, h⟩ := a.at_
  obtain ⟨s, k⟩ := b.at_
  have := a.le s
  have := b.le t
  omega
section
variable {tk cl : List Nat} {p lt : Nat}
theorem opn_add (t : Nat) : opn tk cl lt t + cal tk cl (t - lt) = tak tk (t + 1) := by
  have h1 := cal_le (tk := tk) (cl := cl) (t - lt)
  have h2 := tak_mono (tk := tk) (show t - lt ≤ t + 1 by omega)
  unfold opn
  omega
variable (hp : 0 < p) (ht : tk.length ∣ p) (hc : cl.length ∣ p)
include ht hc in
theorem opn_up (t : Nat) : opn tk cl lt t ≤ opn tk cl lt (t + p) := by
  have h1 := opn_add (tk := tk) (cl := cl) (lt := lt) t
  have h2 := opn_add (tk := tk) (cl := cl) (lt := lt) (t + p)
  have h3 := tak_add p ht (t + 1)
  rw [show t + 1 + p = t + p + 1 by omega] at h3
  rcases Nat.lt_or_ge t lt with z | z
  · have h4 := cal_mono (tk := tk) (cl := cl) (show t + p - lt ≤ p by omega)
    have h5 := cal_le (tk := tk) (cl := cl) p
    omega
  · have h4 := cal_up (tk := tk) (cl := cl) ht hc (t - lt)
    rw [show t - lt + p = t + p - lt by omega] at h4
    omega
include hp ht hc in
theorem opn_same (gz : wt tk cl (p + 1) = wt tk cl (p + 1 + p)) {t : Nat} (h : p + lt ≤ t) : opn tk cl lt (t + p) = opn tk cl lt t := by
  have h1 := opn_add (tk := tk) (cl := cl) (lt := lt) t
  have h2 := opn_add (tk := tk) (cl := cl) (lt := lt) (t + p)
  have h3 := tak_add p ht (t + 1)
  rw [show t + 1 + p = t + p + 1 by omega] at h3
  have h4 := cal_per (tk := tk) (cl := cl) hp ht hc (t := t - lt) (by omega)
  rw [show t - lt + p = t + p - lt by omega] at h4
  have h5 := per_calls (tk := tk) (cl := cl) ht hc gz hp
  omega
include ht hc in
theorem opn_ups (t : Nat) : ∀ k, opn tk cl lt t ≤ opn tk cl lt (t + k * p)
  | 0 => by simp
  | k + 1 => by
    have ih := opn_ups t k
    have h := opn_up (tk := tk) (cl := cl) (lt := lt) ht hc (t + k * p)
    rw [Nat.succ_mul, ← Nat.add_assoc]
    omega
include hp ht hc in
theorem opn_red (gz : wt tk cl (p + 1) = wt tk cl (p + 1 + p)) : ∀ n, opn tk cl lt (p + lt + n) = opn tk cl lt (p + lt + n % p) := by
  intro n
  induction n using Nat.strongRecOn with
  | _ n ih =>
    rcases Nat.lt_or_ge n p with z | z
    · rw [Nat.mod_eq_of_lt z]
    · have h := opn_same (tk := tk) (cl := cl) (lt := lt) hp ht hc gz (t := p + lt + (n - p)) (by omega)
      rw [show p + lt + (n - p) + p = p + lt + n by omega] at h
      rw [h, ih (n - p) (by omega), Nat.mod_eq_sub_mod z]
include hp ht hc in
theorem opn_max (gz : wt tk cl (p + 1) = wt tk cl (p + 1 + p)) {M : Nat} (h1 : ∀ i, i < p → opn tk cl lt (p + lt + i) ≤ M) (h2 : ∃ t, opn tk cl lt t = M) : MaxIs (opn tk cl lt) M := by
  refine ⟨fun t => ?_, h2⟩
  have a := opn_ups (tk := tk) (cl := cl) (lt := lt) ht hc t (p + lt)
  have b : p + lt ≤ t + (p + lt) * p := by
    have := Nat.le_mul_of_pos_right (p + lt) hp
    omega
  obtain ⟨n, hn⟩ : ∃ n, t + (p + lt) * p = p + lt + n := ⟨t + (p + lt) * p - (p + lt), by omega⟩
  rw [hn, opn_red hp ht hc gz n] at a
  have := h1 (n % p) (Nat.mod_lt n hp)
  omega
include hp ht hc in
/-- over more than two periods and the lateness -/
theorem opn_window (gz : wt tk cl (p + 1) = wt tk cl (p + 1 + p)) {M N : Nat} (hN : 2 * p + lt ≤ N) (h1 : ∀ i, i < N → opn tk cl lt i ≤ M) (h2 : ∃ t, opn tk cl lt t = M) : MaxIs (opn tk cl lt) M :=
  opn_max hp ht hc gz (fun i hi => h1 _ (by omega)) h2
theorem opn_le (h9 : ∀ x ∈ tk, x ≤ 9) (t : Nat) : opn tk cl lt t ≤ 9 * (t + 1) := by
  have h1 := opn_add (tk := tk) (cl := cl) (lt := lt) t
  have h2 := tak_le h9 (t + 1)
  omega
end
end Mm

/-! ### The law's open tickets and their greatest number -/
namespace Tk
open PySem PySem.Spec PyProof.Rows L2 Mm
def spOpens : Sp := fun vs H Q _ => ∃ (t tp cp : Addr) (m lt : Nat) (tk cl : List Nat) (n : Nat), vs = [.ref t, vn n] ∧ PartsAt H t m tp tk cp cl lt ∧ n ≤ 900 ∧
  ∀ (l : Addr) (rs : List Addr) H', Same H H' → H' l = some (.lst (rs.map V.ref)) → rs.length = n → (∀ r ∈ rs, ∃ a b : Nat, H' r = some (.tup [vn a, vn b])) → Q (.ref l) H'
def spMost : Sp := fun vs H Q _ => ∃ (t tp cp : Addr) (m lt : Nat) (tk cl : List Nat), vs = [.ref t] ∧ PartsAt H t m tp tk cp cl lt ∧
  ∀ v H', Same H H' → ((tak cl (per tk cl) < tak tk (per tk cl) ∧ v = .non) ∨ (tak tk (per tk cl) ≤ tak cl (per tk cl) ∧ ∃ z : Int, v = .int z)) → Q v H'
theorem sum_per (tk : List Nat) (h : 0 < tk.length) (q : Nat) : tak tk (q * tk.length) = q * tk.sum := by
  have z := tak_mul tk q 0
  rw [Nat.zero_add] at z
  rw [z]
  rfl
theorem cmp_sums {tk cl : List Nat} (n0 : 0 < tk.length) (c0 : 0 < cl.length) : (cl.sum * tk.length < tk.sum * cl.length) ↔ (tak cl (per tk cl) < tak tk (per tk cl)) := by
  have p0 := per_pos n0 c0
  obtain ⟨a, ha⟩ := per_tk (tk := tk) (cl := cl)
  obtain ⟨b, hb⟩ := per_cl (tk := tk) (cl := cl)
  have e1 : tak tk (per tk cl) = a * tk.sum := by rw [ha, Nat.mul_comm]; exact sum_per tk n0 a
  have e2 : tak cl (per tk cl) = b * cl.sum := by rw [hb, Nat.mul_comm]; exact sum_per cl c0 b
  rw [e1, e2]
  -- times the period
  have f1 : per tk cl * (cl.sum * tk.length) = (b * cl.sum) * (cl.length * tk.length) := by
    rw [hb]
    simp only [Nat.mul_comm, Nat.mul_left_comm, Nat.mul_assoc]
  have f2 : per tk cl * (tk.sum * cl.length) = (a * tk.sum) * (cl.length * tk.length) := by
    rw [ha]
    simp only [Nat.mul_comm, Nat.mul_left_comm, Nat.mul_assoc]
  have pl : 0 < cl.length * tk.length := Nat.mul_pos c0 n0
  constructor
  · intro h
    have := Nat.mul_lt_mul_of_pos_left h p0
    rw [f1, f2] at this
    exact Nat.lt_of_mul_lt_mul_right this
  · intro h
    have := Nat.mul_lt_mul_of_pos_right h pl
    rw [← f1, ← f2] at this
    exact Nat.lt_of_mul_lt_mul_left this
section
variable {P : Program} {w : World} {K : PySem.W.Frag} {mg : Str → Option Value} {base : Heap}
end
end Tk

section
local macro_rules | `(tactic| walk_at "hp") => `(tactic| first
  | assumption
  | with_reducible exact L2.upd_same
  | ((with_reducible refine' Tk.Same.get ?k0 ?k1); (case k0 => assumption); (case k1 => walk_at "hp"))
  | fail "hp")
local macro_rules | `(tactic| walk_at "same") => `(tactic| first
  | assumption
  | exact L2.Same.refl _
  | ((with_reducible refine' Tk.Same.nw ?k0 ?k1); (case k0 => assumption); (case k1 => walk_at "same"))
  | ((with_reducible refine' Tk.Same.tr ?k0 ?k1); (case k0 => assumption); (case k1 => walk_at "same")))
local macro_rules | `(tactic| walk_at "sql") => `(tactic| first
  | assumption
  | ((with_reducible refine' L2.SqL.of ?k0); (case k0 => walk_at "hp"))
  | ((with_reducible refine' L2.Same.seq ?k0 ?k1); (case k0 => assumption); (case k1 => walk_at "sql")))
local macro_rules | `(tactic| walk_at "sqt") => `(tactic| first
  | assumption
  | ((with_reducible refine' L2.SqT.of ?k0); (case k0 => walk_at "hp"))
  | ((with_reducible refine' Tk.sqt_sm ?k0 ?k1); (case k0 => assumption); (case k1 => walk_at "sqt")))
local macro_rules | `(tactic| walk_at "sz") => `(tactic| first
  | (show (_ : Nat) ≤ 1000; decide)
  | (simp; done)
  | (simp; omega))
local macro_rules | `(tactic| walk_at "szb") => `(tactic| first
  | assumption
  | (show (_ : Nat) ≤ 100000; decide)
  | (simp; done)
  | (simp; omega))
local macro_rules | `(tactic| walk_at "dp") => `(tactic| first
  | assumption
  | with_reducible exact L2.Dp.non
  | with_reducible exact L2.Dp.int _
  | with_reducible exact L2.Dp.str _
  | with_reducible exact L2.Dp.bl _
  | ((with_reducible refine' L2.Dp.lst ?k0 ?k1); (case k0 => walk_at "sql"); (case k1 => walk_at "dpa"))
  | ((with_reducible refine' L2.Dp.tup ?k0 ?k1); (case k0 => walk_at "sqt"); (case k1 => walk_at "dpa"))
  | ((with_reducible refine' Tk.dp_sm ?k0 ?k1); (case k0 => assumption); (case k1 => walk_at "dp"))
  | fail "dp")
local macro_rules | `(tactic| walk_at "dpa") => `(tactic| first
  | assumption
  | with_reducible exact L2.DpAll.nil
  | ((with_reducible refine' L2.DpAll.cons ?k0 ?k1); (case k0 => walk_at "dp"); (case k1 => walk_at "dpa"))
  | with_reducible exact Tk.dp_nats _
  | ((with_reducible refine' Tk.dpA_sm ?k0 ?k1); (case k0 => assumption); (case k1 => walk_at "dpa"))
  | fail "dpa")
local macro_rules | `(tactic| walk_at "ci") => `(tactic| first
  | exact .inl ⟨by decide, by decide⟩
  | exact .inr ⟨by decide, by decide⟩
  | exact .inl ⟨by omega, by omega⟩
  | exact .inr ⟨by omega, by omega⟩
  | exact ⟨by decide, by decide⟩
  | exact ⟨by omega, by omega⟩
  | (show (0 : Int) < _; decide)
  | (show (0 : Int) < _; omega))
local macro_rules | `(tactic| walk_at "rd1") => `(tactic| first
  | with_reducible refine Tk.Rd.seq ?_
  | with_reducible refine Tk.Rd.star ?_
  | with_reducible refine Tk.Rd.int1_i ?_
  | with_reducible refine Tk.Rd.int1_b ?_
  | with_reducible refine Tk.Rd.tlc2 ?_
  | with_reducible refine Tk.Rd.lrg3 ?_
  | with_reducible refine Tk.Rd.lrg ?_
  | with_reducible refine Tk.Rd.rg1 ?_
  | with_reducible refine Tk.Rd.rg1K_i ?_
  | with_reducible refine Tk.Rd.rg2 ?_
  | with_reducible refine Tk.Rd.rg2K_i ?_
  | ((with_reducible refine' Tk.Rd.catL ?k0 ?k1 ?k2 fun p H' np S hp => ?_); (case k0 => walk_at "hp"); (case k1 => walk_at "hp"); (case k2 => walk_at "szb"))
  | ((with_reducible refine' Tk.Rd.starK_t ?k0 ?_); (case k0 => walk_at "sqt"))
  | ((with_reducible refine' Tk.Rd.starK_l ?k0 ?_); (case k0 => walk_at "sql"))
  | ((with_reducible refine' Tk.Rd.var ?k0 ?_); (case k0 => exact rfl))
  | with_reducible refine Tk.Rd.c ?_
  | with_reducible refine Tk.Rd.op ?_
  | with_reducible refine Tk.Rd.i0 ?_
  | with_reducible refine Tk.Rd.asg ?_
  | with_reducible refine Tk.Rd.name ?_
  | with_reducible refine Tk.Rd.cons ?_
  | with_reducible refine Tk.Rd.nil ?_
  | with_reducible refine Tk.Rd.call ?_
  | with_reducible refine Tk.Rd.callK_i ?_
  | with_reducible refine Tk.Rd.tst ?_
  | with_reducible refine Tk.Rd.bv ?_
  | with_reducible refine Tk.Rd.toB_i ?_
  | with_reducible refine Tk.Rd.ift ?_
  | with_reducible refine Tk.Rd.iff ?_
  | with_reducible refine Tk.Rd.ifnt ?_
  | with_reducible refine Tk.Rd.ifnf ?_
  | with_reducible refine Tk.Rd.not ?_
  | with_reducible refine Tk.Rd.and ?_
  | with_reducible refine Tk.Rd.or ?_
  | with_reducible refine Tk.Rd.andV ?_
  | with_reducible refine Tk.Rd.andK_i ?_
  | with_reducible refine Tk.Rd.orV ?_
  | with_reducible refine Tk.Rd.orK_i ?_
  | with_reducible refine Tk.Rd.notV ?_
  | with_reducible refine Tk.Rd.notK_i ?_
  | with_reducible refine Tk.Rd.tif ?_
  | with_reducible refine Tk.Rd.yes ?_
  | with_reducible refine Tk.Rd.tfor ?_
  | with_reducible refine Tk.Rd.tlc ?_
  | with_reducible refine Tk.Rd.rng ?_
  | ((with_reducible refine' Tk.Rd.rngK_n ?k0 ?_); (case k0 => first | decide | omega))
  | ((with_reducible refine' Tk.Rd.rngK_lit ?k0 ?_); (case k0 => decide))
  | with_reducible refine Tk.Rd.rng2 ?_
  | with_reducible refine Tk.Rd.rng3 ?_
  | with_reducible refine Tk.Rd.ilist ?_
  | with_reducible refine Tk.Rd.zip ?_
  | with_reducible refine Tk.Rd.itup ?_
  | ((with_reducible refine' Tk.Rd.listK_i ?k0 ?_); (case k0 => walk_at "sql"))
  | ((with_reducible refine' Tk.Rd.ituK_i ?k0 ?_); (case k0 => walk_at "sqt"))
  | with_reducible refine Tk.Rd.chain ?_
  | with_reducible refine Tk.Rd.chainL_i ?_
  | with_reducible refine Tk.Rd.un ?_
  | with_reducible refine Tk.Rd.u1 ?_
  | ((with_reducible refine' Tk.Rd.i1 ?k0 ?_); (case k0 => walk_at "ci"))
  | ((with_reducible refine' Tk.Rd.eq ?k0 ?_); (case k0 => exact rfl))
  | ((with_reducible refine' Tk.Rd.ne ?k0 ?_); (case k0 => exact rfl))
  | with_reducible refine Tk.Rd.isN ?_
  | with_reducible refine Tk.Rd.notN ?_
  | with_reducible refine Tk.Rd.fld ?_
  | with_reducible refine Tk.Rd.meth ?_
  | with_reducible refine Tk.Rd.prop ?_
  | with_reducible refine Tk.Rd.cb ?_
  | with_reducible refine Tk.Rd.bm ?_
  | with_reducible refine Tk.Rd.m0 ?_
  | with_reducible refine Tk.Rd.m0K_i ?_
  | with_reducible refine Tk.Rd.m1 ?_
  | with_reducible refine Tk.Rd.m1K_i ?_
  | with_reducible refine Tk.Rd.tup ?_
  | ((with_reducible refine' Tk.Rd.tupK_i ?k0 fun p H' np S hp => ?_); (case k0 => walk_at "sz"))
  | with_reducible refine Tk.Rd.lst ?_
  | ((with_reducible refine' Tk.Rd.lstK_i ?k0 fun p H' np S hp => ?_); (case k0 => walk_at "sz"))
  | ((with_reducible refine' Tk.Rd.ixF ?k0 ?k1 ?_); (case k0 => walk_at "hp"); (case k1 => omega))
  | ((with_reducible refine' Tk.Rd.ixF1 ?k0 ?k1 ?_); (case k0 => walk_at "hp"); (case k1 => omega))
  | ((with_reducible refine' Tk.Rd.ixT ?k0 ?k1 ?_); (case k0 => walk_at "sqt"); (case k1 => exact rfl))
  | ((with_reducible refine' Tk.Rd.ixL ?k0 ?k1 ?_); (case k0 => walk_at "sql"); (case k1 => exact rfl))
  | ((with_reducible refine' Tk.Rd.lenL ?k0 ?_); (case k0 => walk_at "sql"))
  | ((with_reducible refine' Tk.Rd.lenT ?k0 ?_); (case k0 => walk_at "sqt"))
  | ((with_reducible refine' Tk.Rd.lenS ?k0 ?_); (case k0 => first | assumption | omega | (simp; omega)))
  | ((with_reducible refine' Tk.Rd.slTr ?k0 fun p H' S hp => ?_); (case k0 => walk_at "hp"))
  | ((with_reducible refine' Tk.Rd.slT ?k0 fun p H' S hq => ?_); (case k0 => walk_at "sqt"))
  | ((with_reducible refine' Tk.Rd.catTr ?k0 ?k1 ?k2 fun p H' S hp => ?_); (case k0 => walk_at "hp"); (case k1 => walk_at "hp"); (case k2 => walk_at "sz"))
  | ((with_reducible refine' Tk.Rd.catA ?k0 ?k1 ?k2 ?k3 ?k4 fun p H' np S hp => ?_); (case k0 => walk_at "sqt"); (case k1 => walk_at "sqt"); (case k2 => simp); (case k3 => simp); (case k4 => first | (simp; done) | (simp; omega)))
  | with_reducible refine Tk.Rd.make ?_
  | ((with_reducible refine' Tk.Rd.tplL ?k0 fun q H' nq S hq => ?_); (case k0 => walk_at "sql"))
  | ((with_reducible refine' Tk.Rd.lstL ?k0 fun q H' nq S hq => ?_); (case k0 => walk_at "sql"))
  | ((with_reducible refine' Tk.Rd.lstT ?k0 fun q H' nq S hq => ?_); (case k0 => walk_at "sqt"))
  | ((with_reducible refine' Tk.Rd.join ?k0 ?k1 ?_); (case k0 => walk_at "sql"); (case k1 => first | assumption | omega))
  | with_reducible refine Tk.Rd.mx ?_
  | with_reducible refine Tk.Rd.mn ?_
  | with_reducible refine Tk.Rd.noPart ?_
  | with_reducible refine Tk.Rd.part ?_
  | with_reducible refine Tk.Rd.partK_i ?_
  | with_reducible refine Tk.Rd.slc ?_
  | ((with_reducible refine' Tk.Rd.gtup ?k0 ?k1 ?_); (case k0 => walk_at "sqt"); (case k1 => exact rfl))
  | ((with_reducible refine' Tk.Rd.glst ?k0 ?k1 ?_); (case k0 => walk_at "sql"); (case k1 => exact rfl))
  | with_reducible refine Tk.Rd.gcons ?_
  | with_reducible refine Tk.Rd.gnil ?_
  | with_reducible refine Tk.Rd.next ?_
  | with_reducible refine Tk.Rd.drop ?_
  | with_reducible refine Tk.Rd.ret ?_
  | with_reducible refine Tk.Rd.retN ?_
  | with_reducible refine Tk.Rd.par ?_
  | with_reducible refine Tk.Rd.parK_i ?_
  | with_reducible refine Tk.Rd.par3 ?_
  | with_reducible refine Tk.Rd.par3K_i ?_
  | ((with_reducible refine' Tk.Rd.aug ?k0 ?_); (case k0 => exact rfl))
  | with_reducible refine Tk.Rd.ip ?_
  | ((with_reducible refine' Tk.Rd.bmK_l ?k0 ?_); (case k0 => walk_at "sql"))
  | ((with_reducible refine' Tk.Rd.addS ?k0 ?_); (case k0 => walk_at "sz"))
  | fail "rd1")
local macro_rules | `(tactic| walk_at "rd1i") => `(tactic| first
  | walk_at "rd1"
  | with_reducible refine Tk.Rd.ifS ?_
  | fail "rd1i")
local macro_rules | `(tactic| walk_at "rd") => `(tactic| (repeat' walk_at "rd1i"))
local macro_rules | `(tactic| walk_at "rs") => `(tactic| ((repeat' walk_at "rd1"); (try dsimp only)))
local macro_rules | `(tactic| walk_at "hall") => `(tactic| first
  | assumption
  | ((with_reducible refine' Tk.HallAt.sm ?k0 ?k1); (case k0 => assumption); (case k1 => walk_at "hall"))
  | fail "hall")
local macro_rules | `(tactic| walk_at "parts") => `(tactic| first
  | assumption
  | ((with_reducible refine' Tk.PartsAt.sm ?k0 ?k1); (case k0 => assumption); (case k1 => walk_at "parts"))
  | fail "parts")
local macro_rules | `(tactic| walk_at "sm") => `(tactic| first
  | assumption
  | exact Tk.Sm.int rfl
  | exact Tk.Sm.flat1 rfl
  | ((with_reducible refine' Tk.Sm.sm ?k0 ?k1); (case k0 => assumption); (case k1 => walk_at "sm"))
  | fail "sm")
local macro_rules | `(tactic| walk_at "rd1") => `(tactic| first
  | ((with_reducible refine' Tk.Rd.f_modulus ?k0 ?k1 ?_); (case k0 => assumption); (case k1 => walk_at "hall"))
  | ((with_reducible refine' Tk.Rd.f_lateness ?k0 ?k1 ?_); (case k0 => assumption); (case k1 => walk_at "hall"))
  | ((with_reducible refine' Tk.Rd.f_takes ?k0 ?k1 fun tp htp => ?_); (case k0 => assumption); (case k1 => walk_at "hall"))
  | ((with_reducible refine' Tk.Rd.f_calls ?k0 ?k1 fun cp hcp => ?_); (case k0 => assumption); (case k1 => walk_at "hall"))
  | ((with_reducible refine' Tk.Rd.h_meth ?k0 ?k1 ?_); (case k0 => walk_at "hall"); (case k1 => decide +kernel))
  | ((with_reducible refine' Tk.Rd.h_prop ?k0 ?_); (case k0 => walk_at "hall"))
  | ((with_reducible refine' Tk.Rd.h_taken0 ?k0 fun H' S => ?_); (case k0 => walk_at "hall"))
  | ((with_reducible refine' Tk.Rd.h_taken1 ?k0 fun H' S => ?_); (case k0 => walk_at "hall"))
  | ((with_reducible refine' Tk.Rd.h_takenL ?k0 fun H' S => ?_); (case k0 => walk_at "hall"))
  | ((with_reducible refine' Tk.Rd.h_called0 ?k0 ?_); (case k0 => walk_at "hall"))
  | ((with_reducible refine' Tk.Rd.h_called1 ?k0 ?_); (case k0 => walk_at "hall"))
  | ((with_reducible refine' Tk.Rd.h_calledL ?k0 ?_); (case k0 => walk_at "hall"))
  | ((with_reducible refine' Tk.Rd.h_waiting ?k0 ?k1 fun H' S => ?_); (case k0 => walk_at "hall"); (case k1 => omega))
  | ((with_reducible refine' Tk.Rd.h_growth ?k0 fun H' S => ?_); (case k0 => walk_at "hall"))
  | ((with_reducible refine' Tk.Rd.h_period ?k0 ?_); (case k0 => walk_at "hall"))
  | ((with_reducible refine' Tk.Rd.h_lhall ?k0 fun h lp H' nh nl S hA => ?_); (case k0 => walk_at "parts"))
  | ((with_reducible refine' Tk.Rd.h_length ?k0 ?_); (case k0 => walk_at "parts"))
  | ((with_reducible refine' Tk.Rd.h_counts ?k0 ?k1 fun r a b H' nr na nb nab S hr ha hb => ?_); (case k0 => walk_at "parts"); (case k1 => omega))
  | ((with_reducible refine' Tk.Rd.h_countsL ?k0 ?k1 fun r a b H' nr na nb nab S hr ha hb => ?_); (case k0 => walk_at "parts"); (case k1 => decide))
  | ((with_reducible refine' Tk.Rd.h_make ?k0 ?k1 ?k2 fun h lp H' nh nl S hA => ?_); (case k0 => assumption); (case k1 => walk_at "hp"); (case k2 => walk_at "hp"))
  | ((with_reducible refine' Tk.Rd.p_0 ?k0 ?_); (case k0 => walk_at "parts"))
  | ((with_reducible refine' Tk.Rd.p_1 ?k0 fun htp => ?_); (case k0 => walk_at "parts"))
  | ((with_reducible refine' Tk.Rd.p_2 ?k0 fun hcp => ?_); (case k0 => walk_at "parts"))
  | ((with_reducible refine' Tk.Rd.p_3 ?k0 ?_); (case k0 => walk_at "parts"))
  | fail "rd1")
local macro_rules | `(tactic| walk_at "sqt") => `(tactic| first | ((with_reducible refine' Tk.PartsAt.sq ?k0); (case k0 => walk_at "parts")) | fail "sqt")
local macro_rules | `(tactic| walk_at "free") => `(tactic| first
  | assumption
  | ((with_reducible refine' Tk.Same.fr ?k0 ?k1); (case k0 => assumption); (case k1 => walk_at "free")))
local macro_rules | `(tactic| walk_at "hp") => `(tactic| first
  | ((with_reducible refine' Tk.But.gt ?k0 ?k1 ?k2); (case k0 => assumption); (case k1 => assumption); (case k2 => walk_at "hp"))
  | ((with_reducible refine' Tk.But.gl ?k0 ?k1 ?k2); (case k0 => assumption); (case k1 => assumption); (case k2 => walk_at "hp"))
  | fail "hp")
local macro_rules | `(tactic| walk_at "hall") => `(tactic| first | ((with_reducible refine' Tk.HallAt.bt ?k0 ?k1 ?k2 ?k3); (case k0 => assumption); (case k1 => assumption); (case k2 => assumption); (case k3 => walk_at "hall")) | fail "hall")
local macro_rules | `(tactic| walk_at "parts") => `(tactic| first | ((with_reducible refine' Tk.PartsAt.bt ?k0 ?k1 ?k2); (case k0 => assumption); (case k1 => assumption); (case k2 => walk_at "parts")) | fail "parts")
local macro_rules | `(tactic| walk_at "rd1") => `(tactic| first
  | ((with_reducible refine' Tk.Rd.h_below ?k0 ?k1 ?k2 ?k3 fun r H' cs hr B hd hcs => ?_); (case k0 => walk_at "hp"); (case k1 => assumption); (case k2 => first | decide | omega); (case k3 => first | decide | omega))
  | ((with_reducible refine' Tk.Rd.h_parts ?k0 ?k1 ?k2 ?k3 fun t tp cp m lt tk cl H' cs nt B hd hcs hP l1 l2 => ?_); (case k0 => walk_at "hp"); (case k1 => assumption); (case k2 => first | decide | omega); (case k3 => first | decide | omega))
  | ((with_reducible refine' Tk.Rd.h_partsL ?k0 ?k1 ?k2 ?k3 fun t tp cp m lt tk cl H' cs nt B hd hcs hP l1 l2 => ?_); (case k0 => walk_at "hp"); (case k1 => assumption); (case k2 => first | decide | omega); (case k3 => first | decide | omega))
  | ((with_reducible refine' Tk.Rd.h_small ?k0 ?k1 fun t tp cp m lt tk cl H' cs nt B hd hcs hP m1 l1 l2 l3 => ?_); (case k0 => walk_at "hp"); (case k1 => assumption))
  | ((with_reducible refine' Tk.Rd.h_tick ?k0 ?k1 fun t H' cs ht B hd hcs => ?_); (case k0 => walk_at "hp"); (case k1 => assumption))
  | ((with_reducible refine' Tk.Rd.h_mo ?k0 fun v H' S hv => ?_); (case k0 => walk_at "hall"))
  | ((with_reducible refine' Tk.Rd.h_lc ?k0 fun v H' S hv => ?_); (case k0 => walk_at "hall"))
  | ((with_reducible refine' Tk.Rd.h_lm ?k0 fun v H' S hv => ?_); (case k0 => walk_at "hall"))
  | ((with_reducible refine' Tk.Rd.h_gl ?k0 fun v H' S hv => ?_); (case k0 => walk_at "hall"))
  | ((with_reducible refine' Tk.Rd.h_ot ?k0 ?k1 fun r H' nr S hr => ?_); (case k0 => walk_at "hall"); (case k1 => first | assumption | omega))
  | ((with_reducible refine' Tk.Rd.h_most2 ?k0 fun v H' S hv => ?_); (case k0 => walk_at "parts"))
  | ((with_reducible refine' Tk.Rd.h_opens2L ?k0 ?k1 fun l ys H' nl S hl hlen hR => ?_); (case k0 => walk_at "parts"); (case k1 => decide))
  | ((with_reducible refine' Tk.Rd.h_opens2 ?k0 ?k1 fun l ys H' nl S hl hlen hR => ?_); (case k0 => walk_at "parts"); (case k1 => first | decide | omega))
  | fail "rd1")
local macro_rules | `(tactic| walk_at "ok") => `(tactic| first
  | assumption
  | ((with_reducible refine' Tk.HallAt.ok ?k0); (case k0 => walk_at "hall"))
  | ((with_reducible refine' Tk.PartsAt.ok ?k0); (case k0 => walk_at "parts"))
  | fail "ok")
local macro_rules | `(tactic| walk_at "sml") => `(tactic| first
  | exact Tk.Sml.ints (by walk_at "szb")
  | exact Tk.Sml.intsT (by walk_at "szb")
  | trivial
  | (simp [Tk.Sml]; done)
  | (simp [Tk.Sml]; omega)
  | fail "sml")
local macro_rules | `(tactic| walk_at "rd1") => `(tactic| first
  | ((with_reducible refine' Tk.Rd.nT ?k0 ?_); (case k0 => with_reducible exact rfl))
  | ((with_reducible refine' Tk.Rd.dT ?k0 ?_); (case k0 => with_reducible exact rfl))
  | with_reducible refine Tk.Rd.nF Tk.Rd.int_non ?_
  | with_reducible refine Tk.Rd.nF Tk.Rd.ref_non ?_
  | with_reducible refine Tk.Rd.dF Tk.Rd.int_non ?_
  | with_reducible refine Tk.Rd.dF Tk.Rd.ref_non ?_
  | ((with_reducible refine' Tk.Rd.h_disp ?k0 ?k1 ?_); (case k0 => first | assumption | omega); (case k1 => walk_at "hall"))
  | ((with_reducible refine' Tk.Rd.h_hold ?k0 ?k1 ?k2 ?k3 fun l H' nl S hl => ?_); (case k0 => walk_at "hall"); (case k1 => first | assumption | omega); (case k2 => first | assumption | omega); (case k3 => first | assumption | omega))
  | ((with_reducible refine' Tk.Rd.h_mis ?k0 ?k1 ?k2 fun l ys H' nl S hl hd => ?_); (case k0 => walk_at "hall"); (case k1 => first | assumption | omega); (case k2 => first | assumption | omega))
  | ((with_reducible refine' Tk.Rd.h_enc ?k0 fun l H' nl S hl => ?_); (case k0 => walk_at "hall"))
  | ((with_reducible refine' Tk.Rd.h_dec ?k0 ?k1 fun h lp H' nh nl S hA => ?_); (case k0 => walk_at "hp"); (case k1 => walk_at "ok"))
  | ((with_reducible refine' Tk.Rd.h_text ?k0 fun H' S => ?_); (case k0 => walk_at "hall"))
  | ((with_reducible refine' Tk.Rd.h_eqd ?k0 ?k1 ?k2 fun H' S => ?_); (case k0 => walk_at "dp"); (case k1 => walk_at "dp"); (case k2 => walk_at "sml"))
  | ((with_reducible refine' Tk.Rd.eqd ?k0 ?k1 ?k2 ?k3 ?_); (case k0 => walk_at "dp"); (case k1 => walk_at "dp"); (case k2 => walk_at "sml"); (case k3 => walk_at "sml"))
  | ((with_reducible refine' Tk.Rd.ned ?k0 ?k1 ?k2 ?k3 ?_); (case k0 => walk_at "dp"); (case k1 => walk_at "dp"); (case k2 => walk_at "sml"); (case k3 => walk_at "sml"))
  | fail "rd1")
/-! ### Open tickets, their greatest number -/
namespace Tk
open PySem PySem.Spec PyProof.Rows L2 Mm
def MostV (tk cl : List Nat) (lt : Nat) (v : V) : Prop := (0 < grow tk cl ∧ v = .non) ∨ (grow tk cl = 0 ∧ ∃ M : Nat, v = vn M ∧ MaxIs (opn tk cl lt) M)
def spCo (C : Addr) : Sp := fun vs H Q _ => ∃ (h lp : Addr) (m lt : Nat) (tk cl : List Nat) (t l : Nat), vs = [.ref h, vn t, vn l] ∧ HallAt C H h m tk cl lt lp ∧ ∀ H', Same H H' → Q (vn (opn tk cl l t)) H'
def spMow (C : Addr) : Sp := fun vs H Q _ => ∃ (h lp : Addr) (m lt : Nat) (tk cl : List Nat) (l : Nat), vs = [.ref h, vn l] ∧ HallAt C H h m tk cl lt lp ∧ l ≤ 1000 ∧ ∀ v H', Same H H' → MostV tk cl l v → Q v H'
def spMo (C : Addr) : Sp := fun vs H Q _ => ∃ (h lp : Addr) (m lt : Nat) (tk cl : List Nat), vs = [.ref h] ∧ HallAt C H h m tk cl lt lp ∧ ∀ v H', Same H H' → MostV tk cl lt v → Q v H'
def spOt (C : Addr) : Sp := fun vs H Q _ => ∃ (h lp : Addr) (m lt : Nat) (tk cl : List Nat) (t : Nat), vs = [.ref h, vn t] ∧ HallAt C H h m tk cl lt lp ∧ t ≤ 1000000000000000000 ∧
  ∀ r H', H r = none → Same H H' → H' r = some (.tup [vn (cal tk cl (t - lt)), vn (opn tk cl lt t)]) → Q (.ref r) H'
def spLc (C : Addr) : Sp := fun vs H Q _ => ∃ (h lp : Addr) (m lt : Nat) (tk cl : List Nat), vs = [.ref h] ∧ HallAt C H h m tk cl lt lp ∧ ∀ v H', Same H H' → ((0 < grow tk cl ∧ v = .non) ∨ (grow tk cl = 0 ∧ ∃ M : Nat, v = vn (max 1 ((M + m - 1) / m)) ∧ MaxIs (opn tk cl lt) M)) → Q v H'
def spLm (C : Addr) : Sp := fun vs H Q _ => ∃ (h lp : Addr) (m lt : Nat) (tk cl : List Nat), vs = [.ref h] ∧ HallAt C H h m tk cl lt lp ∧ ∀ v H', Same H H' → ((0 < grow tk cl ∧ v = .non) ∨ (grow tk cl = 0 ∧ ∃ M : Nat, v = vn (max 2 M) ∧ MaxIs (opn tk cl lt) M)) → Q v H'
/-- with the lateness l nothing clashes -/
def Fits (tk cl : List Nat) (m l : Nat) : Prop := grow tk cl = 0 ∧ ∀ t, opn tk cl l t ≤ m
inductive GrL (tk cl : List Nat) (m : Nat) : V → Prop where
  | no (h : ∀ l, l ≤ 99 → ¬ Fits tk cl m l) : GrL tk cl m .non
  | some (L : Nat) (h0 : L ≤ 99) (h1 : Fits tk cl m L) (h2 : ∀ l, L < l → l ≤ 99 → ¬ Fits tk cl m l) : GrL tk cl m (vn L)
def spGl (C : Addr) : Sp := fun vs H Q _ => ∃ (h lp : Addr) (m lt : Nat) (tk cl : List Nat), vs = [.ref h] ∧ HallAt C H h m tk cl lt lp ∧ ∀ v H', Same H H' → GrL tk cl m v → Q v H'
def spTickN : Sp := fun vs H Q _ => ∃ t : Nat, vs = [vn t] ∧ t ≤ 1000000000000000000 ∧ Q .non H
section
variable {P : Program} {w : World} {K : PySem.W.Frag} {mg : Str → Option Value} {base : Heap}
theorem grow_gz {tk cl : List Nat} (h : grow tk cl = 0) : wt tk cl (per tk cl + 1) = wt tk cl (per tk cl + 1 + per tk cl) := by
  have u := wt_up (tk := tk) (cl := cl) per_tk per_cl (per tk cl + 1)
  unfold grow at h
  rw [show 2 * per tk cl + 1 = per tk cl + 1 + per tk cl by omega] at h
  omega
theorem grow0 {tk cl : List Nat} : grow tk cl = 0 ↔ wt tk cl (per tk cl + 1) = wt tk cl (per tk cl + 1 + per tk cl) := by
  have u := wt_up (tk := tk) (cl := cl) per_tk per_cl (per tk cl + 1)
  unfold grow
  rw [show 2 * per tk cl + 1 = per tk cl + 1 + per tk cl by omega]
  omega
theorem opn_int {tk cl : List Nat} {l t : Nat} : V.int ((tak tk (t + 1) : Int) - (cal tk cl (t - l) : Int)) = vn (opn tk cl l t) := vn_int (by have := opn_add (tk := tk) (cl := cl) (lt := l) t; omega)
theorem ok_count_open (T : Txt K mg) : OkF P w K mg base 4 (He.ga K "count_open") ["hall", "tick", "lateness"] (spCo (He.ga K "Hall")) := by
  have G_taken : OkF P w K mg base 1 (He.ma K (He.ga K "Hall") "taken") ["self", "tick"] (spTaken (He.ga K "Hall")) := ok_taken T
  have G_called : OkF P w K mg base 3 (He.ma K (He.ga K "Hall") "called") ["self", "tick"] (spCalled (He.ga K "Hall")) := ok_called T
  refine FnP.okF T.f_count_open sc_count_open (fun _ _ _ _ _ _ us hl => match us, hl with | [_, _, _], _ => rfl) (fun vs H Q E h => ?_) (fun cdv A outer s H vs Q E hr h => ?_)
  · obtain ⟨h, lp, m, lt, tk, cl, t, l, rfl, _⟩ := h
    rfl
  obtain ⟨h, lp, m, lt, tk, cl, t, l, rfl, hA, k⟩ := h
  refine ⟨_, (pss_one (ps_ret (pe_op op_sub (pe_meth (pv 0) T.cl_Hall T.m_taken G_taken.one (hr.mono (by decide)) G_taken.two .nil passL (pa_cons (pe_op op_add (pv 1) pe_int) pa_nil)) (pe_meth (pv 0) T.cl_Hall T.m_called G_called.one (hr.mono (by decide)) G_called.two .nil passL (pa_cons (pe_op op_sub (pv 1) (pv 2)) pa_nil))))), ?_⟩
  walk_at "rd"
  rename_i H1 S1
  have q := k H1 S1
  rw [← opn_int] at q
  exact q
theorem ok_most_open_with (T : Txt K mg) : OkF P w K mg base 7 (He.ga K "most_open_with") ["hall", "lateness"] (spMow (He.ga K "Hall")) := by
  have G_growth : OkF P w K mg base 5 (getAt K (He.ga K "Hall") "growth") ["self"] (spGrowth (He.ga K "Hall")) := ok_growth T
  have G_period : OkF P w K mg base 1 (getAt K (He.ga K "Hall") "period") ["self"] (spPeriod (He.ga K "Hall")) := ok_period T
  have G_count_open : OkF P w K mg base 4 (He.ga K "count_open") ["hall", "tick", "lateness"] (spCo (He.ga K "Hall")) := ok_count_open T
  refine FnP.okF T.f_most_open_with sc_most_open_with (fun _ _ _ _ _ _ us hl => match us, hl with | [_, _], _ => rfl) (fun vs H Q E h => ?_) (fun cdv A outer s H vs Q E hr h => ?_)
  · obtain ⟨h, lp, m, lt, tk, cl, l, rfl, _⟩ := h
    rfl
  obtain ⟨h, lp, m, lt, tk, cl, l, rfl, hA, hl, k⟩ := h
  have p0 := per_pos hA.ok.tkP.pos hA.ok.clP.pos
  have p144 := per_144 hA.ok.tkP hA.ok.clP
  refine ⟨_, (pss_cons (ps_if (pt_cmpR op_gt (pe_prop (pv 0) T.cl_Hall T.p_growth G_growth.one (hr.mono (by decide)) G_growth.two .nil passL (by rfl)) pe_int (nomark _)) (pss_one (ps_ret pe_non)) pss_nil)
    (pss_cons (ps_set (i := 2) sc_most_open_with.nd rfl (Or.inl rfl) (pe_op op_add (pe_prop (pv 0) T.cl_Hall T.p_period G_period.one (hr.mono (by decide)) G_period.two .nil passL (by rfl)) (pv 1)))
    (pss_one (ps_ret (pe_callB (maxLK (K := K)) (by rfl) T.g_max (by decide +kernel) (pa_cons (pe_lc (own := [("tick", 3)]) (g := gName 3) (tt := tYes) (by rfl) sc_most_open_with.nd (pi_range2 (by rfl) T.g_range (pa_cons (pv 2) (pa_cons (pe_op op_add (pv 2) (pe_prop (pv 0) T.cl_Hall T.p_period G_period.one (hr.mono (by decide)) G_period.two .nil passL (by rfl))) pa_nil))) (blkOk_by (own := [("tick", 3)]) (N := N_most_open_with) (sc := (defScope s_most_open_with)) (by decide +kernel)) (fun _ _ _ _ _ => pg_name (i := 3) sc_most_open_with.nd rfl (Or.inl rfl)) (fun _ _ _ _ _ => pts_nil) (fun _ _ _ _ _ => (pe_call G_count_open.one (hr.mono (by decide)) (by rfl) T.g_count_open G_count_open.kp G_count_open.two .nil passL (pa_cons (pv 0) (pa_cons (pv 3) (pa_cons (pv 1) pa_nil)))))) pa_nil)))))), ?_⟩
  walk_at "rd"
  rename_i H1 S1
  refine Rd.d2 (fun c => ?_) fun c => ?_
  · exact k _ _ S1 (.inl ⟨by omega, rfl⟩)
  have g0 : grow tk cl = 0 := by omega
  have gz := grow_gz g0
  walk_at "rd"
  refine Rd.rng2K_i (by omega) ?_
  rw [show ((per tk cl : Int) + (l : Int) + (per tk cl : Int) - ((per tk cl : Int) + (l : Int))).toNat = per tk cl by omega]
  refine Rd.lc_rngL (fun i => vn (opn tk cl l (per tk cl + l + i))) (by omega) (fun i hi => Rd.turn1 rfl fun H' S Q' q => ?_) fun D H2 nD S2 h2 => ?_
  · walk_at "rd"
    refine ⟨h, lp, m, lt, tk, cl, per tk cl + l + i, l, ?_, (by walk_at "hall"), q⟩
    rw [show ((per tk cl : Int) + (l : Int) + (i : Int)) = ((per tk cl + l + i : Nat) : Int) by omega]
  · walk_at "rd"
    refine ⟨D, (List.range (per tk cl)).map fun i => ((opn tk cl l (per tk cl + l + i) : Nat) : Int), rfl, SqL.of (by rw [List.map_map]; exact h2), by simp; omega, fun z hz hall => ?_⟩
    obtain ⟨i, hi, rfl⟩ := List.mem_map.mp hz
    refine k _ _ (S1.trans S2) (.inr ⟨g0, _, rfl, opn_max p0 per_tk per_cl gz (fun j hj => ?_) ⟨_, rfl⟩⟩)
    have := hall _ (List.mem_map.mpr ⟨j, List.mem_range.mpr hj, rfl⟩)
    omega
theorem ok_most_open (T : Txt K mg) : OkF P w K mg base 8 (He.ga K "most_open") ["hall"] (spMo (He.ga K "Hall")) := by
  have G_most_open_with : OkF P w K mg base 7 (He.ga K "most_open_with") ["hall", "lateness"] (spMow (He.ga K "Hall")) := ok_most_open_with T
  refine FnP.okF T.f_most_open sc_most_open (fun _ _ _ _ _ _ us hl => match us, hl with | [_], _ => rfl) (fun vs H Q E h => ?_) (fun cdv A outer s H vs Q E hr h => ?_)
  · obtain ⟨h, lp, m, lt, tk, cl, rfl, _⟩ := h
    rfl
  obtain ⟨h, lp, m, lt, tk, cl, rfl, hA, k⟩ := h
  have l99 := hA.ok.l99
  refine ⟨_, (pss_one (ps_ret (pe_call G_most_open_with.one (hr.mono (by decide)) (by rfl) T.g_most_open_with G_most_open_with.kp G_most_open_with.two .nil passL (pa_cons (pv 0) (pa_cons (pe_fld (pv 0) rfl) pa_nil))))), ?_⟩
  walk_at "rd"
  exact ⟨h, lp, m, lt, tk, cl, lt, rfl, hA, by omega, k⟩
theorem ok_least_colors (T : Txt K mg) : OkF P w K mg base 9 (He.ga K "least_colors") ["hall"] (spLc (He.ga K "Hall")) := by
  have G_most_open : OkF P w K mg base 8 (He.ga K "most_open") ["hall"] (spMo (He.ga K "Hall")) := ok_most_open T
  refine FnP.okF T.f_least_colors sc_least_colors (fun _ _ _ _ _ _ us hl => match us, hl with | [_], _ => rfl) (fun vs H Q E h => ?_) (fun cdv A outer s H vs Q E hr h => ?_)
  · obtain ⟨h, lp, m, lt, tk, cl, rfl, _⟩ := h
    rfl
  obtain ⟨h, lp, m, lt, tk, cl, rfl, hA, k⟩ := h
  have m2 := hA.ok.m2
  have m4 := hA.ok.m4
  refine ⟨_, (pss_cons (ps_set (i := 1) sc_least_colors.nd rfl (Or.inl rfl) (pe_call G_most_open.one (hr.mono (by decide)) (by rfl) T.g_most_open G_most_open.kp G_most_open.two .nil passL (pa_cons (pv 0) pa_nil)))
    (pss_cons (ps_if (pt_cmpR (show OpR _ (compareOp .Is) Rd.rIsN from op_isN) (pv 1) pe_non (nomark _)) (pss_one (ps_ret pe_non)) pss_nil)
    (pss_one (ps_ret (pe_callB (show CallR _ (.builtin "max") Rd.rMax2 from call_max2 (by rfl)) (by rfl) T.g_max (by decide +kernel) (pa_cons pe_int (pa_cons (pe_op op_fdiv (pe_op op_sub (pe_op op_add (pv 1) (pe_fld (pv 0) rfl)) pe_int) (pe_fld (pv 0) rfl)) pa_nil))))))), ?_⟩
  walk_at "rd"
  refine ⟨h, lp, m, lt, tk, cl, rfl, hA, fun v H1 S1 hv => ?_⟩
  walk_at "rd"
  rcases hv with ⟨g, rfl⟩ | ⟨g, M, rfl, hM⟩
  · refine Rd.dT rfl ?_
    exact k _ _ S1 (.inl ⟨g, rfl⟩)
  refine Rd.dF (by simp) ?_
  walk_at "rd"
  have e : V.int (max 1 (((M : Int) + (m : Int) - 1) / (m : Int))) = vn (max 1 ((M + m - 1) / m)) := by
    refine vn_int ?_
    rw [show (M : Int) + (m : Int) - 1 = ((M + m - 1 : Nat) : Int) by omega, ← Int.natCast_ediv]
    omega
  have q := k _ _ S1 (.inr ⟨g, M, rfl, hM⟩)
  rw [← e] at q
  exact q
end
end Tk
namespace Tk
open PySem PySem.Spec PyProof.Rows L2 Mm
def ColV (tk cl : List Nat) (m lt : Nat) (v : V) : Prop := (0 < grow tk cl ∧ v = .non) ∨ (grow tk cl = 0 ∧ ∃ M : Nat, v = vn (max 1 ((M + m - 1) / m)) ∧ MaxIs (opn tk cl lt) M)
def LmV (tk cl : List Nat) (lt : Nat) (v : V) : Prop := (0 < grow tk cl ∧ v = .non) ∨ (grow tk cl = 0 ∧ ∃ M : Nat, v = vn (max 2 M) ∧ MaxIs (opn tk cl lt) M)
theorem MostV.uniq {tk cl : List Nat} {lt : Nat} {v u : V} (a : MostV tk cl lt v) (b : MostV tk cl lt u) : v = u := by
  rcases a with ⟨a, rfl⟩ | ⟨a, M, rfl, hM⟩ <;> rcases b with ⟨b, rfl⟩ | ⟨b, N, rfl, hN⟩
  · rfl
  · omega
  · omega
  · rw [hM.uniq hN]
theorem ColV.uniq {tk cl : List Nat} {m lt : Nat} {v u : V} (a : ColV tk cl m lt v) (b : ColV tk cl m lt u) : v = u := by
  rcases a with ⟨a, rfl⟩ | ⟨a, M, rfl, hM⟩ <;> rcases b with ⟨b, rfl⟩ | ⟨b, N, rfl, hN⟩
  · rfl
  · omega
  · omega
  · rw [hM.uniq hN]
theorem LmV.uniq {tk cl : List Nat} {lt : Nat} {v u : V} (a : LmV tk cl lt v) (b : LmV tk cl lt u) : v = u := by
  rcases a with ⟨a, rfl⟩ | ⟨a, M, rfl, hM⟩ <;> rcases b with ⟨b, rfl⟩ | ⟨b, N, rfl, hN⟩
  · rfl
  · omega
  · omega
  · rw [hM.uniq hN]
theorem GrL.uniq {tk cl : List Nat} {m : Nat} {v u : V} (a : GrL tk cl m v) (b : GrL tk cl m u) : v = u := by
  cases a with
  | no h =>
    cases b with
    | no _ => rfl
    | some L h0 h1 h2 => exact absurd h1 (h L h0)
  | some L h0 h1 h2 =>
    cases b with
    | no h => exact absurd h1 (h L h0)
    | some N k0 k1 k2 =>
      rcases Nat.lt_trichotomy L N with z | z | z
      · exact absurd k1 (h2 N z k0)
      · rw [z]
      · exact absurd h1 (k2 L z h0)
namespace Rd
variable {K : PySem.W.Frag} {H : Hp} {Q : VK} {E : XK} {C h lp : Addr} {m lt : Nat} {tk cl : List Nat}
theorem h_mo (hA : HallAt C H h m tk cl lt lp) (k : ∀ v H', Same H H' → MostV tk cl lt v → Q v H') : spMo C [.ref h] H Q E := ⟨h, lp, m, lt, tk, cl, rfl, hA, k⟩
theorem h_lc (hA : HallAt C H h m tk cl lt lp) (k : ∀ v H', Same H H' → ColV tk cl m lt v → Q v H') : spLc C [.ref h] H Q E := ⟨h, lp, m, lt, tk, cl, rfl, hA, k⟩
theorem h_lm (hA : HallAt C H h m tk cl lt lp) (k : ∀ v H', Same H H' → LmV tk cl lt v → Q v H') : spLm C [.ref h] H Q E := ⟨h, lp, m, lt, tk, cl, rfl, hA, k⟩
theorem h_gl (hA : HallAt C H h m tk cl lt lp) (k : ∀ v H', Same H H' → GrL tk cl m v → Q v H') : spGl C [.ref h] H Q E := ⟨h, lp, m, lt, tk, cl, rfl, hA, k⟩
theorem h_ot {t : Nat} (hA : HallAt C H h m tk cl lt lp) (ht : t ≤ 1000000000000000000) (k : ∀ r H', H r = none → Same H H' → H' r = some (.tup [vn (cal tk cl (t - lt)), vn (opn tk cl lt t)]) → Q (.ref r) H') : spOt C [.ref h, .int (t : Int)] H Q E := ⟨h, lp, m, lt, tk, cl, t, rfl, hA, ht, k⟩
end Rd
end Tk

end

/-! ### Plans: the mathematics -/
namespace Tk
open PySem PySem.Spec PyProof.Rows L2 Mm
namespace Pn
/-- the calls with one more at each place of a plan -/
def addAt (cl pl : List Nat) : List Nat := (List.range cl.length).map fun i => cl.getD i 0 + pl.count i
def lastP (pl : List Nat) : Nat := pl.getLast?.getD 0
def NC (m : Nat) (tk cl : List Nat) (lt : Nat) : Prop := ∃ M, MostV tk cl lt (vn M) ∧ M ≤ m
noncomputable def ncB (m : Nat) (tk cl : List Nat) (lt : Nat) (pl : List Nat) : Bool := @decide (NC m tk (addAt cl pl) lt) (Classical.propDecidable _)
theorem ncB_iff {m lt : Nat} {tk cl pl : List Nat} : ncB m tk cl lt pl = true ↔ NC m tk (addAt cl pl) lt := by
  unfold ncB
  exact @decide_eq_true_iff _ (Classical.propDecidable _)
/-- all longer plans; those that the program goes on with -/
def ext (n : Nat) (pl : List Nat) : List (List Nat) := (List.range (n - lastP pl)).map fun j => pl ++ [lastP pl + j]
def okx (cl pl : List Nat) (j : Nat) : Bool := decide (cl.getD (lastP pl + j) 0 + pl.count (lastP pl + j) < 9)
def extP (cl pl : List Nat) : List (List Nat) := ((List.range (cl.length - lastP pl)).filter (okx cl pl)).map fun j => pl ++ [lastP pl + j]
def full (n : Nat) : Nat → List (List Nat)
  | 0 => [[]]
  | k + 1 => (full n k).flatMap (ext n)
def pru (cl : List Nat) : Nat → List (List Nat)
  | 0 => [[]]
  | k + 1 => (pru cl k).flatMap (extP cl)
/-- no item above nine -/
def fine (cl pl : List Nat) : Bool := (addAt cl pl).all fun x => decide (x ≤ 9)
theorem addAt_len {cl pl : List Nat} : (addAt cl pl).length = cl.length := by unfold addAt; simp
theorem addAt_nil {cl : List Nat} : addAt cl [] = cl := by
  unfold addAt
  have := Rd.range_get cl 0 id
  simpa using this
theorem fine_iff {cl pl : List Nat} : fine cl pl = true ↔ ∀ i < cl.length, cl.getD i 0 + pl.count i ≤ 9 := by
  unfold fine addAt
  rw [List.all_map, List.all_eq_true]
  constructor
  · intro h i hi
    have := h i (List.mem_range.mpr hi)
    simpa using this
  · intro h i hi
    have := h i (List.mem_range.mp hi)
    simpa using this
theorem fine_snoc {cl pl : List Nat} {p : Nat} (hp : p < cl.length) : fine cl (pl ++ [p]) = (fine cl pl && decide (cl.getD p 0 + pl.count p < 9)) := by
  rw [Bool.eq_iff_iff, Bool.and_eq_true, decide_eq_true_eq, fine_iff, fine_iff]
  have cnt : ∀ i, (pl ++ [p]).count i = pl.count i + if p = i then 1 else 0 := fun i => by
    rw [List.count_append]
    congr 1
    by_cases h : p = i <;> simp [h]
  constructor
  · intro h
    refine ⟨fun i hi => ?_, ?_⟩
    · have := h i hi
      rw [cnt] at this
      omega
    · have := h p hp
      rw [cnt, if_pos rfl] at this
      omega
  · rintro ⟨h1, h2⟩ i hi
    rw [cnt]
    by_cases e : p = i
    · subst e
      rw [if_pos rfl]
      omega
    · rw [if_neg e]
      have := h1 i hi
      omega
theorem ext_fine {cl pl : List Nat} : (ext cl.length pl).filter (fine cl) = if fine cl pl = true then extP cl pl else [] := by
  unfold ext extP
  rw [List.filter_map]
  by_cases h : fine cl pl = true
  · rw [if_pos h]
    congr 1
    refine List.filter_congr fun j hj => ?_
    have := List.mem_range.mp hj
    show fine cl (pl ++ [lastP pl + j]) = okx cl pl j
    rw [fine_snoc (by omega), h, Bool.true_and]
    rfl
  · rw [if_neg h]
    rw [List.map_eq_nil_iff, List.filter_eq_nil_iff]
    intro j hj
    have := List.mem_range.mp hj
    show ¬ fine cl (pl ++ [lastP pl + j]) = true
    rw [fine_snoc (by omega)]
    simp [h]
theorem pru_full {cl : List Nat} (h : ∀ x ∈ cl, x ≤ 9) : ∀ k, pru cl k = (full cl.length k).filter (fine cl)
  | 0 => by
    have : fine cl [] = true := fine_iff.mpr fun i hi => by
      have := h _ (List.mem_of_getElem? (List.getElem?_eq_getElem hi))
      rw [List.getD_eq_getElem?_getD, List.getElem?_eq_getElem hi]
      simpa using this
    show [[]] = ([[]] : List (List Nat)).filter (fine cl)
    simp [this]
  | k + 1 => by
    show (pru cl k).flatMap (extP cl) = ((full cl.length k).flatMap (ext cl.length)).filter (fine cl)
    rw [pru_full h k, List.filter_flatMap]
    induction full cl.length k with
    | nil => rfl
    | cons pl r ih =>
      rw [List.flatMap_cons, ← ih, ext_fine, List.filter_cons]
      by_cases c : fine cl pl = true
      · rw [if_pos c, if_pos c, List.flatMap_cons]
      · rw [if_neg c, if_neg c, List.nil_append]
theorem full_len {n : Nat} (hn : n ≤ 3) : ∀ k, (full n k).length ≤ 3 ^ k
  | 0 => Nat.le_refl _
  | k + 1 => by
    have ih := full_len hn k
    show ((full n k).flatMap (ext n)).length ≤ 3 ^ (k + 1)
    have : ∀ l : List (List Nat), (l.flatMap (ext n)).length ≤ 3 * l.length := fun l => by
      induction l with
      | nil => simp
      | cons a r ih2 =>
        rw [List.flatMap_cons, List.length_append, List.length_cons]
        have : (ext n a).length ≤ 3 := by unfold ext; rw [List.length_map, List.length_range]; omega
        omega
    have := this (full n k)
    rw [Nat.pow_succ]
    omega
theorem mem_len {n : Nat} : ∀ k, ∀ pl ∈ full n k, pl.length = k ∧ ∀ p ∈ pl, p < n
  | 0, pl, h => by
    obtain rfl : pl = [] := by simpa [full] using h
    exact ⟨rfl, fun p hp => by cases hp⟩
  | k + 1, pl, h => by
    obtain ⟨q, hq, hm⟩ := List.mem_flatMap.mp h
    obtain ⟨l1, l2⟩ := mem_len k q hq
    unfold ext at hm
    obtain ⟨j, hj, rfl⟩ := List.mem_map.mp hm
    have := List.mem_range.mp hj
    refine ⟨by simp [l1], fun p hp => ?_⟩
    rcases List.mem_append.mp hp with hp | hp
    · exact l2 p hp
    · rw [List.mem_singleton.mp hp]
      omega
theorem pru_mem {cl : List Nat} (h : ∀ x ∈ cl, x ≤ 9) {k : Nat} {pl : List Nat} (hm : pl ∈ pru cl k) : pl.length = k ∧ fine cl pl = true := by
  rw [pru_full h] at hm
  obtain ⟨h1, h2⟩ := List.mem_filter.mp hm
  exact ⟨(mem_len k pl h1).1, h2⟩
theorem fine_nine {cl pl : List Nat} (h : fine cl pl = true) : ∀ x ∈ addAt cl pl, x ≤ 9 := fun x hx => by
  have := List.all_eq_true.mp h x hx
  simpa using this
/-- the plan that is found -/
noncomputable def found (m : Nat) (tk cl : List Nat) (lt : Nat) (ps : List (List Nat)) : Option (List Nat) := ps.find? (ncB m tk cl lt)
theorem find_eq {m lt : Nat} {tk cl : List Nat} (h : ∀ x ∈ cl, x ≤ 9) (n : Nat) : ((List.range n).flatMap (pru cl)).find? (ncB m tk cl lt) = ((List.range n).flatMap (full cl.length)).find? (fun pl => fine cl pl && ncB m tk cl lt pl) := by
  have e : (List.range n).flatMap (pru cl) = ((List.range n).flatMap (full cl.length)).filter (fine cl) := by
    rw [List.filter_flatMap]
    refine congrArg (fun g => (List.range n).flatMap g) (funext fun k => pru_full h k)
  rw [e, List.find?_filter]
  congr 1
  funext pl
  cases fine cl pl <;> cases ncB m tk cl lt pl <;> rfl
theorem hit {α β : Type} {p : β → Bool} {f : α → List β} {l : List α} {i j : Nat} {x : α} {b : β} (hx : l[i]? = some x) (h0 : ((l.take i).flatMap f).find? p = none) (hb : (f x)[j]? = some b) (h1 : ((f x).take j).find? p = none) (hp : p b = true) : (l.flatMap f).find? p = some b := by
  have hi : i < l.length := (List.getElem?_eq_some_iff.mp hx).1
  have hj : j < (f x).length := (List.getElem?_eq_some_iff.mp hb).1
  have e1 : l = l.take i ++ x :: l.drop (i + 1) := by
    have e : l[i] = x := (List.getElem?_eq_some_iff.mp hx).2
    rw [← e, List.getElem_cons_drop hi, List.take_append_drop]
  have e2 : f x = (f x).take j ++ b :: (f x).drop (j + 1) := by
    have e : (f x)[j] = b := (List.getElem?_eq_some_iff.mp hb).2
    rw [← e, List.getElem_cons_drop hj, List.take_append_drop]
  rw [e1, List.flatMap_append, List.find?_append, h0, List.flatMap_cons, List.find?_append, e2, List.find?_append, h1, List.find?_cons, hp]
  rfl
theorem miss {α : Type} {p : α → Bool} {l : List α} {j : Nat} {x : α} (hx : l[j]? = some x) (h1 : (l.take j).find? p = none) (hp : p x = false) : (l.take (j + 1)).find? p = none := by
  rw [List.take_succ, hx, List.find?_append, h1]
  show (none : Option α).or (List.find? p [x]) = none
  rw [List.find?_cons, hp]
  rfl
/-- overwritten from behind: the first one stays -/
theorem back {α : Type} (p : α → Bool) (l : List α) (e : Option α) : l.reverse.foldl (fun e x => if p x = true then some x else e) e = (l.find? p).or e := by
  rw [List.foldl_reverse]
  induction l with
  | nil => rfl
  | cons x r ih =>
    rw [List.foldr_cons, ih, List.find?_cons]
    cases p x <;> simp
theorem back2 {α : Type} (p : α → Bool) (ls : List (List α)) (e : Option α) : ls.reverse.foldl (fun e l => l.reverse.foldl (fun e x => if p x = true then some x else e) e) e = (ls.flatten.find? p).or e := by
  rw [List.foldl_reverse]
  induction ls with
  | nil => rfl
  | cons l r ih =>
    rw [List.foldr_cons, ih, back, List.flatten_cons, List.find?_append, Option.or_assoc]
end Pn
end Tk

section
local macro_rules | `(tactic| walk_at "hp") => `(tactic| first
  | assumption
  | with_reducible exact L2.upd_same
  | ((with_reducible refine' Tk.Same.get ?k0 ?k1); (case k0 => assumption); (case k1 => walk_at "hp"))
  | fail "hp")
local macro_rules | `(tactic| walk_at "same") => `(tactic| first
  | assumption
  | exact L2.Same.refl _
  | ((with_reducible refine' Tk.Same.nw ?k0 ?k1); (case k0 => assumption); (case k1 => walk_at "same"))
  | ((with_reducible refine' Tk.Same.tr ?k0 ?k1); (case k0 => assumption); (case k1 => walk_at "same")))
local macro_rules | `(tactic| walk_at "sql") => `(tactic| first
  | assumption
  | ((with_reducible refine' L2.SqL.of ?k0); (case k0 => walk_at "hp"))
  | ((with_reducible refine' L2.Same.seq ?k0 ?k1); (case k0 => assumption); (case k1 => walk_at "sql")))
local macro_rules | `(tactic| walk_at "sqt") => `(tactic| first
  | assumption
  | ((with_reducible refine' L2.SqT.of ?k0); (case k0 => walk_at "hp"))
  | ((with_reducible refine' Tk.sqt_sm ?k0 ?k1); (case k0 => assumption); (case k1 => walk_at "sqt")))
local macro_rules | `(tactic| walk_at "sz") => `(tactic| first
  | (show (_ : Nat) ≤ 1000; decide)
  | (simp; done)
  | (simp; omega))
local macro_rules | `(tactic| walk_at "szb") => `(tactic| first
  | assumption
  | (show (_ : Nat) ≤ 100000; decide)
  | (simp; done)
  | (simp; omega))
local macro_rules | `(tactic| walk_at "dp") => `(tactic| first
  | assumption
  | with_reducible exact L2.Dp.non
  | with_reducible exact L2.Dp.int _
  | with_reducible exact L2.Dp.str _
  | with_reducible exact L2.Dp.bl _
  | ((with_reducible refine' L2.Dp.lst ?k0 ?k1); (case k0 => walk_at "sql"); (case k1 => walk_at "dpa"))
  | ((with_reducible refine' L2.Dp.tup ?k0 ?k1); (case k0 => walk_at "sqt"); (case k1 => walk_at "dpa"))
  | ((with_reducible refine' Tk.dp_sm ?k0 ?k1); (case k0 => assumption); (case k1 => walk_at "dp"))
  | fail "dp")
local macro_rules | `(tactic| walk_at "dpa") => `(tactic| first
  | assumption
  | with_reducible exact L2.DpAll.nil
  | ((with_reducible refine' L2.DpAll.cons ?k0 ?k1); (case k0 => walk_at "dp"); (case k1 => walk_at "dpa"))
  | with_reducible exact Tk.dp_nats _
  | ((with_reducible refine' Tk.dpA_sm ?k0 ?k1); (case k0 => assumption); (case k1 => walk_at "dpa"))
  | fail "dpa")
local macro_rules | `(tactic| walk_at "ci") => `(tactic| first
  | exact .inl ⟨by decide, by decide⟩
  | exact .inr ⟨by decide, by decide⟩
  | exact .inl ⟨by omega, by omega⟩
  | exact .inr ⟨by omega, by omega⟩
  | exact ⟨by decide, by decide⟩
  | exact ⟨by omega, by omega⟩
  | (show (0 : Int) < _; decide)
  | (show (0 : Int) < _; omega))
local macro_rules | `(tactic| walk_at "rd1") => `(tactic| first
  | with_reducible refine Tk.Rd.seq ?_
  | with_reducible refine Tk.Rd.star ?_
  | with_reducible refine Tk.Rd.int1_i ?_
  | with_reducible refine Tk.Rd.int1_b ?_
  | with_reducible refine Tk.Rd.tlc2 ?_
  | with_reducible refine Tk.Rd.lrg3 ?_
  | with_reducible refine Tk.Rd.lrg ?_
  | with_reducible refine Tk.Rd.rg1 ?_
  | with_reducible refine Tk.Rd.rg1K_i ?_
  | with_reducible refine Tk.Rd.rg2 ?_
  | with_reducible refine Tk.Rd.rg2K_i ?_
  | ((with_reducible refine' Tk.Rd.catL ?k0 ?k1 ?k2 fun p H' np S hp => ?_); (case k0 => walk_at "hp"); (case k1 => walk_at "hp"); (case k2 => walk_at "szb"))
  | ((with_reducible refine' Tk.Rd.starK_t ?k0 ?_); (case k0 => walk_at "sqt"))
  | ((with_reducible refine' Tk.Rd.starK_l ?k0 ?_); (case k0 => walk_at "sql"))
  | ((with_reducible refine' Tk.Rd.var ?k0 ?_); (case k0 => exact rfl))
  | with_reducible refine Tk.Rd.c ?_
  | with_reducible refine Tk.Rd.op ?_
  | with_reducible refine Tk.Rd.i0 ?_
  | with_reducible refine Tk.Rd.asg ?_
  | with_reducible refine Tk.Rd.name ?_
  | with_reducible refine Tk.Rd.cons ?_
  | with_reducible refine Tk.Rd.nil ?_
  | with_reducible refine Tk.Rd.call ?_
  | with_reducible refine Tk.Rd.callK_i ?_
  | with_reducible refine Tk.Rd.tst ?_
  | with_reducible refine Tk.Rd.bv ?_
  | with_reducible refine Tk.Rd.toB_i ?_
  | with_reducible refine Tk.Rd.ift ?_
  | with_reducible refine Tk.Rd.iff ?_
  | with_reducible refine Tk.Rd.ifnt ?_
  | with_reducible refine Tk.Rd.ifnf ?_
  | with_reducible refine Tk.Rd.not ?_
  | with_reducible refine Tk.Rd.and ?_
  | with_reducible refine Tk.Rd.or ?_
  | with_reducible refine Tk.Rd.andV ?_
  | with_reducible refine Tk.Rd.andK_i ?_
  | with_reducible refine Tk.Rd.orV ?_
  | with_reducible refine Tk.Rd.orK_i ?_
  | with_reducible refine Tk.Rd.notV ?_
  | with_reducible refine Tk.Rd.notK_i ?_
  | with_reducible refine Tk.Rd.tif ?_
  | with_reducible refine Tk.Rd.yes ?_
  | with_reducible refine Tk.Rd.tfor ?_
  | with_reducible refine Tk.Rd.tlc ?_
  | with_reducible refine Tk.Rd.rng ?_
  | ((with_reducible refine' Tk.Rd.rngK_n ?k0 ?_); (case k0 => first | decide | omega))
  | ((with_reducible refine' Tk.Rd.rngK_lit ?k0 ?_); (case k0 => decide))
  | with_reducible refine Tk.Rd.rng2 ?_
  | with_reducible refine Tk.Rd.rng3 ?_
  | with_reducible refine Tk.Rd.ilist ?_
  | with_reducible refine Tk.Rd.zip ?_
  | with_reducible refine Tk.Rd.itup ?_
  | ((with_reducible refine' Tk.Rd.listK_i ?k0 ?_); (case k0 => walk_at "sql"))
  | ((with_reducible refine' Tk.Rd.ituK_i ?k0 ?_); (case k0 => walk_at "sqt"))
  | with_reducible refine Tk.Rd.chain ?_
  | with_reducible refine Tk.Rd.chainL_i ?_
  | with_reducible refine Tk.Rd.un ?_
  | with_reducible refine Tk.Rd.u1 ?_
  | ((with_reducible refine' Tk.Rd.i1 ?k0 ?_); (case k0 => walk_at "ci"))
  | ((with_reducible refine' Tk.Rd.eq ?k0 ?_); (case k0 => exact rfl))
  | ((with_reducible refine' Tk.Rd.ne ?k0 ?_); (case k0 => exact rfl))
  | with_reducible refine Tk.Rd.isN ?_
  | with_reducible refine Tk.Rd.notN ?_
  | with_reducible refine Tk.Rd.fld ?_
  | with_reducible refine Tk.Rd.meth ?_
  | with_reducible refine Tk.Rd.prop ?_
  | with_reducible refine Tk.Rd.cb ?_
  | with_reducible refine Tk.Rd.bm ?_
  | with_reducible refine Tk.Rd.m0 ?_
  | with_reducible refine Tk.Rd.m0K_i ?_
  | with_reducible refine Tk.Rd.m1 ?_
  | with_reducible refine Tk.Rd.m1K_i ?_
  | with_reducible refine Tk.Rd.tup ?_
  | ((with_reducible refine' Tk.Rd.tupK_i ?k0 fun p H' np S hp => ?_); (case k0 => walk_at "sz"))
  | with_reducible refine Tk.Rd.lst ?_
  | ((with_reducible refine' Tk.Rd.lstK_i ?k0 fun p H' np S hp => ?_); (case k0 => walk_at "sz"))
  | ((with_reducible refine' Tk.Rd.ixF ?k0 ?k1 ?_); (case k0 => walk_at "hp"); (case k1 => omega))
  | ((with_reducible refine' Tk.Rd.ixF1 ?k0 ?k1 ?_); (case k0 => walk_at "hp"); (case k1 => omega))
  | ((with_reducible refine' Tk.Rd.ixT ?k0 ?k1 ?_); (case k0 => walk_at "sqt"); (case k1 => exact rfl))
  | ((with_reducible refine' Tk.Rd.ixL ?k0 ?k1 ?_); (case k0 => walk_at "sql"); (case k1 => exact rfl))
  | ((with_reducible refine' Tk.Rd.lenL ?k0 ?_); (case k0 => walk_at "sql"))
  | ((with_reducible refine' Tk.Rd.lenT ?k0 ?_); (case k0 => walk_at "sqt"))
  | ((with_reducible refine' Tk.Rd.lenS ?k0 ?_); (case k0 => first | assumption | omega | (simp; omega)))
  | ((with_reducible refine' Tk.Rd.slTr ?k0 fun p H' S hp => ?_); (case k0 => walk_at "hp"))
  | ((with_reducible refine' Tk.Rd.slT ?k0 fun p H' S hq => ?_); (case k0 => walk_at "sqt"))
  | ((with_reducible refine' Tk.Rd.catTr ?k0 ?k1 ?k2 fun p H' S hp => ?_); (case k0 => walk_at "hp"); (case k1 => walk_at "hp"); (case k2 => walk_at "sz"))
  | ((with_reducible refine' Tk.Rd.catA ?k0 ?k1 ?k2 ?k3 ?k4 fun p H' np S hp => ?_); (case k0 => walk_at "sqt"); (case k1 => walk_at "sqt"); (case k2 => simp); (case k3 => simp); (case k4 => first | (simp; done) | (simp; omega)))
  | with_reducible refine Tk.Rd.make ?_
  | ((with_reducible refine' Tk.Rd.tplL ?k0 fun q H' nq S hq => ?_); (case k0 => walk_at "sql"))
  | ((with_reducible refine' Tk.Rd.lstL ?k0 fun q H' nq S hq => ?_); (case k0 => walk_at "sql"))
  | ((with_reducible refine' Tk.Rd.lstT ?k0 fun q H' nq S hq => ?_); (case k0 => walk_at "sqt"))
  | ((with_reducible refine' Tk.Rd.join ?k0 ?k1 ?_); (case k0 => walk_at "sql"); (case k1 => first | assumption | omega))
  | with_reducible refine Tk.Rd.mx ?_
  | with_reducible refine Tk.Rd.mn ?_
  | with_reducible refine Tk.Rd.noPart ?_
  | with_reducible refine Tk.Rd.part ?_
  | with_reducible refine Tk.Rd.partK_i ?_
  | with_reducible refine Tk.Rd.slc ?_
  | ((with_reducible refine' Tk.Rd.gtup ?k0 ?k1 ?_); (case k0 => walk_at "sqt"); (case k1 => exact rfl))
  | ((with_reducible refine' Tk.Rd.glst ?k0 ?k1 ?_); (case k0 => walk_at "sql"); (case k1 => exact rfl))
  | with_reducible refine Tk.Rd.gcons ?_
  | with_reducible refine Tk.Rd.gnil ?_
  | with_reducible refine Tk.Rd.next ?_
  | with_reducible refine Tk.Rd.drop ?_
  | with_reducible refine Tk.Rd.ret ?_
  | with_reducible refine Tk.Rd.retN ?_
  | with_reducible refine Tk.Rd.par ?_
  | with_reducible refine Tk.Rd.parK_i ?_
  | with_reducible refine Tk.Rd.par3 ?_
  | with_reducible refine Tk.Rd.par3K_i ?_
  | ((with_reducible refine' Tk.Rd.aug ?k0 ?_); (case k0 => exact rfl))
  | with_reducible refine Tk.Rd.ip ?_
  | ((with_reducible refine' Tk.Rd.bmK_l ?k0 ?_); (case k0 => walk_at "sql"))
  | ((with_reducible refine' Tk.Rd.addS ?k0 ?_); (case k0 => walk_at "sz"))
  | fail "rd1")
local macro_rules | `(tactic| walk_at "rd1i") => `(tactic| first
  | walk_at "rd1"
  | with_reducible refine Tk.Rd.ifS ?_
  | fail "rd1i")
local macro_rules | `(tactic| walk_at "rd") => `(tactic| (repeat' walk_at "rd1i"))
local macro_rules | `(tactic| walk_at "rs") => `(tactic| ((repeat' walk_at "rd1"); (try dsimp only)))
local macro_rules | `(tactic| walk_at "hall") => `(tactic| first
  | assumption
  | ((with_reducible refine' Tk.HallAt.sm ?k0 ?k1); (case k0 => assumption); (case k1 => walk_at "hall"))
  | fail "hall")
local macro_rules | `(tactic| walk_at "parts") => `(tactic| first
  | assumption
  | ((with_reducible refine' Tk.PartsAt.sm ?k0 ?k1); (case k0 => assumption); (case k1 => walk_at "parts"))
  | fail "parts")
local macro_rules | `(tactic| walk_at "sm") => `(tactic| first
  | assumption
  | exact Tk.Sm.int rfl
  | exact Tk.Sm.flat1 rfl
  | ((with_reducible refine' Tk.Sm.sm ?k0 ?k1); (case k0 => assumption); (case k1 => walk_at "sm"))
  | fail "sm")
local macro_rules | `(tactic| walk_at "rd1") => `(tactic| first
  | ((with_reducible refine' Tk.Rd.f_modulus ?k0 ?k1 ?_); (case k0 => assumption); (case k1 => walk_at "hall"))
  | ((with_reducible refine' Tk.Rd.f_lateness ?k0 ?k1 ?_); (case k0 => assumption); (case k1 => walk_at "hall"))
  | ((with_reducible refine' Tk.Rd.f_takes ?k0 ?k1 fun tp htp => ?_); (case k0 => assumption); (case k1 => walk_at "hall"))
  | ((with_reducible refine' Tk.Rd.f_calls ?k0 ?k1 fun cp hcp => ?_); (case k0 => assumption); (case k1 => walk_at "hall"))
  | ((with_reducible refine' Tk.Rd.h_meth ?k0 ?k1 ?_); (case k0 => walk_at "hall"); (case k1 => decide +kernel))
  | ((with_reducible refine' Tk.Rd.h_prop ?k0 ?_); (case k0 => walk_at "hall"))
  | ((with_reducible refine' Tk.Rd.h_taken0 ?k0 fun H' S => ?_); (case k0 => walk_at "hall"))
  | ((with_reducible refine' Tk.Rd.h_taken1 ?k0 fun H' S => ?_); (case k0 => walk_at "hall"))
  | ((with_reducible refine' Tk.Rd.h_takenL ?k0 fun H' S => ?_); (case k0 => walk_at "hall"))
  | ((with_reducible refine' Tk.Rd.h_called0 ?k0 ?_); (case k0 => walk_at "hall"))
  | ((with_reducible refine' Tk.Rd.h_called1 ?k0 ?_); (case k0 => walk_at "hall"))
  | ((with_reducible refine' Tk.Rd.h_calledL ?k0 ?_); (case k0 => walk_at "hall"))
  | ((with_reducible refine' Tk.Rd.h_waiting ?k0 ?k1 fun H' S => ?_); (case k0 => walk_at "hall"); (case k1 => omega))
  | ((with_reducible refine' Tk.Rd.h_growth ?k0 fun H' S => ?_); (case k0 => walk_at "hall"))
  | ((with_reducible refine' Tk.Rd.h_period ?k0 ?_); (case k0 => walk_at "hall"))
  | ((with_reducible refine' Tk.Rd.h_lhall ?k0 fun h lp H' nh nl S hA => ?_); (case k0 => walk_at "parts"))
  | ((with_reducible refine' Tk.Rd.h_length ?k0 ?_); (case k0 => walk_at "parts"))
  | ((with_reducible refine' Tk.Rd.h_counts ?k0 ?k1 fun r a b H' nr na nb nab S hr ha hb => ?_); (case k0 => walk_at "parts"); (case k1 => omega))
  | ((with_reducible refine' Tk.Rd.h_countsL ?k0 ?k1 fun r a b H' nr na nb nab S hr ha hb => ?_); (case k0 => walk_at "parts"); (case k1 => decide))
  | ((with_reducible refine' Tk.Rd.h_make ?k0 ?k1 ?k2 fun h lp H' nh nl S hA => ?_); (case k0 => assumption); (case k1 => walk_at "hp"); (case k2 => walk_at "hp"))
  | ((with_reducible refine' Tk.Rd.p_0 ?k0 ?_); (case k0 => walk_at "parts"))
  | ((with_reducible refine' Tk.Rd.p_1 ?k0 fun htp => ?_); (case k0 => walk_at "parts"))
  | ((with_reducible refine' Tk.Rd.p_2 ?k0 fun hcp => ?_); (case k0 => walk_at "parts"))
  | ((with_reducible refine' Tk.Rd.p_3 ?k0 ?_); (case k0 => walk_at "parts"))
  | fail "rd1")
local macro_rules | `(tactic| walk_at "sqt") => `(tactic| first | ((with_reducible refine' Tk.PartsAt.sq ?k0); (case k0 => walk_at "parts")) | fail "sqt")
local macro_rules | `(tactic| walk_at "free") => `(tactic| first
  | assumption
  | ((with_reducible refine' Tk.Same.fr ?k0 ?k1); (case k0 => assumption); (case k1 => walk_at "free")))
local macro_rules | `(tactic| walk_at "hp") => `(tactic| first
  | ((with_reducible refine' Tk.But.gt ?k0 ?k1 ?k2); (case k0 => assumption); (case k1 => assumption); (case k2 => walk_at "hp"))
  | ((with_reducible refine' Tk.But.gl ?k0 ?k1 ?k2); (case k0 => assumption); (case k1 => assumption); (case k2 => walk_at "hp"))
  | fail "hp")
local macro_rules | `(tactic| walk_at "hall") => `(tactic| first | ((with_reducible refine' Tk.HallAt.bt ?k0 ?k1 ?k2 ?k3); (case k0 => assumption); (case k1 => assumption); (case k2 => assumption); (case k3 => walk_at "hall")) | fail "hall")
local macro_rules | `(tactic| walk_at "parts") => `(tactic| first | ((with_reducible refine' Tk.PartsAt.bt ?k0 ?k1 ?k2); (case k0 => assumption); (case k1 => assumption); (case k2 => walk_at "parts")) | fail "parts")
local macro_rules | `(tactic| walk_at "rd1") => `(tactic| first
  | ((with_reducible refine' Tk.Rd.h_below ?k0 ?k1 ?k2 ?k3 fun r H' cs hr B hd hcs => ?_); (case k0 => walk_at "hp"); (case k1 => assumption); (case k2 => first | decide | omega); (case k3 => first | decide | omega))
  | ((with_reducible refine' Tk.Rd.h_parts ?k0 ?k1 ?k2 ?k3 fun t tp cp m lt tk cl H' cs nt B hd hcs hP l1 l2 => ?_); (case k0 => walk_at "hp"); (case k1 => assumption); (case k2 => first | decide | omega); (case k3 => first | decide | omega))
  | ((with_reducible refine' Tk.Rd.h_partsL ?k0 ?k1 ?k2 ?k3 fun t tp cp m lt tk cl H' cs nt B hd hcs hP l1 l2 => ?_); (case k0 => walk_at "hp"); (case k1 => assumption); (case k2 => first | decide | omega); (case k3 => first | decide | omega))
  | ((with_reducible refine' Tk.Rd.h_small ?k0 ?k1 fun t tp cp m lt tk cl H' cs nt B hd hcs hP m1 l1 l2 l3 => ?_); (case k0 => walk_at "hp"); (case k1 => assumption))
  | ((with_reducible refine' Tk.Rd.h_tick ?k0 ?k1 fun t H' cs ht B hd hcs => ?_); (case k0 => walk_at "hp"); (case k1 => assumption))
  | ((with_reducible refine' Tk.Rd.h_mo ?k0 fun v H' S hv => ?_); (case k0 => walk_at "hall"))
  | ((with_reducible refine' Tk.Rd.h_lc ?k0 fun v H' S hv => ?_); (case k0 => walk_at "hall"))
  | ((with_reducible refine' Tk.Rd.h_lm ?k0 fun v H' S hv => ?_); (case k0 => walk_at "hall"))
  | ((with_reducible refine' Tk.Rd.h_gl ?k0 fun v H' S hv => ?_); (case k0 => walk_at "hall"))
  | ((with_reducible refine' Tk.Rd.h_ot ?k0 ?k1 fun r H' nr S hr => ?_); (case k0 => walk_at "hall"); (case k1 => first | assumption | omega))
  | ((with_reducible refine' Tk.Rd.h_most2 ?k0 fun v H' S hv => ?_); (case k0 => walk_at "parts"))
  | ((with_reducible refine' Tk.Rd.h_opens2L ?k0 ?k1 fun l ys H' nl S hl hlen hR => ?_); (case k0 => walk_at "parts"); (case k1 => decide))
  | ((with_reducible refine' Tk.Rd.h_opens2 ?k0 ?k1 fun l ys H' nl S hl hlen hR => ?_); (case k0 => walk_at "parts"); (case k1 => first | decide | omega))
  | fail "rd1")
local macro_rules | `(tactic| walk_at "ok") => `(tactic| first
  | assumption
  | ((with_reducible refine' Tk.HallAt.ok ?k0); (case k0 => walk_at "hall"))
  | ((with_reducible refine' Tk.PartsAt.ok ?k0); (case k0 => walk_at "parts"))
  | fail "ok")
local macro_rules | `(tactic| walk_at "sml") => `(tactic| first
  | exact Tk.Sml.ints (by walk_at "szb")
  | exact Tk.Sml.intsT (by walk_at "szb")
  | trivial
  | (simp [Tk.Sml]; done)
  | (simp [Tk.Sml]; omega)
  | fail "sml")
local macro_rules | `(tactic| walk_at "rd1") => `(tactic| first
  | ((with_reducible refine' Tk.Rd.nT ?k0 ?_); (case k0 => with_reducible exact rfl))
  | ((with_reducible refine' Tk.Rd.dT ?k0 ?_); (case k0 => with_reducible exact rfl))
  | with_reducible refine Tk.Rd.nF Tk.Rd.int_non ?_
  | with_reducible refine Tk.Rd.nF Tk.Rd.ref_non ?_
  | with_reducible refine Tk.Rd.dF Tk.Rd.int_non ?_
  | with_reducible refine Tk.Rd.dF Tk.Rd.ref_non ?_
  | ((with_reducible refine' Tk.Rd.h_disp ?k0 ?k1 ?_); (case k0 => first | assumption | omega); (case k1 => walk_at "hall"))
  | ((with_reducible refine' Tk.Rd.h_hold ?k0 ?k1 ?k2 ?k3 fun l H' nl S hl => ?_); (case k0 => walk_at "hall"); (case k1 => first | assumption | omega); (case k2 => first | assumption | omega); (case k3 => first | assumption | omega))
  | ((with_reducible refine' Tk.Rd.h_mis ?k0 ?k1 ?k2 fun l ys H' nl S hl hd => ?_); (case k0 => walk_at "hall"); (case k1 => first | assumption | omega); (case k2 => first | assumption | omega))
  | ((with_reducible refine' Tk.Rd.h_enc ?k0 fun l H' nl S hl => ?_); (case k0 => walk_at "hall"))
  | ((with_reducible refine' Tk.Rd.h_dec ?k0 ?k1 fun h lp H' nh nl S hA => ?_); (case k0 => walk_at "hp"); (case k1 => walk_at "ok"))
  | ((with_reducible refine' Tk.Rd.h_text ?k0 fun H' S => ?_); (case k0 => walk_at "hall"))
  | ((with_reducible refine' Tk.Rd.h_eqd ?k0 ?k1 ?k2 fun H' S => ?_); (case k0 => walk_at "dp"); (case k1 => walk_at "dp"); (case k2 => walk_at "sml"))
  | ((with_reducible refine' Tk.Rd.eqd ?k0 ?k1 ?k2 ?k3 ?_); (case k0 => walk_at "dp"); (case k1 => walk_at "dp"); (case k2 => walk_at "sml"); (case k3 => walk_at "sml"))
  | ((with_reducible refine' Tk.Rd.ned ?k0 ?k1 ?k2 ?k3 ?_); (case k0 => walk_at "dp"); (case k1 => walk_at "dp"); (case k2 => walk_at "sml"); (case k3 => walk_at "sml"))
  | fail "rd1")
/-! ### Plans: the program's defs -/
namespace Tk
open PySem PySem.Spec PyProof.Rows L2 Mm Pn
theorem MostV.num {tk cl : List Nat} {lt M : Nat} (h : MostV tk cl lt .non) : ¬ MostV tk cl lt (vn M) := fun g => by
  have := MostV.uniq h g
  cases this
namespace Rd
variable {K : PySem.W.Frag} {σ : L2.St} {H : Hp} {Q : VK} {te : TE}
theorem ienT {ta : TA} {R : It → Hp → Prop} (k : ta σ H fun vs H1 => ∃ a xs, vs = [.ref a] ∧ SqT K H1 a xs ∧ R (Itu K a) H1) : iEnumT K ta σ H R := k
/-- [e for i, x in enumerate(a tuple)] -/
theorem lc_enT {a : Addr} {xs : List V} {vs : List Nat} {i j : Nat} (f : Nat → V) (ha : SqT K H a xs) (hn : xs.length ≤ 100000)
    (hw : ∀ x y : V, wipe (((wipe σ vs).set i (some x)).set j (some y)) vs = wipe σ vs) (hs : ∀ (n : Nat) x, xs[n]? = some x → ∀ H', Same H H' → ∀ Q' : VK, (∀ H'', Same H' H'' → Q' (f n) H'') → te (((wipe σ vs).set i (some (vnI n))).set j (some x)) H' Q')
    (k : ∀ D H', H D = none → Same H H' → H' D = some (.lst ((List.range xs.length).map f)) → Q (.ref D) H') : lcK (gTup K 2 (gCons (gName i) (gCons (gName j) gNil))) tYes te vs σ Q (Itu K a) H := fun D hD => by
  refine ⟨fun n m H2 => m = xs.length - n ∧ n ≤ xs.length ∧ Same H H2 ∧ H2 D = some (.lst ((List.range n).map f)), ⟨xs.length, by simp, Nat.zero_le _, Same.new hD, upd_same⟩, ?_⟩
  rintro n m H2 ⟨rfl, hn2, S2, h2⟩
  rcases Nat.lt_or_ge n xs.length with lt | ge
  · refine .inr ⟨⟨xs, xs[n], sqt_sm S2 ha, by simp [lt]⟩, fun H' => Same H H' ∧ H' D = some (.lst ((List.range (n + 1)).map f)), fun H' p' => ⟨_, (by omega : xs.length - (n + 1) < xs.length - n), rfl, lt, p'⟩, fun v H' y => ?_⟩
    obtain ⟨T, x, rfl, hT, rfl, hx⟩ := y
    have S3 : Same H2 (upd H2 T (.tup [vnI n, x])) := Same.new hT
    refine ⟨T, _, rfl, SqT.of upd_same, rfl, _, _, rfl, _, _, rfl, rfl, hw _ _, yes (ift (hs n x (hx xs (sqt_sm S2 ha)) _ (S2.trans S3) _ fun H4 S4 => ⟨_, S4 _ _ (S3 _ _ h2), Nat.lt_of_le_of_lt (m := 100000) (by simp; omega) (by decide), fun b o e => ?_, ?_⟩))⟩
    · rw [upd_ne (ne_of_none e hD)]
      exact S4 _ _ (S3 _ _ (S2 _ _ e))
    · rw [upd_same, List.range_succ, List.map_append]
      rfl
  · obtain rfl : n = xs.length := by omega
    exact .inl ⟨⟨xs, sqt_sm S2 ha, Nat.le_refl _⟩, k D H2 hD S2 h2⟩
end Rd
theorem vn_get {ns : List Nat} {i : Nat} {x : V} (h : (ns.map vn)[i]? = some x) : ∃ n, x = vn n ∧ ns[i]? = some n := by
  rw [List.getElem?_map] at h
  cases e : ns[i]? with
  | none => rw [e] at h; cases h
  | some n =>
    rw [e] at h
    exact ⟨n, (Option.some.inj h).symm, rfl⟩
def spNc (C : Addr) : Sp := fun vs H Q _ => ∃ (h lp : Addr) (m lt : Nat) (tk cl : List Nat), vs = [.ref h] ∧ HallAt C H h m tk cl lt lp ∧ ∀ b H', Same H H' → (b = true ↔ NC m tk cl lt) → Q (.bl b) H'
def spLp (K : PySem.W.Frag) : Sp := fun vs H Q _ => ∃ (p : Addr) (pl : List Nat), vs = [.ref p] ∧ SqT K H p (pl.map vn) ∧ Q (vn (lastP pl)) H
def spWc (K : PySem.W.Frag) (C : Addr) : Sp := fun vs H Q _ => ∃ (h lp p : Addr) (m lt : Nat) (tk cl pl : List Nat), vs = [.ref h, .ref p] ∧ HallAt C H h m tk cl lt lp ∧ Cn.FzT H p (pl.map vn) ∧ fine cl pl = true ∧
  ∀ h' lp' H', Same H H' → HallAt C H' h' m tk (addAt cl pl) lt lp' → Q (.ref h') H'
def spLg (K : PySem.W.Frag) : Sp := fun vs H Q _ => ∃ (c l : Addr) (cl : List Nat) (xs : List V) (pls : List (List Nat)), vs = [.ref c, .ref l] ∧ SqT K H c (cl.map vn) ∧ SqL K H l xs ∧ PlA H xs pls ∧ cl.length ≤ 12 ∧ (∀ pl ∈ pls, pl.length ≤ 900 ∧ lastP pl ≤ 1000) ∧ (pls.flatMap (extP cl)).length ≤ 100000 ∧
  ∀ D ys H', H D = none → Same H H' → H' D = some (.lst ys) → PlA H' ys (pls.flatMap (extP cl)) → Q (.ref D) H'
section
variable {P : Program} {w : World} {K : PySem.W.Frag} {mg : Str → Option Value} {base : Heap}
theorem ok_never_clashes (T : Txt K mg) : OkF P w K mg base 9 (He.ga K "never_clashes") ["hall"] (spNc (He.ga K "Hall")) := by
  have G_most_open : OkF P w K mg base 8 (He.ga K "most_open") ["hall"] (spMo (He.ga K "Hall")) := ok_most_open T
  refine FnP.okF T.f_never_clashes sc_never_clashes (fun _ _ _ _ _ _ us hl => match us, hl with | [_], _ => rfl) (fun vs H Q E h => ?_) (fun cdv A outer s H vs Q E hr h => ?_)
  · obtain ⟨h, lp, m, lt, tk, cl, rfl, _⟩ := h
    rfl
  obtain ⟨h, lp, m, lt, tk, cl, rfl, hA, k⟩ := h
  refine ⟨_, (pss_cons (ps_set (i := 1) sc_never_clashes.nd rfl (Or.inl rfl) (pe_call G_most_open.one (hr.mono (by decide)) (by rfl) T.g_most_open G_most_open.kp G_most_open.two .nil passL (pa_cons (pv 0) pa_nil)))
    (pss_one (ps_ret (pe_and (pe_cmpR (show OpR _ (compareOp .IsNot) Rd.rNotN from op_notN) (pv 1) pe_non (nomark _)) (pe_one (pe_cmpR op_le (pv 1) (pe_fld (pv 0) rfl) (nomark _))))))), ?_⟩
  walk_at "rd"
  rename_i v H1 S1 hv
  have hA1 := hA.same S1
  rcases id hv with ⟨_, rfl⟩ | ⟨_, M, rfl, _⟩
  · walk_at "rd"
    exact k false _ S1 ⟨fun q => (by cases q), fun ⟨M, hM, _⟩ => absurd hM (MostV.num hv)⟩
  · walk_at "rd"
    refine k _ _ S1 ⟨fun q => ?_, fun ⟨M', hM, hle⟩ => ?_⟩
    · have q := of_decide_eq_true q
      exact ⟨M, hv, by omega⟩
    · have e := MostV.uniq hv hM
      have e : V.int (M : Int) = V.int (M' : Int) := e
      injection e with e
      exact decide_eq_true (by omega)
theorem ok_last_place (T : Txt K mg) : OkF P w K mg base 1 (He.ga K "last_place") ["plan"] (spLp K) := by
  refine FnP.okF T.f_last_place sc_last_place (fun _ _ _ _ _ _ us hl => match us, hl with | [_], _ => rfl) (fun vs H Q E h => ?_) (fun cdv A outer s H vs Q E hr h => ?_)
  · obtain ⟨p, pl, rfl, _⟩ := h
    rfl
  obtain ⟨p, pl, rfl, hp, k⟩ := h
  refine ⟨_, (pss_cons (ps_if (pt_cmpR op_eq (pe_callB (lenK (K := K)) (by rfl) T.g_len (by decide +kernel) (pa_cons (pv 0) pa_nil)) pe_int (nomark _)) (pss_one (ps_ret pe_int)) pss_nil)
    (pss_one (ps_ret (pe_ix (ixTK (K := K)) (pv 0) (pe_un un_neg pe_int) (fun _ _ => rfl))))), ?_⟩
  walk_at "rd"
  rcases List.eq_nil_or_concat pl with rfl | ⟨r, x, rfl⟩
  · refine Rd.dT rfl ?_
    walk_at "rd"
    exact k
  · refine Rd.dF (by simp; omega) ?_
    walk_at "rd"
    refine Rd.ixT hp (at_last (n := r.length) (x := vn x) (by simp) (by simp)) ?_
    have e : lastP (r ++ [x]) = x := by unfold lastP; simp
    rw [List.concat_eq_append, e] at k
    exact k
theorem ok_with_calls_at (T : Txt K mg) : OkF P w K mg base 7 (He.ga K "with_calls_at") ["hall", "plan"] (spWc K (He.ga K "Hall")) := by
  have G_init : OkF P w K mg base 5 (He.ma K (He.ga K "Hall") "__init__") ["self", "modulus", "takes", "calls", "lateness"] (spInit (He.ga K "Hall")) := ok_init T
  refine FnP.okF T.f_with_calls_at sc_with_calls_at (fun _ _ _ _ _ _ us hl => match us, hl with | [_, _], _ => rfl) (fun vs H Q E h => ?_) (fun cdv A outer s H vs Q E hr h => ?_)
  · obtain ⟨h, lp, p, m, lt, tk, cl, pl, rfl, _⟩ := h
    rfl
  obtain ⟨h, lp, p, m, lt, tk, cl, pl, rfl, hA, hp, hf, k⟩ := h
  have c1 := hA.ok.clP.len
  have c0 := hA.ok.clP.pos
  refine ⟨_, (pss_cons (ps_setLc (i := 2) (own := [("place", 3), ("item", 4)]) (g := gTup K 2 (gCons (gName 3) (gCons (gName 4) gNil))) (tt := tYes) (by rfl) sc_with_calls_at.nd rfl rfl (sw_true rfl rfl rfl (by decide +kernel)) (pi_enumT (by rfl) T.g_enumerate (pa_cons (pe_fld (pv 0) rfl) pa_nil)) (blkOk_by (own := [("place", 3), ("item", 4)]) (N := N_with_calls_at) (sc := (defScope s_with_calls_at)) (by decide +kernel)) (fun _ _ _ _ _ => pg_tup rfl (pgs_cons (pg_name (i := 3) sc_with_calls_at.nd rfl (Or.inl rfl) (by first | exact Or.inr rfl | exact Or.inl rfl)) (pgs_cons (pg_name (i := 4) sc_with_calls_at.nd rfl (Or.inl rfl) (by first | exact Or.inr rfl | exact Or.inl rfl)) pgs_nil))) (fun _ _ _ _ _ => pts_nil) (fun _ _ _ _ _ => (pe_op op_add (pv 4) (Cn.pe_cntF (K := K) (pv 1) (pa_cons (pv 3) pa_nil)))))
    (pss_one (ps_ret (pe_make T.mk_Hall G_init.one (hr.mono (by decide)) (by rfl) T.g_Hall G_init.two .nil passL (pa_cons (pe_fld (pv 0) rfl) (pa_cons (pe_fld (pv 0) rfl) (pa_cons (pe_callTy (tplK (K := K)) (by rfl) T.g_tuple (by decide +kernel) (pa_cons (pv 2) pa_nil)) (pa_cons (pe_fld (pv 0) rfl) pa_nil)))))))), ?_⟩
  walk_at "rd"
  refine Rd.ienT ?_
  walk_at "rd"
  rename_i cp hcp
  refine ⟨cp, _, rfl, SqT.of hcp, Rd.lc_enT (fun i => vn (cl.getD i 0 + pl.count i)) (SqT.of hcp) (by rw [List.length_map]; omega) (fun _ _ => rfl) (fun n x hx H' S Q' q => ?_) fun D H1 nD S1 h1 => ?_⟩
  · obtain ⟨y, rfl, hy⟩ := vn_get hx
    walk_at "rd"
    refine Rd.cntF (n := n) rfl rfl (hp.same S) ?_
    walk_at "rd"
    have e : V.int ((y : Int) + (pl.count n : Nat)) = vn (cl.getD n 0 + pl.count n) := vn_int (by rw [List.getD_eq_getElem?_getD, hy]; simp)
    rw [e]
    exact q _ (Same.refl _)
  · have e : (List.range (cl.map vn).length).map (fun i => vn (cl.getD i 0 + pl.count i)) = (addAt cl pl).map vn := by
      unfold addAt
      rw [List.length_map, List.map_map]
      rfl
    rw [e] at h1
    walk_at "rd"
    rename_i tp htp q H2 nq S2 hq
    refine Rd.h_make ⟨hA.ok.m2, hA.ok.m4, hA.ok.tkP, ⟨by rw [addAt_len]; omega, by rw [addAt_len]; omega, fine_nine hf⟩, hA.ok.l99⟩ (S2 _ _ htp) hq fun h' lp' H3 nh nl S3 hA3 => ?_
    exact k h' lp' H3 ((S1.trans S2).trans S3) hA3
theorem ok_longer_plans (T : Txt K mg) : OkF P w K mg base 2 (He.ga K "longer_plans") ["calls", "plans"] (spLg K) := by
  have G_last_place : OkF P w K mg base 1 (He.ga K "last_place") ["plan"] (spLp K) := ok_last_place T
  refine FnP.okF T.f_longer_plans sc_longer_plans (fun _ _ _ _ _ _ us hl => match us, hl with | [_, _], _ => rfl) (fun vs H Q E h => ?_) (fun cdv A outer s H vs Q E hr h => ?_)
  · obtain ⟨c, l, cl, xs, pls, rfl, _⟩ := h
    rfl
  obtain ⟨c, l, cl, xs, pls, rfl, hc, hl, hD, c12, h900, hN, k⟩ := h
  have lx : xs.length = pls.length := plA_len hD
  have flat : (List.range xs.length).flatMap (fun i => ((List.range (cl.length - lastP (pls.getD i []))).filter (okx cl (pls.getD i []))).map fun j => pls.getD i [] ++ [lastP (pls.getD i []) + j]) = pls.flatMap (extP cl) := by
    rw [lx]
    have e := Rd.range_get pls [] (extP cl)
    rw [List.flatMap_def, List.flatMap_def, ← e]
    rfl
  refine ⟨_, (pss_one (ps_ret (pe_lc2 (wi1 := iRng2 _) (own := [("plan", 2), ("place", 3)]) (g := gName 2) (tt := tYes) (vs1 := [3]) (g1 := gName 3) (tt1 := _) (by rfl) sc_longer_plans.nd (pi_listK (K := K) (pv 1)) (blkOk_by (own := [("plan", 2), ("place", 3)]) (N := N_longer_plans) (sc := (defScope s_longer_plans)) (by decide +kernel)) (by decide) (fun _ _ _ _ _ => pg_name (i := 2) sc_longer_plans.nd rfl (Or.inl rfl)) (fun _ _ _ _ _ => pts_nil) (fun _ _ _ _ _ => (pi_range2 (by rfl) T.g_range (pa_cons (pe_call G_last_place.one (hr.mono (by decide)) (by rfl) T.g_last_place G_last_place.kp G_last_place.two .nil passL (pa_cons (pv 2) pa_nil)) (pa_cons (pe_callB (lenK (K := K)) (by rfl) T.g_len (by decide +kernel) (pa_cons (pv 0) pa_nil)) pa_nil)))) (fun _ _ _ _ _ => pg_name (i := 3) sc_longer_plans.nd rfl (Or.inl rfl)) (fun _ _ _ _ _ => (pts_one (pt_cmpR op_lt (pe_op op_add (pe_ix (ixTK (K := K)) (pv 0) (pv 3) (fun _ _ => rfl)) (Cn.pe_cntF (K := K) (pv 2) (pa_cons (pv 3) pa_nil))) (pe_gint (by rfl) T.c_GREATEST_ITEM) (nomark _)))) (fun _ _ _ _ _ => (pe_op (Cn.op_catF (K := K)) (pv 2) (Cn.pe_tupF (pa_cons (pv 3) pa_nil))))))), ?_⟩
  walk_at "rd"
  refine Rd.lc2_lst (N := 100000) (fun i => lastP (pls.getD i [])) (fun i => cl.length - lastP (pls.getD i [])) (fun i => okx cl (pls.getD i [])) (fun i j => pls.getD i [] ++ [lastP (pls.getD i []) + j]) hl (by rw [flat]; exact hN) (Nat.le_refl _) (fun _ => rfl) (fun _ _ => rfl) (fun i x hx H' S R q => ?_) (fun i x j hx hj H' S Q' q => ?_) (fun i x j hx hj hok H' D hDn S hD' Q' q => ?_) fun D ys H' nD S h1 hd => ?_
  · obtain ⟨r, pl, hpl, rfl, hr⟩ := plA_get (hD.same S) hx
    have ep : pls.getD i [] = pl := by rw [List.getD_eq_getElem?_getD, hpl]; rfl
    rw [ep] at q
    walk_at "rd"
    refine ⟨r, pl, rfl, hr.sq, ?_⟩
    walk_at "rd"
    have l2 := (h900 pl (List.mem_of_getElem? hpl)).2
    refine Rd.rng2K_i (by rw [List.length_map]; omega) ?_
    have e : ((((cl.map vn).length : Nat) : Int) - ((lastP pl : Nat) : Int)).toNat = cl.length - lastP pl := by rw [List.length_map]; omega
    rw [e]
    exact q _ (Same.refl _)
  · obtain ⟨r, pl, hpl, rfl, hr⟩ := plA_get (hD.same S) hx
    have ep : pls.getD i [] = pl := by rw [List.getD_eq_getElem?_getD, hpl]; rfl
    rw [ep] at q hj ⊢
    walk_at "rd"
    refine Rd.ixT (sqt_sm S hc) (i := ((lastP pl + j : Nat) : Int)) (atn (by rw [List.getElem?_map, List.getElem?_eq_getElem (by omega)]; rfl)) ?_
    walk_at "rd"
    refine Rd.cntF (n := lastP pl + j) rfl rfl hr ?_
    walk_at "rd"
    have e : decide ((cl[lastP pl + j]'(by omega) : Int) + ((pl.count (lastP pl + j) : Nat) : Int) < 9) = okx cl pl j := by
      unfold okx
      rw [List.getD_eq_getElem?_getD, List.getElem?_eq_getElem (by omega), decide_eq_decide]
      show _ ↔ (cl[lastP pl + j]'(by omega)) + pl.count (lastP pl + j) < 9
      omega
    rw [e]
    exact q _ (Same.refl _)
  · obtain ⟨r, pl, hpl, rfl, hr⟩ := plA_get (hD.same S) hx
    have ep : pls.getD i [] = pl := by rw [List.getD_eq_getElem?_getD, hpl]; rfl
    rw [ep] at q hj ⊢
    refine Rd.snoc rfl rfl hr (h900 pl (List.mem_of_getElem? hpl)).1 fun p H2 np S2 h2 => ?_
    refine q _ _ S2 fun Hx B => ⟨p, rfl, h2.but B fun e => hD' ?_⟩
    rw [← e]
    exact np
  · rw [flat] at hd
    exact k D ys H' nD S h1 hd
/-- what plan_calls gives -/
def PlO (H : Hp) (v : V) : Option (List Nat) → Prop
  | none => v = .non
  | some pl => PlV H v pl
def spPc (K : PySem.W.Frag) (C : Addr) : Sp := fun vs H Q _ => ∃ (h lp : Addr) (m lt lim : Nat) (tk cl : List Nat), vs = [.ref h, vn lim] ∧ HallAt C H h m tk cl lt lp ∧ lim ≤ 4 ∧ cl.length ≤ 3 ∧
  ∀ v H', Same H H' → PlO H' v (((List.range (lim + 1)).flatMap (pru cl)).find? (ncB m tk cl lt)) → Q v H'
theorem pru_ok {cl : List Nat} (h : Pat cl) (h3 : cl.length ≤ 3) {k : Nat} (hk : k ≤ 5) : (pru cl k).length ≤ 243 ∧ ∀ pl ∈ pru cl k, pl.length ≤ 900 ∧ lastP pl ≤ 1000 ∧ fine cl pl = true := by
  refine ⟨?_, fun pl hm => ?_⟩
  · rw [pru_full h.nine]
    have a := List.length_filter_le (fine cl) (full cl.length k)
    have b := full_len h3 k
    have c : 3 ^ k ≤ 3 ^ 5 := Nat.pow_le_pow_right (by decide) hk
    omega
  · obtain ⟨h1, h2⟩ := pru_mem h.nine hm
    rw [pru_full h.nine] at hm
    obtain ⟨_, h4⟩ := mem_len k pl (List.mem_filter.mp hm).1
    refine ⟨by omega, ?_, h2⟩
    unfold lastP
    cases e : pl.getLast? with
    | none => exact Nat.zero_le _
    | some x =>
      have := h4 x (List.mem_of_getLast? e)
      show x ≤ 1000
      omega
theorem ok_plan_calls (T : Txt K mg) : OkF P w K mg base 10 (He.ga K "plan_calls") ["hall", "limit"] (spPc K (He.ga K "Hall")) := by
  have G_is_integer_within : OkF P w K mg base 1 (He.ga K "is_integer_within") ["value", "low", "high"] spWithin := ok_is_integer_within T
  have G_never_clashes : OkF P w K mg base 9 (He.ga K "never_clashes") ["hall"] (spNc (He.ga K "Hall")) := ok_never_clashes T
  have G_with_calls_at : OkF P w K mg base 7 (He.ga K "with_calls_at") ["hall", "plan"] (spWc K (He.ga K "Hall")) := ok_with_calls_at T
  have G_longer_plans : OkF P w K mg base 2 (He.ga K "longer_plans") ["calls", "plans"] (spLg K) := ok_longer_plans T
  refine FnP.okF T.f_plan_calls sc_plan_calls (fun _ _ _ _ _ _ us hl => match us, hl with | [_, _], _ => rfl) (fun vs H Q E h => ?_) (fun cdv A outer s H vs Q E hr h => ?_)
  · obtain ⟨h, lp, m, lt, lim, tk, cl, rfl, _⟩ := h
    rfl
  obtain ⟨h, lp, m, lt, lim, tk, cl, rfl, hA, hlim, h3, k⟩ := h
  have hP := hA.ok.clP
  refine ⟨_, (pss_cons (ps_if (pt_not (pt_val (pe_call G_is_integer_within.one (hr.mono (by decide)) (by rfl) T.g_is_integer_within G_is_integer_within.kp G_is_integer_within.two .nil passL (pa_cons (pv 1) (pa_cons pe_int (pa_cons (pe_gint (by rfl) T.c_MOST_PLACES) pa_nil)))))) (pss_one ps_never) pss_nil)
    (pss_cons (ps_set (i := 2) sc_plan_calls.nd rfl (Or.inl rfl) (pe_lst (pa_cons (Cn.pe_tupF pa_nil) pa_nil)))
    (pss_cons (ps_for own_cx rfl (pi_range1 (by rfl) T.g_range (pa_cons (pe_op op_add (pv 1) pe_int) pa_nil)) (pg_name (i := 3) sc_plan_calls.nd rfl (Or.inl rfl))
      (pss_cons (ps_for own_cx rfl (pi_listK (K := K) (pv 2)) (pg_name (i := 4) sc_plan_calls.nd rfl (Or.inl rfl))
      (pss_one (ps_if (pt_val (pe_call G_never_clashes.one (hr.mono (by decide)) (by rfl) T.g_never_clashes G_never_clashes.kp G_never_clashes.two .nil passL (pa_cons (pe_call G_with_calls_at.one (hr.mono (by decide)) (by rfl) T.g_with_calls_at G_with_calls_at.kp G_with_calls_at.two .nil passL (pa_cons (pv 0) (pa_cons (pv 4) pa_nil))) pa_nil))) (pss_one (ps_ret (pv 4))) pss_nil)))
    (pss_one (ps_set (i := 2) sc_plan_calls.nd rfl (Or.inl rfl) (pe_call G_longer_plans.one (hr.mono (by decide)) (by rfl) T.g_longer_plans G_longer_plans.kp G_longer_plans.two .nil passL (pa_cons (pe_fld (pv 0) rfl) (pa_cons (pv 2) pa_nil)))))))
    (pss_one (ps_ret pe_non))))), ?_⟩
  walk_at "rd"
  refine ⟨_, _, _, rfl, .int _, ?_⟩
  rw [inB_in (by omega) (by omega)]
  walk_at "rd"
  refine Rd.tup0F fun p0 H1 n0 S1 h0 => ?_
  walk_at "rd"
  rename_i p1 H2 n1 S2 h1
  rw [show V.int ((lim : Int) + 1) = vn (lim + 1) from vn_int (by omega)]
  refine Rd.rngK_n (by omega) ?_
  refine Rd.for_rng (n := lim + 1) (fun i σ H3 => ∃ v3 v4 l xs, σ = [some (.ref h), some (vn lim), some (.ref l), v3, v4] ∧ Same H H3 ∧ H3 l = some (.lst xs) ∧ PlA H3 xs (pru cl i) ∧ ((List.range i).flatMap (pru cl)).find? (ncB m tk cl lt) = none)
    ⟨_, _, p1, _, rfl, S1.trans S2, h1, .cons ⟨p0, rfl, h0.same S2⟩ .nil, rfl⟩ ?_ ?_
  · clear h1 n1 S2 h0 n0 S1
    rintro i σ H3 hi ⟨v3, v4, l, xs, rfl, S3, hl, hx, hnone⟩
    obtain ⟨ok1, ok2⟩ := pru_ok hP h3 (k := i) (by omega)
    walk_at "rd"
    refine Rd.for_lst (xs := xs) (fun j σ H4 => ∃ v4, σ = [some (.ref h), some (vn lim), some (.ref l), some (vn i), v4] ∧ Same H3 H4 ∧ ((pru cl i).take j).find? (ncB m tk cl lt) = none)
      ⟨_, rfl, Same.refl _, rfl⟩ (fun j σ H4 _ ⟨_, _, S4, _⟩ => SqL.of (S4 _ _ hl)) ?_ ?_
    · rintro j x σ H4 hxj ⟨v4, rfl, S4, hn4⟩
      obtain ⟨r, pl, hpl, rfl, hr⟩ := plA_get (hx.same S4) hxj
      obtain ⟨_, _, hf⟩ := ok2 pl (List.mem_of_getElem? hpl)
      walk_at "rd"
      refine ⟨h, lp, r, m, lt, tk, cl, pl, rfl, hA.same (S3.trans S4), hr, hf, fun h' lp' H5 S5 hA5 => ?_⟩
      walk_at "rd"
      refine ⟨h', lp', m, lt, tk, addAt cl pl, rfl, hA5, fun b H6 S6 hb => ?_⟩
      walk_at "rd"
      have S36 := (S4.trans S5).trans S6
      cases b with
      | true =>
        walk_at "rd"
        refine k (.ref r) H6 (S3.trans S36) ?_
        have e : ((List.range (lim + 1)).flatMap (pru cl)).find? (ncB m tk cl lt) = some pl := hit (i := i) (x := i) (List.getElem?_range hi) (by rw [List.take_range, Nat.min_eq_left (Nat.le_of_lt hi)]; exact hnone) hpl hn4 (ncB_iff.mpr (hb.mp rfl))
        rw [e]
        exact ⟨r, rfl, hr.same (S5.trans S6)⟩
      | false =>
        walk_at "rd"
        exact ⟨_, rfl, S36, miss hpl hn4 (by
          cases e : ncB m tk cl lt pl with
          | false => rfl
          | true =>
            have := hb.mpr (ncB_iff.mp e)
            cases this)⟩
    · rintro σ H4 ⟨v4, rfl, S4, hn4⟩
      rw [plA_len hx, List.take_length] at hn4
      have hA4 := hA.same (S3.trans S4)
      walk_at "rd"
      rename_i cp hcp
      refine ⟨cp, l, cl, xs, pru cl i, rfl, SqT.of hcp, SqL.of (S4 _ _ hl), hx.same S4, by omega, fun pl hm => ⟨(ok2 pl hm).1, (ok2 pl hm).2.1⟩, ?_, fun D ys H5 nD S5 h5 hp5 => ?_⟩
      · have := (pru_ok hP h3 (k := i + 1) (by omega)).1
        exact Nat.le_trans this (by decide)
      walk_at "rd"
      refine ⟨_, _, D, ys, rfl, (S3.trans S4).trans S5, h5, hp5, ?_⟩
      rw [List.range_succ, List.flatMap_append, List.find?_append, hnone]
      simpa using hn4
  · rintro σ H3 ⟨v3, v4, l, xs, rfl, S3, hl, hx, hnone⟩
    walk_at "rd"
    refine k .non H3 S3 ?_
    rw [hnone]
    rfl
end
end Tk

end

/-! ### Plans: what the laws go by -/
namespace Tk
open PySem PySem.Spec PyProof.Rows L2 Mm Pn
theorem PlO.same {H H' : Hp} {v : V} : ∀ {o : Option (List Nat)}, PlO H v o → Same H H' → PlO H' v o
  | none, h, _ => h
  | some _, h, S => PlV.same h S
def dOp : Option (List Nat) → PyData
  | none => .none
  | some pl => .tuple (pl.map dN)
theorem PlO.dp {K : PySem.W.Frag} {H : Hp} {v : V} : ∀ {o : Option (List Nat)}, PlO H v o → L2.Dp K H v (dOp o)
  | none, h => by
    obtain rfl : v = .non := h
    exact .non
  | some _, h => PlV.dp h
/-- what the law goes by -/
noncomputable def pst (m : Nat) (tk cl : List Nat) (lt : Nat) (pl : List Nat) : Bool := fine cl pl && ncB m tk cl lt pl
noncomputable def stp (m : Nat) (tk cl : List Nat) (lt : Nat) (e : Option (List Nat)) (pl : List Nat) : Option (List Nat) := if pst m tk cl lt pl = true then some pl else e
noncomputable def lstp (m : Nat) (tk cl : List Nat) (lt : Nat) (e : Option (List Nat)) (l : List (List Nat)) : Option (List Nat) := l.reverse.foldl (stp m tk cl lt) e
theorem fold_succ {α β : Type} {f : β → α → β} {l : List α} {i : Nat} {x : α} {e : β} (h : l[i]? = some x) : (l.take (i + 1)).foldl f e = f ((l.take i).foldl f e) x := by
  rw [List.take_succ, h, List.foldl_append]
  rfl
theorem ext_len {n j b : Nat} (hn : n ≤ 3) (hj : j ≤ 4) : (((full n j).take b).flatMap (ext n)).length ≤ 729 := by
  have h : ∀ l : List (List Nat), (l.flatMap (ext n)).length ≤ 3 * l.length := fun l => by
    induction l with
    | nil => simp
    | cons a r ih =>
      rw [List.flatMap_cons, List.length_append, List.length_cons]
      have : (ext n a).length ≤ 3 := by unfold ext; rw [List.length_map, List.length_range]; omega
      omega
  have h1 := h ((full n j).take b)
  have h2 := full_len hn j
  have h3 : 3 ^ j ≤ 3 ^ 4 := Nat.pow_le_pow_right (by decide) hj
  rw [List.length_take] at h1
  omega
theorem lastP_lt {n k : Nat} {pl : List Nat} (h : pl ∈ full n k) : lastP pl ≤ n := by
  unfold lastP
  cases e : pl.getLast? with
  | none => exact Nat.zero_le _
  | some x => exact Nat.le_of_lt ((mem_len k pl h).2 x (List.mem_of_getLast? e))
theorem ext_succ {n k : Nat} : full n (k + 1) = (full n k).flatMap (ext n) := rfl
theorem flat_take {n k j : Nat} {pl : List Nat} (h : (full n k)[j]? = some pl) : ((full n k).take (j + 1)).flatMap (ext n) = ((full n k).take j).flatMap (ext n) ++ (List.range (n - lastP pl)).map fun i => pl ++ [lastP pl + i] := by
  rw [List.take_succ, h, List.flatMap_append]
  congr 1
  show List.flatMap (ext n) [pl] = _
  rw [List.flatMap_cons, List.flatMap_nil, List.append_nil]
  rfl
/-- the plans of less than k places -/
noncomputable def upto (p : List Nat → Bool) (n k : Nat) : Option (List Nat) := ((List.range k).flatMap (full n)).find? p
theorem upto_succ {p : List Nat → Bool} {n k : Nat} : upto p n (k + 1) = (upto p n k).or ((full n k).find? p) := by
  unfold upto
  rw [List.range_succ, List.flatMap_append, List.find?_append, List.flatMap_cons, List.flatMap_nil, List.append_nil]
theorem upto_len {p : List Nat → Bool} {n : Nat} : ∀ k {pl : List Nat}, upto p n k = some pl → pl.length < k ∧ p pl = true
  | 0, pl, h => by
    unfold upto at h
    cases h
  | k + 1, pl, h => by
    rw [upto_succ] at h
    cases e : upto p n k with
    | some q =>
      rw [e] at h
      obtain rfl : q = pl := Option.some.inj h
      have := upto_len k e
      exact ⟨by omega, this.2⟩
    | none =>
      rw [e, Option.none_or] at h
      have := (mem_len k pl (List.mem_of_find?_eq_some h)).1
      exact ⟨by omega, List.find?_some h⟩
theorem upto_keep {p : List Nat → Bool} {n k : Nat} {pl : List Nat} (h : upto p n k = some pl) : ∀ j, upto p n (k + j) = some pl
  | 0 => h
  | j + 1 => by rw [show k + (j + 1) = (k + j) + 1 by omega, upto_succ, upto_keep h j]; rfl
theorem upto_new {p : List Nat → Bool} {n k : Nat} {pl : List Nat} (h : upto p n k = none) : ∀ j, upto p n (k + j) = some pl → k ≤ pl.length
  | 0, q => by rw [show k + 0 = k from rfl, h] at q; cases q
  | j + 1, q => by
    rw [show k + (j + 1) = (k + j) + 1 by omega, upto_succ] at q
    cases e : upto p n (k + j) with
    | some r =>
      rw [e] at q
      obtain rfl : r = pl := Option.some.inj q
      exact upto_new h j e
    | none =>
      rw [e, Option.none_or] at q
      have := (mem_len (k + j) pl (List.mem_of_find?_eq_some q)).1
      omega
theorem upto_mem {p : List Nat → Bool} {n k : Nat} {pl : List Nat} (h : upto p n k = some pl) : ∀ x ∈ pl, x < n := by
  unfold upto at h
  obtain ⟨j, _, hm⟩ := List.mem_flatMap.mp (List.mem_of_find?_eq_some h)
  exact (mem_len j pl hm).2
/-- the plans of at most l places among those of less than k -/
theorem upto_cut {p : List Nat → Bool} {n l k : Nat} (h : l < k) : upto p n (l + 1) = (upto p n k).bind fun pl => if pl.length ≤ l then some pl else none := by
  obtain ⟨j, rfl⟩ : ∃ j, k = l + 1 + j := ⟨k - (l + 1), by omega⟩
  cases e : upto p n (l + 1) with
  | some pl =>
    rw [upto_keep e j]
    have := (upto_len _ e).1
    show _ = if pl.length ≤ l then some pl else none
    rw [if_pos (by omega)]
  | none =>
    cases f : upto p n (l + 1 + j) with
    | none => rfl
    | some pl =>
      have := upto_new e j f
      show none = if pl.length ≤ l then some pl else none
      rw [if_neg (by omega)]
theorem upto_one {p : List Nat → Bool} {n : Nat} : upto p n 1 = if p [] = true then some [] else none := by
  unfold upto
  show ((full n 0) ++ []).find? p = _
  show List.find? p [[]] = _
  rw [List.find?_cons]
  cases p [] <;> rfl
theorem find_step {α : Type} {p : α → Bool} {pre l : List α} {b : Nat} {x : α} (h : l[b]? = some x) : (pre ++ l.take (b + 1)).find? p = ((pre ++ l.take b).find? p).or (if p x = true then some x else none) := by
  rw [List.take_succ, h, ← List.append_assoc, List.find?_append]
  congr 1
  show List.find? p [x] = _
  rw [List.find?_cons]
  cases p x <;> rfl
theorem pst_nil {m lt : Nat} {tk cl : List Nat} (h : Pat cl) : pst m tk cl lt [] = true ↔ NC m tk cl lt := by
  unfold pst
  have f : fine cl [] = true := fine_iff.mpr fun i hi => by
    have := h.nine _ (List.mem_of_getElem? (List.getElem?_eq_getElem hi))
    rw [List.getD_eq_getElem?_getD, List.getElem?_eq_getElem hi]
    simpa using this
  rw [f, Bool.true_and, ncB_iff, addAt_nil]
end Tk

/-! ### A lambda of one parameter, handed to a def with two more arguments -/
namespace Tk
open PySem PySem.Spec PyProof.Rows L2 LamX
/-- one parameter a, else captured names and globals -/
structure LamP (sc scope : Scope) (a : Str) : Prop where
  kd : scope.kind = .function
  co : scope.isCoroutine = false
  gen : scope.isGenerator = false
  par : scope.names.lookup a = some .local
  own : ∀ y ∈ scope.names, (y.2 = .local → y.1 = a) ∧ y.2 ≠ .cell
  fre : ∀ y ∈ scope.names, y.2 = .free → sc.names.lookup y.1 = some .cell ∨ sc.names.lookup y.1 = some .free
def lamPB (sc scope : Scope) (a : Str) : Bool :=
  decide (scope.kind = .function) && (!scope.isCoroutine && (!scope.isGenerator && (decide (scope.names.lookup a = some .local) && scope.names.all fun y => (!decide (y.2 = .local) || decide (y.1 = a)) && (!decide (y.2 = .cell) && (!decide (y.2 = .free) || (decide (sc.names.lookup y.1 = some .cell) || decide (sc.names.lookup y.1 = some .free)))))))
theorem lamP_by {sc scope : Scope} {a : Str} (h : lamPB sc scope a = true) : LamP sc scope a := by
  unfold lamPB at h
  simp only [Bool.and_eq_true, Bool.or_eq_true, Bool.not_eq_true', decide_eq_true_eq, decide_eq_false_iff_not, List.all_eq_true] at h
  obtain ⟨h1, h2, h3, h4, h5⟩ := h
  refine ⟨h1, h2, h3, h4, fun y hy => ⟨fun e => ?_, (h5 y hy).2.1⟩, fun y hy e => ?_⟩
  · rcases (h5 y hy).1 with z | z
    · exact absurd e z
    · exact z
  · rcases (h5 y hy).2.2 with z | z
    · exact absurd e z
    · exact z
/-- the context of its body: the maker's names, then the parameter -/
def lamCxP (X : Cx) (a : Str) (A : Around) (outer : List Env) (s : Shared) (H : Hp) (scope : Scope) (f c' : Addr) : Cx := { lamCx X A outer s H E0 scope f c' with N := X.N ++ [a] }
section
variable {X : Cx} {pins : List (Addr × Obj)} {σ : L2.St} {H HZ : Hp} {s s1 : Shared}
theorem lamP_start {a : Str} {y : V} {v : Value} {A : Around} {outer : List Env} {scope : Scope} {f c' : Addr} {h₁ : Heap} {tk : Nat} (I : Inv X pins σ H s) (L : LamP X.env.scope scope a) (hna : a ∉ X.N) (e0 : Env0 X.prog X.w X.K X.mg X.base A outer s1 HZ) (hd : A.handled = none)
    (un : Un (frs X.stack) [] H HZ s.heap s1.heap) (ry : RelV y v) (hns : h₁.Ns s1.heap.objs.size fun x => ([(a, v)] : List (Str × Value)).reverse.lookup x) (kp : ∀ b o, s1.heap.get? b = some o → h₁.get? b = some o) :
    Inv (lamCxP X a A outer s1 HZ scope f c') [] (σ ++ [some y]) HZ { s1 with heap := h₁, toks := tk } := by
  have frs0 : ∀ q ∈ scope.names, q.2 = .free → ∃ c, X.env.cells.lookup q.1 = some c := fun q hq e => (L.fre q hq e).elim (fun z => I.ok.has _ (.inl z)) fun z => I.ok.has _ (.inr z)
  have up : ∀ {q c}, (cloFrom X.env.cells scope.names []).lookup q = some c → X.env.cells.lookup q = some c := fun {q c} e => by
    rcases cloFrom_mem (PySem.mem_of_lookup e) with hm | ⟨z1, z2⟩
    · cases hm
    · obtain ⟨d, hdd⟩ := frs0 _ z1 rfl
      have hdd : X.env.cells.lookup q = some d := hdd
      have : c = d := by rw [z2, hdd] <;> rfl
      rw [this]
      exact hdd
  have has : ∀ {q}, scope.names.lookup q = some .free → ∃ c, (cloFrom X.env.cells scope.names []).lookup q = some c := fun {q} hl => mem_lookup (cloFrom_has (cells := X.env.cells) (acc := []) (PySem.mem_of_lookup hl))
  have cl : ∀ {c : Addr} {u : Option Value}, H c = none → s.heap.IsCell c u → h₁.IsCell c u := fun {c u} n ⟨o, ho, hdt⟩ => by
    obtain ⟨sl, z⟩ := un.any ho n (by simp)
    exact ⟨_, kp _ _ z, hdt⟩
  have none0 : ∀ b : Addr, b ∉ (lamCxP X a A outer s1 HZ scope f c').ex := fun b z => by cases (show b ∈ ([] : List Addr) from z)
  refine ⟨⟨e0.mod, L.kd, rfl, rfl, Nat.le_refl _, fun p q c e1 e2 => I.ok.inj p q c (up e1) (up e2), fun q hq => ?_, fun q c z _ => ?_, fun _ => hd, Around.frames_deeper e0.frames, .inr ⟨rfl, rfl⟩, fun b z => absurd z (none0 b), e0.bs, e0.bsz, fun b _ _ => none0 b,
      fun b z => absurd z (none0 b), e0.funs, e0.frf⟩,
    rfl, e0.bare, Un.kept kp, ⟨_, hns, fun i q u e1 e2 e3 => ?_⟩, fun q c e => ?_, e0.hok.fresh (Nat.le_refl _), fun q c e => ?_, fun q hq => absurd (show q ∈ ([] : List (Addr × Obj)) ++ [] from hq) (by simp), e0.hok.kept kp, ?_⟩
  · rcases (show scope.names.lookup q = some .cell ∨ scope.names.lookup q = some .free from hq) with z | z
    · exact absurd rfl (L.own _ (PySem.mem_of_lookup z)).2
    · exact has z
  · cases (show false = true from z)
  · have e1 : (X.N ++ [a])[i]? = some q := e1
    have e3 : Vis scope q := e3
    have hlen := I.len
    rcases Nat.lt_or_ge i X.N.length with lt | ge
    · rw [List.getElem?_append_left lt] at e1
      rw [List.getElem?_append_left (by rw [hlen]; exact lt)] at e2
      have qn : q ≠ a := fun z => hna (by rw [← z]; exact List.mem_of_getElem? e1)
      have kf : scope.names.lookup q = some .free := by
        rcases e3 with z | z | z
        · exact absurd ((L.own _ (PySem.mem_of_lookup z)).1 rfl) qn
        · exact absurd rfl (L.own _ (PySem.mem_of_lookup z)).2
        · exact z
      obtain ⟨m, _, hl⟩ := I.loc
      have vis : Vis X.env.scope q := (L.fre _ (PySem.mem_of_lookup kf) rfl).elim (fun z => .inr (.inl z)) fun z => .inr (.inr z)
      obtain ⟨w', r, z⟩ := hl i q u e1 e2 vis
      obtain ⟨d, hd2⟩ := has kf
      refine ⟨w', r, .inr ⟨.inr kf, d, hd2, ?_⟩⟩
      rcases z with ⟨z, _⟩ | ⟨_, c3, z1, z2⟩
      · have z : X.env.scope.names.lookup q = some .local := z
        rcases L.fre _ (PySem.mem_of_lookup kf) rfl with k2 | k2 <;> rw [show X.env.scope.names.lookup q = _ from k2] at z <;> cases z
      · rw [up hd2] at z1
        cases z1
        exact cl (I.freeC q _ (up hd2)) z2
    · have hi : i = X.N.length := by
        have := (List.getElem?_eq_some_iff.mp e1).1
        rw [List.length_append] at this
        have : i < X.N.length + 1 := this
        omega
      subst hi
      rw [List.getElem?_append_right (Nat.le_refl _), Nat.sub_self] at e1
      rw [List.getElem?_append_right (by rw [hlen]; exact Nat.le_refl _), hlen, Nat.sub_self] at e2
      obtain rfl : a = q := Option.some.inj e1
      have eu : some y = some u := Option.some.inj e2
      cases eu
      refine ⟨v, ry, .inl ⟨L.par, ?_⟩⟩
      show (match a == a with | true => some v | false => _) = some v
      rw [beq_self_eq_true]
  · obtain ⟨u, z⟩ := I.cell q c (up e)
    exact ⟨u, cl (I.freeC q c (up e)) z⟩
  · obtain ⟨u, o, ho, _⟩ := I.cell q c (up e)
    exact un.free c o ho (I.freeC q c (up e)) (by simp)
  · show (σ ++ [some y]).length = (X.N ++ [a]).length
    rw [List.length_append, List.length_append, I.len]
    rfl
/-- b(e), in the def that got the lambda -/
theorem pe_act1 {Eg : XK} {Ng : List Str} {qg : Str} {sg : Scope} {g f c' : Addr} {cdg pm ctv : Value} {params : Arguments} {body : Expr} {scope : Scope} {k i : Nat} {a b : Str} {tb : TE} {p1 p2 : Pos} {e : Expr} {te : TA}
    (I : Inv X pins σ H s) (L : LamP X.env.scope scope a) (hna : a ∉ X.N) (hf : s.heap.get? f = some (PySem.W.kla_obj "<lambda>" (X.env.qual ++ "<lambda>") params body scope (cloFrom X.env.cells scope.names []) pm c' ctv)) (hfn : H f = none) (hfr : f ∉ frs X.stack)
    (hbind : ∀ v, bindArgs (PySem.W.kla_fn "<lambda>" (X.env.qual ++ "<lambda>") params body scope (cloFrom X.env.cells scope.names []) pm (.ref c') ctv) ⟨[v], []⟩ = pure [(a, v)])
    (hr : Room (k + 1) (X.A.deeper (envOfC qg sg s.heap.objs.size g cdg))) (hbody : ∀ (A : Around) (outer : List Env) (s : Shared) (H : Hp), Room k (A.deeper (lamEnv X scope s.heap.objs.size f c')) → PE (lamCxP X a A outer s H scope f c') body tb)
    (hN : Ng[i]? = some b) (hv : Vis sg b) (ha : PA (cxOf (L2.CX X.prog X.w) X.prog X.w X.K X.mg X.base Ng qg sg g cdg X.A X.stack s H Eg) [e] te)
    (he : starEach [e] (cxOf (L2.CX X.prog X.w) X.prog X.w X.K X.mg X.base Ng qg sg g cdg X.A X.stack s H Eg).env = (false, eval e (cxOf (L2.CX X.prog X.w) X.prog X.w X.K X.mg X.base Ng qg sg g cdg X.A X.stack s H Eg).env) :: starEach [] (cxOf (L2.CX X.prog X.w) X.prog X.w X.K X.mg X.base Ng qg sg g cdg X.A X.stack s H Eg).env)
    (hd : (b == ("__debug__" : Str)) = false := by decide) (hcd : (b == ("__classdict__" : Str)) = false := by decide) :
    PE (cxOf (L2.CX X.prog X.w) X.prog X.w X.K X.mg X.base Ng qg sg g cdg X.A X.stack s H Eg) (.Call (.Name b p1) [e] [] p2)
      (fun σZ HZ Q => σZ[i]? = some (some (.ref f)) ∧ te σZ HZ fun vs HZ1 => ∃ y, vs = [y] ∧ HZ1 c' = some (CodeO c' (X.env.qual ++ "<lambda>")) ∧ tb (σ ++ [some y]) HZ1 Q) := by
  refine ⟨fun pinsZ sZ σZ HZ Q IZ h => ?_⟩
  obtain ⟨hs, ht⟩ := h
  refine wpAny_Call_Name_kw (thn ((pe_var (pos := p1) (i := i) hN hv hd hcd).run pinsZ sZ σZ HZ (fun v H1 => v = .ref f ∧ H1 = HZ) IZ ⟨.ref f, hs, rfl, rfl⟩) fun u0 s1 z => ?_)
  obtain ⟨v0, H1, I1, r1, rfl, rfl⟩ := z
  obtain rfl : u0 = Value.ref f := r1
  have there : ∀ {s2 : Shared} {σ2 : L2.St} {H2 : Hp}, Inv (cxOf (L2.CX X.prog X.w) X.prog X.w X.K X.mg X.base Ng qg sg g cdg X.A X.stack s H Eg) pinsZ σ2 H2 s2 → s2.heap.get? f = some (PySem.W.kla_obj "<lambda>" (X.env.qual ++ "<lambda>") params body scope (cloFrom X.env.cells scope.names []) pm c' ctv) :=
    fun I2 => I2.base.keep f _ hf hfn hfr (fun z => nomatch (show f ∈ ([] : List Addr) from z))
  refine PySem.W.callWith_F ⟨_, _, _, _, there I1⟩ (thn (ha.run p2 pinsZ s1 σZ _ _ I1 ht) fun us s2 z => ?_) he (by rfl)
  obtain ⟨vs, H2, I2, rv, y, rfl, hc, htb⟩ := z
  have of2 := there I2
  refine ⟨⟨_, _, _, _, of2⟩, ?_⟩
  cases rv with
  | @cons _ u _ _ ry rn =>
  cases rn
  have un : Un (frs X.stack) [] H H2 s.heap s2.heap := I2.base
  obtain ⟨⟨oc, vs, t, hoc, hdc, hvc⟩, _, _⟩ := I2.hok c' _ hc
  have rc : codeAny (model X.prog X.w) (X.A.deeper (envOfC qg sg s.heap.objs.size g cdg)) (.call (.ref f) ⟨[u], []⟩) (CR (L2.CX X.prog X.w) (envOfC qg sg s.heap.objs.size g cdg :: X.stack) X.prog X.w H2 s2 Q E0) s2 := by
    refine PySem.W.kla_callFunE hr.depth of2 rfl L.co L.gen rfl ⟨c', oc, vs, t, rfl, hoc, hdc, hvc⟩ ?_
    rw [hbind]
    refine wpAny_pure (wpAny_newFunctionEnv (fun y hy => (L.own y hy).2) (fun q hq => ?_) (fun h₁ hns hsb => ⟨I2.nolimit.fresh _ hsb, ?_⟩) L.kd)
    · rw [List.mem_singleton.mp hq]
      exact L.par
    · have kp : ∀ b o, s2.heap.get? b = some o → h₁.get? b = some o := fun b o z => hsb.extBut b o (Nat.ne_of_lt (Heap.lt_size z)) (Heap.get?_push_of_some _ z)
      have J := lamP_start (f := f) (c' := c') (tk := s2.toks + ([(a, u)] : List (Str × Value)).length) I L hna I2.env0 hr.hd un ry hns kp
      refine PySem.W.kla_codeExpr (wpAny_mono ((hbody _ _ s2 H2 (hr.deeper _)).run [] _ _ H2 Q J htb) (fun v s' z => ?_) fun er s' z => z)
      obtain ⟨w', H', J', rv', q'⟩ := z
      exact ⟨w', H', J'.os, J'.bare, J'.base, J'.hok, rv', q'⟩
  refine wpAny_call (codeAny_mono rc fun r s' z => ?_)
  cases r with
  | error er => exact (passL (X := cxOf (L2.CX X.prog X.w) X.prog X.w X.K X.mg X.base Ng qg sg g cdg X.A X.stack s H Eg) pinsZ σZ H2 s2 er s' I2 z)
  | ok fl =>
    cases fl with
    | ret u' => exact I2.after z
    | next => exact False.elim z
    | brk => exact False.elim z
    | cont => exact False.elim z
end
end Tk

/-! ### x(lambda a: body, e, ..) by the body of x -/
namespace Tk
open PySem PySem.Spec PyProof.Rows L2 LamX
/-- a def that makes a function, its code object known -/
theorem FnP.okFc {P : Program} {w : World} {K : PySem.W.Frag} {mg : Str → Option Value} {base : Heap} {x qual : Str} {st : Stmt} {f : Addr} {N ps : List Str} {k : Nat} {sp : Sp} (F : ∃ fd, FnP K x qual st f fd) (S : FnScope N ps (defScope st))
    (hb : ∀ (kV doc pm : Value) (an : Option Addr) (cdv ct : Value) (us : List Value), us.length = ps.length → bindArgs (PySem.W.fnOf x qual (defArgs st) (defBody st) (defScope st) .none kV doc pm an cdv ct) ⟨us, []⟩ = pure (ps.zip us))
    (len : ∀ vs H Q E, sp vs H Q E → vs.length = ps.length)
    (hbody : ∀ (cdv : Value) (A : Around) (outer : List Env) (s : Shared) (H : Hp) (vs : List V) (Q : VK) (E : XK), cdv = .ref (codeAt K f) → Room k (A.deeper (envOfC qual (defScope st) s.heap.objs.size f cdv)) → sp vs H Q E →
      ∃ t, PSs (cxOf (L2.CX P w) P w K mg base N qual (defScope st) f cdv A outer s H E) (defBody st) t ∧ t { nx := fun _ H' => Q .non H', rt := Q } (start N vs) H) : OkF P w K mg base (k + 1) f ps sp := by
  obtain ⟨fd, F⟩ := F
  have hB := F.bindsN hb
  have kp := F.kp
  obtain ⟨oc, od, dV, kV, doc, pm, an, cdv, ct, osl, rfl, lk, hcd, _, _⟩ := F.ex
  exact ⟨⟨_, fn_of lk hcd S len fun A outer s H vs Q E hr hsp => hbody cdv A outer s H vs Q E (codeAt_eq lk rfl hcd) hr hsp, hB⟩, kp⟩
/-- the running def's code object has a table of T, under the name of its functions -/
def TabX (X : Cx) (T : List (Addr × Str)) : Prop := ∃ c P, TabB X.base X.mg c P ∧ X.env.code = .ref c ∧ (P, X.env.qual ++ "<lambda>") ∈ T ∧ ∀ p ∈ T, p.1 = P → p.2 = X.env.qual ++ "<lambda>"
/-- the context of the def that got the function -/
abbrev cxG (X : Cx) (Ng : List Str) (x : Str) (stg : Stmt) (g : Addr) (cdg : Value) (s : Shared) (H : Hp) : Cx := cxOf (L2.CX X.prog X.w) X.prog X.w X.K X.mg X.base Ng x (defScope stg) g cdg X.A X.stack s H E0
/-- the calls of the function that stands in the first slot -/
def Acts (Z : Cx) (b : Str) (f c' : Addr) (q : Str) (tl : V → Hp → VK → Prop) : Prop :=
  ∀ (e : Expr) (te : TA) (p1 p2 : Pos), PA Z [e] te → starEach [e] Z.env = (false, eval e Z.env) :: starEach [] Z.env →
    PE Z (.Call (.Name b p1) [e] [] p2) (fun σZ HZ Q => σZ[0]? = some (some (.ref f)) ∧ te σZ HZ fun vs HZ1 => ∃ y, vs = [y] ∧ HZ1 c' = some (CodeO c' q) ∧ tl y HZ1 Q)
def tLamN (T : List (Addr × Str)) (q : Str) (n : Nat) (ta : TA) (tb : TE) (TT : Addr → (V → Hp → VK → Prop) → List V → Hp → VK → Prop) : TE := fun σ H Q =>
  Tabs T H ∧ ∀ c' H1, ExtN H H1 → Tabs T H1 → H1 c' = some (CodeO c' q) → ta σ H1 fun ys H2 => ys.length + 1 = n ∧ TT c' (fun y H' Q' => tb (σ ++ [some y]) H' Q') ys H2 Q
theorem pe_lamcallN {X : Cx} {T : List (Addr × Str)} {x a b : Str} {g : Addr} {k : Nat} {stg : Stmt} {Ng ps : List Str} {params : Arguments} {body : Expr} {scope : Scope} {es : List Expr} {ta : TA} {tb : TE} {TT : Addr → (V → Hp → VK → Prop) → List V → Hp → VK → Prop} {p lpos pos : Pos}
    (hg : Gl X x) (hm : X.mg x = some (.ref g)) (Fg : ∃ fd, FnP X.K x x stg g fd) (Sg : FnScope Ng ps (defScope stg))
    (hbg : ∀ (kV doc pm : Value) (an : Option Addr) (cdv ct : Value) (us : List Value), us.length = ps.length → bindArgs (PySem.W.fnOf x x (defArgs stg) (defBody stg) (defScope stg) .none kV doc pm an cdv ct) ⟨us, []⟩ = pure (ps.zip us))
    (hG : ∀ (cdg : Value) (f c' : Addr) (s : Shared) (H : Hp) (ys : List V) (Q : VK) (tl : V → Hp → VK → Prop), Acts (cxG X Ng x stg g cdg s H) b f c' (X.env.qual ++ "<lambda>") tl → TT c' tl ys H Q →
      ∃ t, PSs (cxG X Ng x stg g cdg s H) (defBody stg) t ∧ t { nx := fun _ H' => Q .non H', rt := Q } (L2.start Ng (.ref f :: ys)) H)
    (tx : TabX X T) (hr : Room (k + 2) X.A) (L : LamP X.env.scope scope a) (hna : a ∉ X.N) (hdef : defaultsOf params X.env = ([], []))
    (hbind : ∀ (q : Str) (cl : List (Str × Addr)) (pm cv ctv : Value) (v : Value), bindArgs (PySem.W.kla_fn "<lambda>" q params body scope cl pm cv ctv) ⟨[v], []⟩ = pure [(a, v)])
    (hbody : ∀ (A : Around) (outer : List Env) (s : Shared) (H : Hp) (f c' : Addr), Room k (A.deeper (lamEnv X scope s.heap.objs.size f c')) → PE (lamCxP X a A outer s H scope f c') body tb) (ha : PA X es ta)
    (hN : Ng[0]? = some b := by rfl) (hv : Vis (defScope stg) b := by first | exact .inl rfl | exact .inl (by decide +kernel)) (hdb : (x == ("__debug__" : Str)) = false := by decide) (hd : (b == ("__debug__" : Str)) = false := by decide) (hcd0 : (b == ("__classdict__" : Str)) = false := by decide)
    (he : starEach (.Lambda params body scope lpos :: es) X.env = (false, eval (.Lambda params body scope lpos) X.env) :: starEach es X.env := by rfl) (hpl : (backTo pos (starEach es X.env)).any (·.1) = false := by rfl) (hst : frs X.stack = X.env.locals :: X.fs := by rfl) :
    PE X (.Call (.Name x p) (.Lambda params body scope lpos :: es) [] pos) (tLamN T (X.env.qual ++ "<lambda>") ps.length ta tb TT) := by
  refine ⟨fun pins s σ H Q I h => ?_⟩
  obtain ⟨hT, h⟩ := h
  obtain ⟨c, P, TB, hcode, hmT, hu⟩ := tx
  obtain ⟨fd, Fg⟩ := Fg
  have hB := Fg.bindsN hbg
  have kp := Fg.kp
  obtain ⟨oc, od, dV, kV, doc, pm, an, cdv, ct, osl, rfl, lk, hcd, _, _⟩ := Fg.ex
  refine wpAny_Call_Name_kw (ld_glob I hg hm ?_ hdb)
  refine PySem.W.callWith_K (h₀ := X.base) I.ok.mod.kin kp ?_ he hpl
  rw [he]
  show wpAny _ _ (spliced ((false, eval (.Lambda params body scope lpos) X.env) :: backTo pos (starEach es X.env))) _ _ s
  have hfree : ∀ y ∈ scope.names, y.2 = .free → ∃ c, X.env.cells.lookup y.1 = some c := fun y hy e => (L.fre y hy e).elim (fun z => I.ok.has _ (.inl z)) fun z => I.ok.has _ (.inr z)
  refine Calls.spliced_cons (lam_make2 I TB hcode hmT hu hT hdef hfree fun f c' pm' ctv H1 s' I1 eN T1 hf hfn hfr hco => ?_)
  have hfl : f ≠ X.env.locals ∧ f ∉ X.fs := by
    rw [hst] at hfr
    exact ⟨fun z => hfr (List.mem_cons.mpr (.inl z)), fun z => hfr (List.mem_cons.mpr (.inr z))⟩
  have I1p : Inv X ((f, PySem.W.kla_obj "<lambda>" (X.env.qual ++ "<lambda>") params body scope (cloFrom X.env.cells scope.names []) pm' c' ctv) :: pins) σ H1 s' := I1.pins_of fun q hq => by
    rcases List.mem_cons.mp hq with e | e
    · subst e
      exact ⟨hf, hfn, hfl.1, hfl.2, fun v z => by cases z⟩
    · exact I1.pin q (List.mem_append_right _ e)
  refine thn (ha.run pos _ s' σ H1 _ I1p (h c' H1 eN T1 hco)) fun us s2 ⟨ys, H2, I2, rv, hlen, q2⟩ => ?_
  have hp2 := I2.pin (f, PySem.W.kla_obj "<lambda>" (X.env.qual ++ "<lambda>") params body scope (cloFrom X.env.cells scope.names []) pm' c' ctv) (List.mem_append_right _ (List.mem_cons_self ..))
  have J : Inv X pins σ H2 s2 := I2.pins_of fun q hq => I2.pin q (List.mem_append_right _ (List.mem_cons_of_mem _ hq))
  refine ⟨J.kIn, ?_⟩
  have hl2 : us.length = ys.length := rv.length.symm
  have rc : codeAny (model X.prog X.w) X.A (.call (.ref g) ⟨.ref f :: us, []⟩) (CR (L2.CX X.prog X.w) X.stack X.prog X.w H2 s2 Q E0) s2 := by
    refine run_ofS (N := Ng) (ps := ps) (us := .ref f :: us) (vs := .ref f :: ys) lk hcd Sg (hr.mono (Nat.le_refl _)) J.env0 (by simpa using hB s2 (.ref f :: us) J.kIn (by simp; omega)) (.cons rfl rv) (by simp; omega) fun hr' => ?_
    exact hG cdv f c' s2 H2 ys Q _ (fun e te p1 p2 pe hst' => pe_act1 (i := 0) J L hna hp2.1 hp2.2.1 hfr (hbind _ _ _ _ _) hr' (fun A outer s H hr2 => hbody A outer s H f c' hr2) hN hv pe hst' hd hcd0) q2
  refine wpAny_call (codeAny_mono rc fun r s3 hq => ?_)
  cases r with
  | error e => exact passL pins σ H2 s2 e s3 J hq
  | ok fl =>
    cases fl with
    | ret u => exact J.after hq
    | next => exact False.elim hq
    | brk => exact False.elim hq
    | cont => exact False.elim hq
end Tk

/-! ### Functions that are made, as tracked objects -/
namespace Tk
open PySem PySem.Spec PyProof.Rows L2 LamX
namespace Cz
/-- the function object at f -/
def FnO (f : Addr) (o : Obj) : HO := .ext fun g => g.get? f = some o
/-- a cell's object that holds v -/
def IsCel (o : Obj) (v : V) : Prop := ∃ u, RelV v u ∧ o.data = .cell (some u)
def remL (H : Hp) (l : List Addr) : Hp := fun b => if b ∈ l then none else H b
def putB (H H' : Hp) (l : List Addr) : Hp := fun b => if b ∈ l then H b else H' b
section
variable {P : Program} {w : World} {H H' : Hp} {g g' : Heap} {l : List Addr}
theorem fnO_ok {f : Addr} {o : Obj} (e : g.get? f = some o) : ObjOk P w H g f (FnO f o) := ⟨e, ⟨o, e⟩, fun _ _ e1 k => k _ e1⟩
theorem fnO_get (hk : HOk P w H g) {f : Addr} {o : Obj} (e : H f = some (FnO f o)) : g.get? f = some o := (hk f _ e).1
theorem remL_some {b : Addr} {o : HO} (e : remL H l b = some o) : b ∉ l ∧ H b = some o := by
  unfold remL at e
  by_cases q : b ∈ l
  · rw [if_pos q] at e
    cases e
  · rw [if_neg q] at e
    exact ⟨q, e⟩
theorem remL_none {b : Addr} (e : H b = none) : remL H l b = none := by
  unfold remL
  split
  · rfl
  · exact e
theorem remL_in {b : Addr} (e : b ∈ l) : remL H l b = none := by unfold remL; rw [if_pos e]
theorem remL_out {b : Addr} (e : b ∉ l) : remL H l b = H b := by unfold remL; rw [if_neg e]
theorem putB_in {b : Addr} (e : b ∈ l) : putB H H' l b = H b := by unfold putB; rw [if_pos e]
theorem putB_out {b : Addr} (e : b ∉ l) : putB H H' l b = H' b := by unfold putB; rw [if_neg e]
/-- all of l hold cells -/
def Cels (H : Hp) (l : List Addr) : Prop := ∀ c ∈ l, ∃ o v, H c = some (FnO c o) ∧ IsCel o v
theorem remL_keep {b : Addr} {o : HO} (hc : Cels H l) (e : H b = some o) (h : ∀ φ, o ≠ .ext φ) : remL H l b = some o := by
  rw [remL_out]
  · exact e
  · intro q
    obtain ⟨_, v, z, _⟩ := hc b q
    rw [e] at z
    exact h _ (Option.some.inj z)
theorem remL_hok (hc : Cels H l) (hk : HOk P w H g) : HOk P w (remL H l) g := fun b o e => by
  obtain ⟨_, e2⟩ := remL_some e
  exact (hk b o e2).stay (fun _ _ _ q => q) (fun d q => remL_keep hc q fun φ z => by cases z) fun d xs q => remL_keep hc q fun φ z => by cases z
/-- behind the body: the cells as they were -/
theorem putB_hok (hc : Cels H l) (hk : HOk P w H g) (hk' : HOk P w H' g') (cell : ∀ c ∈ l, ∀ o, g.get? c = some o → g'.get? c = some o) (out : ∀ c ∈ l, H' c = none) : HOk P w (putB H H' l) g' := fun b o e => by
  by_cases q : b ∈ l
  · rw [putB_in q] at e
    obtain ⟨ob, v, z, _⟩ := hc b q
    rw [z] at e
    obtain rfl := Option.some.inj e
    exact fnO_ok (cell b q _ (fnO_get hk z))
  · rw [putB_out q] at e
    refine (hk' b o e).stay (fun _ _ _ q => q) (fun d z => ?_) fun d xs z => ?_
    · rw [putB_out]
      · exact z
      · intro m
        rw [out d m] at z
        cases z
    · rw [putB_out]
      · exact z
      · intro m
        rw [out d m] at z
        cases z
theorem putB_un {fs : List Addr} (hc : Cels H l) (un : Un fs [] (remL H l) H' g g') (out : ∀ c ∈ l, H' c = none) : Un fs [] H (putB H H' l) g g' := by
  have rn : ∀ {b : Addr}, H b = none → remL H l b = none := fun e => remL_none e
  have nl : ∀ {b : Addr}, H b = none → b ∉ l := fun {b} e q => by
    obtain ⟨_, v, z, _⟩ := hc b q
    rw [e] at z
    cases z
  refine ⟨fun b o e n => un.keep b o e (rn n), fun b o e n => un.slot b o e (rn n), fun b o e n x => ?_, fun b o e x => un.there b o e x, fun b xs e => ?_, fun b o u e => ?_, fun b ps e => ?_⟩
  · rw [putB_out (nl n)]
    exact un.free b o e (rn n) x
  · have q := remL_keep hc e fun φ z => by cases z
    have r := un.tups b xs q
    rw [putB_out (remL_some q).1]
    exact r
  · have q := remL_keep hc e fun φ z => by cases z
    have r := un.frzs b o u q
    rw [putB_out (remL_some q).1]
    exact r
  · have q := remL_keep hc e fun φ z => by cases z
    obtain ⟨more, r⟩ := un.tbls b ps q
    exact ⟨more, by rw [putB_out (remL_some q).1]; exact r⟩
end
/-- a function object keeps a promise: called with one argument it does what R says -/
def LamOk (P : Program) (w : World) (K : PySem.W.Frag) (mg : Str → Option Value) (base : Heap) (k : Nat) (obj : Obj) (R : V → Hp → VK → Prop) : Prop :=
  ∀ (A : Around) (outer : List Env) (s : Shared) (H : Hp) (f : Addr) (y : V) (u : Value) (Q : VK), Room (k + 1) A → Env0 P w K mg base A outer s H → s.heap.get? f = some obj → RelV y u → R y H Q →
    codeAny (model P w) A (.call (.ref f) ⟨[u], []⟩) (CR (L2.CX P w) outer P w H s Q E0) s
/-- the cells of a lambda's captured names -/
def kap (X : Cx) (scope : Scope) : List Addr := (cloFrom X.env.cells scope.names []).map (·.2)
def kapA (X : Cx) (x : Str) : Addr := (X.env.cells.lookup x).getD 0
/-- the captured names and what their cells hold -/
def Capt (X : Cx) (scope : Scope) (σ : L2.St) (H : Hp) : Prop := ∀ q ∈ scope.names, q.2 = .free → ∃ (i : Nat) (v : V) (o : Obj), X.N[i]? = some q.1 ∧ σ[i]? = some (some v) ∧ H (kapA X q.1) = some (FnO (kapA X q.1) o) ∧ IsCel o v
/-- what its body makes of an argument, its cells tracked -/
def LamR (X : Cx) (scope : Scope) (c' : Addr) (tb : TE) (y : V) (H : Hp) (Q : VK) : Prop := ∃ σ : L2.St, σ.length = X.N.length ∧ Capt X scope σ H ∧
  H c' = some (CodeO c' (X.env.qual ++ "<lambda>")) ∧ tb (σ ++ [some y]) (remL H (kap X scope)) fun v H' => Q v (putB H H' (kap X scope))
section
variable {X : Cx} {scope : Scope} {a : Str}
theorem clo_up (ok : X.Ok) (L : LamP X.env.scope scope a) {q : Str} {c : Addr} (e : (cloFrom X.env.cells scope.names []).lookup q = some c) : X.env.cells.lookup q = some c ∧ (q, NameKind.free) ∈ scope.names := by
  rcases cloFrom_mem (PySem.mem_of_lookup e) with hm | ⟨z1, z2⟩
  · cases hm
  · obtain ⟨d, hd⟩ := (L.fre _ z1 rfl).elim (fun z => ok.has _ (.inl z)) fun z => ok.has _ (.inr z)
    have hd : X.env.cells.lookup q = some d := hd
    have e2 : c = d := by rw [z2, hd] <;> rfl
    rw [e2]
    exact ⟨hd, z1⟩
theorem clo_has {q : Str} (hl : scope.names.lookup q = some .free) : ∃ c, (cloFrom X.env.cells scope.names []).lookup q = some c := mem_lookup (cloFrom_has (cells := X.env.cells) (acc := []) (PySem.mem_of_lookup hl))
theorem kap_mem {q : Str} {c : Addr} (e : (cloFrom X.env.cells scope.names []).lookup q = some c) : c ∈ kap X scope := List.mem_map.mpr ⟨(q, c), PySem.mem_of_lookup e, rfl⟩
theorem capt_cels (ok : X.Ok) (L : LamP X.env.scope scope a) {σ : L2.St} {H : Hp} (h : Capt X scope σ H) : Cels H (kap X scope) := fun c hc => by
  obtain ⟨⟨q, d⟩, hm, rfl⟩ := List.mem_map.mp hc
  rcases cloFrom_mem hm with m | ⟨z1, z2⟩
  · cases m
  · obtain ⟨i, v, o, _, _, e, r⟩ := h _ z1 rfl
    exact ⟨o, v, by rw [show d = kapA X q from z2]; exact e, r⟩
theorem capt_val (hN : X.N.Nodup) {σ : L2.St} {H : Hp} (h : Capt X scope σ H) {i : Nat} {x : Str} {v : V} (hi : X.N[i]? = some x) (hf : scope.names.lookup x = some .free) (hv : σ[i]? = some (some v)) : ∃ o, H (kapA X x) = some (FnO (kapA X x) o) ∧ IsCel o v := by
  obtain ⟨j, u, o, hj, hu, e, r⟩ := h (x, .free) (PySem.mem_of_lookup hf) rfl
  have : i = j := (List.getElem?_inj (List.getElem?_eq_some_iff.mp hi).1 hN).mp (hi.trans hj.symm)
  subst this
  rw [hv] at hu
  obtain rfl : v = u := by
    have := Option.some.inj hu
    exact Option.some.inj this
  exact ⟨o, e, r⟩
theorem lamC_start {σ : L2.St} {H : Hp} {s1 : Shared} {y : V} {v : Value} {A : Around} {outer : List Env} {f c' : Addr} {h₁ : Heap} {tk : Nat} (ok : X.Ok) (L : LamP X.env.scope scope a) (hna : a ∉ X.N) (hlen : σ.length = X.N.length) (hN : X.N.Nodup) (hC : Capt X scope σ H) (e0 : Env0 X.prog X.w X.K X.mg X.base A outer s1 H) (hd : A.handled = none)
    (ry : RelV y v) (hns : h₁.Ns s1.heap.objs.size fun x => ([(a, v)] : List (Str × Value)).reverse.lookup x) (kp : ∀ b o, s1.heap.get? b = some o → h₁.get? b = some o) :
    Inv (lamCxP X a A outer s1 (remL H (kap X scope)) scope f c') [] (σ ++ [some y]) (remL H (kap X scope)) { s1 with heap := h₁, toks := tk } := by
  have hc := capt_cels ok L hC
  have hok2 : HOk X.prog X.w (remL H (kap X scope)) s1.heap := remL_hok hc e0.hok
  have cel : ∀ {q c}, (cloFrom X.env.cells scope.names []).lookup q = some c → ∃ u, h₁.IsCell c (some u) := fun {q c} e => by
    obtain ⟨o, x, z, u, _, d⟩ := hc c (kap_mem e)
    exact ⟨u, o, kp _ _ (fnO_get e0.hok z), d⟩
  have none0 : ∀ b : Addr, b ∉ (lamCxP X a A outer s1 (remL H (kap X scope)) scope f c').ex := fun b z => by cases (show b ∈ ([] : List Addr) from z)
  refine ⟨⟨e0.mod, L.kd, rfl, rfl, Nat.le_refl _, fun p q c e1 e2 => ok.inj p q c (clo_up ok L e1).1 (clo_up ok L e2).1, fun q hq => ?_, fun q c z _ => ?_, fun _ => hd, Around.frames_deeper e0.frames, .inr ⟨rfl, rfl⟩, fun b z => absurd z (none0 b), fun b o e => ⟨(e0.bs b o e).1, remL_none (e0.bs b o e).2⟩, e0.bsz, fun b _ _ => none0 b,
      fun b z => absurd z (none0 b), e0.funs, fun b hb => remL_none (e0.frf b hb)⟩,
    rfl, e0.bare, Un.kept kp, ⟨_, hns, fun i q u e1 e2 e3 => ?_⟩, fun q c e => ?_, hok2.fresh (Nat.le_refl _), fun q c e => remL_in (kap_mem e), fun q hq => absurd (show q ∈ ([] : List (Addr × Obj)) ++ [] from hq) (by simp), hok2.kept kp, ?_⟩
  · rcases (show scope.names.lookup q = some .cell ∨ scope.names.lookup q = some .free from hq) with z | z
    · exact absurd rfl (L.own _ (PySem.mem_of_lookup z)).2
    · exact clo_has z
  · cases (show false = true from z)
  · have e1 : (X.N ++ [a])[i]? = some q := e1
    have e3 : Vis scope q := e3
    rcases Nat.lt_or_ge i X.N.length with lt | ge
    · rw [List.getElem?_append_left lt] at e1
      rw [List.getElem?_append_left (by rw [hlen]; exact lt)] at e2
      have qn : q ≠ a := fun z => hna (by rw [← z]; exact List.mem_of_getElem? e1)
      have kf : scope.names.lookup q = some .free := by
        rcases e3 with z | z | z
        · exact absurd ((L.own _ (PySem.mem_of_lookup z)).1 rfl) qn
        · exact absurd rfl (L.own _ (PySem.mem_of_lookup z)).2
        · exact z
      obtain ⟨d, hd2⟩ := clo_has (X := X) kf
      have ka : kapA X q = d := by unfold kapA; rw [(clo_up ok L hd2).1]; rfl
      obtain ⟨o, z, x, r, dd⟩ := capt_val hN hC e1 kf e2
      rw [ka] at z
      exact ⟨x, r, .inr ⟨.inr kf, d, hd2, o, kp _ _ (fnO_get e0.hok z), dd⟩⟩
    · have hi : i = X.N.length := by
        have := (List.getElem?_eq_some_iff.mp e1).1
        rw [List.length_append] at this
        have : i < X.N.length + 1 := this
        omega
      subst hi
      rw [List.getElem?_append_right (Nat.le_refl _), Nat.sub_self] at e1
      rw [List.getElem?_append_right (by rw [hlen]; exact Nat.le_refl _), hlen, Nat.sub_self] at e2
      obtain rfl : a = q := Option.some.inj e1
      have eu : some y = some u := Option.some.inj e2
      cases eu
      refine ⟨v, ry, .inl ⟨L.par, ?_⟩⟩
      show (match a == a with | true => some v | false => _) = some v
      rw [beq_self_eq_true]
  · obtain ⟨u, z⟩ := cel e
    exact ⟨_, z⟩
  · show (σ ++ [some y]).length = (X.N ++ [a]).length
    rw [List.length_append, List.length_append, hlen]
    rfl
/-- a lambda of one parameter keeps what its body's reading says -/
theorem lamOk_of {k : Nat} {c' : Addr} {pm ctv : Value} {params : Arguments} {body : Expr} {tb : TE} (ok : X.Ok) (hN : X.N.Nodup) (L : LamP X.env.scope scope a) (hna : a ∉ X.N)
    (hbind : ∀ v, bindArgs (PySem.W.kla_fn "<lambda>" (X.env.qual ++ "<lambda>") params body scope (cloFrom X.env.cells scope.names []) pm (.ref c') ctv) ⟨[v], []⟩ = pure [(a, v)])
    (hbody : ∀ (A : Around) (outer : List Env) (s : Shared) (H : Hp) (f : Addr), Room k (A.deeper (lamEnv X scope s.heap.objs.size f c')) → PE (lamCxP X a A outer s H scope f c') body tb) :
    LamOk X.prog X.w X.K X.mg X.base k (PySem.W.kla_obj "<lambda>" (X.env.qual ++ "<lambda>") params body scope (cloFrom X.env.cells scope.names []) pm c' ctv) (LamR X scope c' tb) := by
  intro A outer s H f y u Q hr e0 hf ry hR
  obtain ⟨σ, hlen, hC, hcode, ht⟩ := hR
  have hc := capt_cels ok L hC
  obtain ⟨⟨oc, vs, t, hoc, hdc, hvc⟩, _, _⟩ := e0.hok c' _ hcode
  have lim : s.heap.NoLimit := e0.mod.nolimit.keeps fun b o e => (e0.bs b o e).1
  refine PySem.W.kla_callFunE hr.depth hf rfl L.co L.gen rfl ⟨c', oc, vs, t, rfl, hoc, hdc, hvc⟩ ?_
  rw [hbind]
  refine wpAny_pure (wpAny_newFunctionEnv (fun q hq => (L.own q hq).2) (fun q hq => ?_) (fun h₁ hns hsb => ⟨lim.fresh _ hsb, ?_⟩) L.kd)
  · rw [List.mem_singleton.mp hq]
    exact L.par
  · have kp : ∀ b o, s.heap.get? b = some o → h₁.get? b = some o := fun b o z => hsb.extBut b o (Nat.ne_of_lt (Heap.lt_size z)) (Heap.get?_push_of_some _ z)
    have J := lamC_start (f := f) (c' := c') (tk := s.toks + ([(a, u)] : List (Str × Value)).length) ok L hna hlen hN hC e0 hr.hd ry hns kp
    refine PySem.W.kla_codeExpr (wpAny_mono ((hbody A outer s _ f (hr.deeper _)).run [] _ _ _ _ J ht) (fun v s' z => ?_) fun er s' z => ?_)
    · obtain ⟨w', H', J', rv', q'⟩ := z
      have un : Un (frs outer) [] (remL H (kap X scope)) H' s.heap s'.heap := J'.base
      have out : ∀ c ∈ kap X scope, H' c = none := fun c m => by
        obtain ⟨o, x, z, _⟩ := hc c m
        exact un.free c o (fnO_get e0.hok z) (remL_in m) (by simp)
      have keep : ∀ c ∈ kap X scope, ∀ o, s.heap.get? c = some o → s'.heap.get? c = some o := fun c m o e => by
        obtain ⟨_, x, z, _⟩ := hc c m
        refine un.keep c o e (remL_in m) (fun hb => ?_) (by simp)
        have := e0.frf c hb
        rw [z] at this
        cases this
      exact ⟨w', putB H H' (kap X scope), J'.os, J'.bare, putB_un hc un out, putB_hok hc e0.hok J'.hok keep out, rv', q'⟩
    · have no : ∀ (e : Value) (s2 : Shared), L2.CX X.prog X.w outer (remL H (kap X scope)) s E0 e s2 → False := fun e s2 q => by
        obtain ⟨_, _, _, _, _, _, _, _, _, _, _, _, q⟩ := q
        exact q
      exact wpAny_mono z (fun _ s2 q => (no _ s2 q).elim) fun _ s2 q => (no _ s2 q).elim
/-- an old invariant, a new object: it may be tracked -/
theorem track {pins : List (Addr × Obj)} {σ : L2.St} {H H1 : Hp} {s s' : Shared} {f : Addr} {ob : Obj} (I : Inv X pins σ H s) (I1 : Inv X pins σ H1 s') (hf : s'.heap.get? f = some ob) (new : s.heap.objs.size ≤ f) (hn : H1 f = none) : Inv X pins σ (upd H1 f (FnO f ob)) s' := by
  have old : ∀ {b : Addr} {o : Obj}, s.heap.get? b = some o → b ≠ f := fun {b o} e q => by
    subst q
    exact absurd (Heap.lt_size e) (Nat.not_lt.mpr new)
  have hs0 : ∀ b o, X.s_0.heap.get? b = some o → b ≠ f := fun b o e q => by
    subst q
    exact Nat.lt_irrefl _ (Nat.lt_of_lt_of_le (Nat.lt_of_lt_of_le (Heap.lt_size e) I.sz) new)
  refine ⟨I1.ok, I1.os, I1.bare, ?_, I1.loc, I1.cell, ?_, fun x c e => ?_, fun p hp => ?_, ?_, I1.len⟩
  · have u := I1.base
    refine ⟨u.keep, u.slot, fun b o e n x => ?_, u.there, fun b xs e => ?_, fun b o w e => ?_, fun b ps e => ?_⟩
    · rw [upd_ne (hs0 b o e)]
      exact u.free b o e n x
    · have z := u.tups b xs e
      rw [upd_ne (ne_of_none z hn)]
      exact z
    · have z := u.frzs b o w e
      rw [upd_ne (ne_of_none z hn)]
      exact z
    · obtain ⟨more, z⟩ := u.tbls b ps e
      exact ⟨more, by rw [upd_ne (ne_of_none z hn)]; exact z⟩
  · have lt := I.lt
    rw [upd_ne (Nat.ne_of_lt (Nat.lt_of_lt_of_le lt new))]
    exact I1.free
  · obtain ⟨u, o, ho, _⟩ := I.cell x c e
    rw [upd_ne (old ho)]
    exact I1.freeC x c e
  · obtain ⟨p1, p2, p3⟩ := I1.pin p hp
    refine ⟨p1, ?_, p3⟩
    rw [upd_ne (old (I.pin p hp).1)]
    exact p2
  · intro b o e
    by_cases q : b = f
    · subst q
      rw [upd_same] at e
      obtain rfl := Option.some.inj e
      exact fnO_ok hf
    · rw [upd_ne q] at e
      refine (I1.hok b o e).stay (fun _ _ _ q => q) (fun d z => ?_) fun d xs z => ?_
      · rw [upd_ne (ne_of_none z hn)]
        exact z
      · rw [upd_ne (ne_of_none z hn)]
        exact z
end
/-- the name of a lambda of this context -/
abbrev lnm (X : Cx) : Str := X.env.qual ++ "<lambda>"
abbrev lob (X : Cx) (params : Arguments) (body : Expr) (scope : Scope) (pm : Value) (c' : Addr) (ctv : Value) : Obj := PySem.W.kla_obj "<lambda>" (lnm X) params body scope (cloFrom X.env.cells scope.names []) pm c' ctv
/-- a lambda is made: a new object -/
theorem lam_new {X : Cx} {pins : List (Addr × Obj)} {σ : L2.St} {H : Hp} {s : Shared} {T : List (Addr × Str)} {params : Arguments} {body : Expr} {scope : Scope} {pos : Pos} {Er : Value → Shared → Prop} {Rs : Value → Shared → Prop} (I : Inv X pins σ H s) (tx : TabX X T) (tabs : Tabs T H)
    (nodef : defaultsOf params X.env = ([], [])) (caps : ∀ y ∈ scope.names, y.2 = .free → ∃ c, X.env.cells.lookup y.1 = some c)
    (goal : ∀ (f cd : Addr) (pm ctv : Value) (G : Hp) (t : Shared), Inv X pins σ G t → ExtN H G → Tabs T G → t.heap.get? f = some (lob X params body scope pm cd ctv) → s.heap.objs.size ≤ f → G f = none → G cd = some (CodeO cd (lnm X)) → Rs (.ref f) t) :
    wpAny (model X.prog X.w) X.A (eval (.Lambda params body scope pos) X.env) Rs Er s := by
  obtain ⟨c, TP, TB, hcode, hmem, honly⟩ := tx
  obtain ⟨tb, htb, htr, hknown⟩ := tabs _ hmem
  have atT : s.heap.get? TP = some { cls := .none, data := .fields tb } := I.hok TP _ htb
  have bTP := TB.bm.keeps I.bk
  have gl := I.mod.glob.keeps I.bk
  have cd0 := TB.code.keeps I.bk
  refine PySem.W.kla_eval nodef ?_
  cases hh : codeAmong pos tb.toList with
  | some cv =>
    obtain ⟨cd, rfl, hco⟩ := hknown pos cv hh
    refine PySem.W.kla_makeFunctionHit (mg := X.mg) (c := c) (P := TP) (ps := tb) (closure_ok caps) I.ok.glob gl hcode cd0 atT htr hh bTP fun ctv h1 tk old big => ?_
    refine goal h1.objs.size cd ((X.mg "__name__").getD .none) ctv H _ (I.kept fun b o e => Heap.get?_push_of_some _ (old b o e)) (ExtN.refl H) tabs ?_ big (I.hok.fresh big) hco
    exact Heap.get?_push_size _ rfl
  | none =>
    refine PySem.W.kla_makeFunction (mg := X.mg) (c := c) (P := TP) (ps := tb) (closure_ok caps) I.ok.glob gl hcode cd0 atT htr hh TB.gP bTP fun cd ctv h1 tk old ge lt rec_ nt => ?_
    obtain ⟨_, oc, vs, tt, er, hoc, hdt, hvs⟩ := rec_
    cases er
    have big : s.heap.objs.size ≤ h1.objs.size := Nat.le_trans ge (Nat.le_of_lt lt)
    have free1 : H cd = none := I.hok.fresh ge
    have J := inv_table (t' := tk) (more := #[rawInt pos.line, rawInt pos.col, .ref cd]) (h' := h1.push (lob X params body scope ((X.mg "__name__").getD .none) cd ctv)) I htb
      (fun b o nb e => Heap.get?_push_of_some _ (old b o nb e)) (Heap.get?_push_of_some _ nt) ge ⟨oc, vs, tt, Heap.get?_push_of_some _ hoc, hdt, hvs⟩
    have ext : ExtN H (upd (upd H TP (.tbl (tb ++ #[rawInt pos.line, rawInt pos.col, .ref cd]))) cd (CodeO cd (lnm X))) := fun b o e n => by
      have n1 : b ≠ cd := ne_of_none e free1
      have n2 : b ≠ TP := fun z => by
        rw [z, htb] at e
        exact n tb (Option.some.inj e).symm
      rw [upd_ne n1, upd_ne n2]
      exact e
    refine goal h1.objs.size cd ((X.mg "__name__").getD .none) ctv _ _ J ext (fun p hp => ?_) (Heap.get?_push_size _ rfl) big ?_ upd_same
    · have el : (tb ++ #[rawInt pos.line, rawInt pos.col, .ref cd]).toList = tb.toList ++ [rawInt pos.line, rawInt pos.col, .ref cd] := by simp
      by_cases isP : p.1 = TP
      · rw [honly p hp isP, isP]
        refine ⟨_, by rw [upd_ne (ne_of_none htb free1), upd_same], by rw [el]; exact PySem.TriplesOk_snoc _ _ _ _ htr, fun q cv hq => ?_⟩
        rw [el] at hq
        rcases among_app _ htr hq with z | z
        · obtain ⟨d, r1, r2⟩ := hknown q cv z
          exact ⟨d, r1, ext _ _ r2 codeO_ne⟩
        · exact ⟨cd, z, upd_same⟩
      · obtain ⟨tb2, r1, r2, r3⟩ := tabs p hp
        refine ⟨tb2, by rw [upd_ne (ne_of_none r1 free1), upd_ne isP]; exact r1, r2, fun q cv hq => ?_⟩
        obtain ⟨d, r4, r5⟩ := r3 q cv hq
        exact ⟨d, r4, ext _ _ r5 codeO_ne⟩
    · rw [upd_ne (Nat.ne_of_gt lt), upd_ne (Nat.ne_of_gt (Nat.lt_of_lt_of_le (Heap.lt_size atT) big))]
      exact I.hok.fresh big
/-- a lambda as a value: a tracked function that keeps its promise -/
def tLamV (X : Cx) (T : List (Addr × Str)) (k : Nat) (scope : Scope) (tb : TE) : TE := fun _ H Q => Tabs T H ∧ ∀ (f cd : Addr) (fd : FuncData) (H1 : Hp), H f = none → ExtN H H1 → Tabs T H1 → H1 f = some (FnO f { cls := .type "function", data := .func fd }) → H1 cd = some (CodeO cd (lnm X)) →
  LamOk X.prog X.w X.K X.mg X.base k { cls := .type "function", data := .func fd } (LamR X scope cd tb) → Q (.ref f) H1
theorem pe_lam {X : Cx} {T : List (Addr × Str)} {k : Nat} {a : Str} {params : Arguments} {body : Expr} {scope : Scope} {pos : Pos} {tb : TE} (tx : TabX X T) (hN : X.N.Nodup) (L : LamP X.env.scope scope a) (hna : a ∉ X.N) (nodef : defaultsOf params X.env = ([], []))
    (hbind : ∀ (q : Str) (cl : List (Str × Addr)) (pm cv ctv : Value) (v : Value), bindArgs (PySem.W.kla_fn "<lambda>" q params body scope cl pm cv ctv) ⟨[v], []⟩ = pure [(a, v)])
    (hbody : ∀ (A : Around) (outer : List Env) (s : Shared) (H : Hp) (f c' : Addr), Room k (A.deeper (lamEnv X scope s.heap.objs.size f c')) → PE (lamCxP X a A outer s H scope f c') body tb) :
    PE X (.Lambda params body scope pos) (tLamV X T k scope tb) := by
  refine ⟨fun pins s σ H Q I h => ?_⟩
  obtain ⟨hT, h⟩ := h
  refine lam_new I tx hT nodef (fun y hy e => (L.fre y hy e).elim (fun z => I.ok.has _ (.inl z)) fun z => I.ok.has _ (.inr z)) fun f cd pm ctv G t J ext hTG hf big hn hco => ?_
  have J2 := track I J hf big hn
  have ex2 : ExtN G (upd G f (FnO f (lob X params body scope pm cd ctv))) := fun b o e _ => by
    rw [upd_ne (ne_of_none e hn)]
    exact e
  refine ⟨.ref f, _, J2, rfl, h f cd _ _ (I.hok.fresh big) (ext.trans ex2) (hTG.ext fun b o e => ?_) upd_same (ex2 _ _ hco codeO_ne) (lamOk_of I.ok hN L hna (fun v => hbind _ _ _ _ _ v) fun A outer s H f' hr => hbody A outer s H f' cd hr)⟩
  rw [upd_ne (ne_of_none e hn)]
  exact e
/-- b(e), b a tracked function -/
def tAct (i : Nat) (obj : Obj) (R : V → Hp → VK → Prop) (te : TA) : TE := fun σ H Q => ∃ f, σ[i]? = some (some (.ref f)) ∧ H f = some (FnO f obj) ∧ te σ H fun vs H1 => ∃ y, vs = [y] ∧ H1 f = some (FnO f obj) ∧ R y H1 Q
theorem pe_actC {Z : Cx} {P : Program} {w : World} {K : PySem.W.Frag} {mg : Str → Option Value} {base : Heap} {k i : Nat} {obj : Obj} {fd : FuncData} {R : V → Hp → VK → Prop} {b : Str} {p1 p2 : Pos} {e : Expr} {te : TA} (LO : LamOk P w K mg base k obj R) (hob : obj = { cls := .type "function", data := .func fd }) (hr : Room (k + 1) Z.A)
    (hN : Z.N[i]? = some b) (hv : Vis Z.env.scope b) (ha : PA Z [e] te) (hZ : Z.prog = P ∧ Z.w = w ∧ Z.K = K ∧ Z.mg = mg ∧ Z.base = base := by exact ⟨rfl, rfl, rfl, rfl, rfl⟩) (hd : (b == ("__debug__" : Str)) = false := by decide) (hcd : (b == ("__classdict__" : Str)) = false := by decide)
    (he : starEach [e] Z.env = (false, eval e Z.env) :: starEach [] Z.env := by rfl) : PE Z (.Call (.Name b p1) [e] [] p2) (tAct i obj R te) := by
  obtain ⟨rfl, rfl, rfl, rfl, rfl⟩ := hZ
  subst hob
  refine ⟨fun pins s σ H Q I h => ?_⟩
  obtain ⟨f, hs, hf, ht⟩ := h
  refine wpAny_Call_Name_kw (thn ((pe_var (pos := p1) (i := i) hN hv hd hcd).run pins s σ H (fun v H1 => v = .ref f ∧ H1 = H) I ⟨.ref f, hs, rfl, rfl⟩) fun u0 s1 z => ?_)
  obtain ⟨v0, H1, I1, r1, rfl, rfl⟩ := z
  obtain rfl : u0 = Value.ref f := r1
  refine PySem.W.callWith_F ⟨_, _, _, _, fnO_get I1.hok hf⟩ (thn (ha.run p2 pins s1 σ _ _ I1 ht) fun us s2 z => ?_) he (by rfl)
  obtain ⟨vs, H2, I2, rv, y, rfl, hf2, hR⟩ := z
  have of2 := fnO_get I2.hok hf2
  refine ⟨⟨_, _, _, _, of2⟩, ?_⟩
  cases rv with
  | @cons _ u _ _ ry rn =>
  cases rn
  have rc := LO Z.A Z.stack s2 H2 f y u Q hr I2.env0 of2 ry hR
  refine wpAny_call (codeAny_mono rc fun r s' z => ?_)
  cases r with
  | error er => exact (passL (X := Z) pins σ H2 s2 er s' I2 z)
  | ok fl =>
    cases fl with
    | ret u' => exact I2.after z
    | next => exact False.elim z
    | brk => exact False.elim z
    | cont => exact False.elim z
/-! a call, the caller's cells tracked -/
def KC (X : Cx) (b : Addr) : Prop := ∃ x, X.env.cells.lookup x = some b
/-- what stands at a cell that holds a value -/
def celHO (g : Heap) (b : Addr) : Option HO := match g.get? b with
  | some o => (match o.data with
    | .cell (some _) => some (FnO b o)
    | _ => none)
  | none => none
open Classical in
noncomputable def addC (X : Cx) (g : Heap) (H : Hp) : Hp := fun b => if KC X b then celHO g b else H b
open Classical in
noncomputable def remC (X : Cx) (H : Hp) : Hp := fun b => if KC X b then none else H b
section
variable {X : Cx} {g : Heap} {H : Hp} {b : Addr}
theorem addC_in (h : KC X b) : addC X g H b = celHO g b := by unfold addC; rw [if_pos h]
theorem addC_out (h : ¬ KC X b) : addC X g H b = H b := by unfold addC; rw [if_neg h]
theorem remC_in (h : KC X b) : remC X H b = none := by unfold remC; rw [if_pos h]
theorem remC_out (h : ¬ KC X b) : remC X H b = H b := by unfold remC; rw [if_neg h]
theorem celHO_some {o : HO} (e : celHO g b = some o) : ∃ ob, g.get? b = some ob ∧ o = FnO b ob ∧ ∃ u, ob.data = .cell (some u) := by
  unfold celHO at e
  cases q : g.get? b with
  | none => rw [q] at e; cases e
  | some ob =>
    rw [q] at e
    obtain ⟨c1, c2, c3, c4⟩ := ob
    cases c3 with
    | cell z =>
      cases z with
      | none => cases e
      | some u => exact ⟨_, rfl, (Option.some.inj e).symm, u, rfl⟩
    | _ => cases e
theorem celHO_of {ob : Obj} {u : Value} (e : g.get? b = some ob) (d : ob.data = .cell (some u)) : celHO g b = some (FnO b ob) := by
  unfold celHO
  rw [e]
  show (match ob.data with | .cell (some _) => some (FnO b ob) | _ => none) = _
  rw [d]
end
/-- what a caller asks of a call with its cells tracked -/
def callCK (X : Cx) (sp : Sp) (σ : L2.St) (Q : VK) : List V → Hp → Prop := fun vs H1 => ∀ H3 : Hp, (∀ b o, H1 b = some o → H3 b = some o) →
  (∀ (i : Nat) x v, X.N[i]? = some x → X.env.scope.names.lookup x = some .cell → σ[i]? = some (some v) → ∃ o, H3 (kapA X x) = some (FnO (kapA X x) o) ∧ IsCel o v) →
  sp vs H3 (fun v H4 => (∀ b o, H3 b = some (FnO b o) → H4 b = some (FnO b o)) ∧ ∀ H5 : Hp, (∀ b, H1 b ≠ none → H5 b = H4 b) → (∀ b, H3 b = none → H5 b = H4 b) → Q v H5) E0
def tCallC (X : Cx) (sp : Sp) (t : TA) : TE := fun σ H Q => t σ H (callCK X sp σ Q)
theorem run_fnC {X : Cx} {k : Nat} {f : Addr} {fd : FuncData} {ps : List Str} {sp : Sp} {pins : List (Addr × Obj)} {σ : L2.St} {H : Hp} {s : Shared} {Q : VK} {us : List Value} {vs : List V} (F : FnOk X.prog X.w X.K X.mg X.base (L2.CX X.prog X.w) k f fd ps sp) (hr : Room k X.A) (hb : Binds X.K fd ps [])
    (hfn : ∀ x, X.fn x = true) (I : Inv X pins σ H s) (r : Vals vs us) (h : callCK X sp σ Q vs H) : wpAny (model X.prog X.w) X.A (PySem.call (.ref f) us) (EP X pins σ Q) X.xe s := by
  have cellAt : ∀ {b : Addr}, KC X b → ∃ ob v, s.heap.get? b = some ob ∧ ob.data = .cell v := fun {b} ⟨x, e⟩ => by
    obtain ⟨v, ob, h1, h2⟩ := I.cell x b e
    exact ⟨ob, v, h1, h2⟩
  have isNone : ∀ {b : Addr}, KC X b → H b = none := fun ⟨x, e⟩ => I.freeC x _ e
  have young : ∀ {b : Addr}, KC X b → X.s_0.heap.objs.size ≤ b := fun ⟨x, e⟩ => I.ok.cab x _ (hfn x) e
  have noFr : ∀ b ∈ frs X.stack, ¬ KC X b := fun b hb hk => by
    rcases List.mem_cons.mp (I.stkSub b hb) with e | hb
    · obtain ⟨m, hn, _⟩ := I.loc
      obtain ⟨ob, v, h1, h2⟩ := cellAt hk
      rw [e] at h1
      obtain ⟨od, es, ep, e2, dd, _⟩ := hn
      rw [h1] at e2
      obtain rfl := Option.some.inj e2
      rw [h2] at dd
      cases dd
    · obtain ⟨_, o, ho, _⟩ := I.ok.funs.mem hb
      exact Nat.lt_irrefl _ (Nat.lt_of_lt_of_le (Heap.lt_size ho) (young hk))
  have e0 := I.env0
  have up : ∀ b o, H b = some o → addC X s.heap H b = some o := fun b o e => by
    rw [addC_out fun hk => by rw [isNone hk] at e; cases e]
    exact e
  have hok3 : HOk X.prog X.w (addC X s.heap H) s.heap := fun b o e => by
    by_cases hk : KC X b
    · rw [addC_in hk] at e
      obtain ⟨ob, e1, rfl, _⟩ := celHO_some e
      exact fnO_ok e1
    · rw [addC_out hk] at e
      exact (I.hok b o e).stay (fun _ _ _ q => q) (fun d q => up _ _ q) fun d xs q => up _ _ q
  have e3 : Env0 X.prog X.w X.K X.mg X.base X.A X.stack s (addC X s.heap H) := ⟨e0.frames, e0.mod, fun b o e => ⟨(e0.bs b o e).1, by
      rw [addC_out fun hk => ?_]
      · exact (e0.bs b o e).2
      · exact Nat.lt_irrefl _ (Nat.lt_of_lt_of_le (Nat.lt_of_lt_of_le (Heap.lt_size e) I.ok.bsz) (young hk))⟩, e0.bsz, e0.funs, fun b hb => by rw [addC_out (noFr b hb)]; exact e0.frf b hb, hok3, e0.bare⟩
  have h3 := h (addC X s.heap H) up fun i x v hi hx hv => ?_
  · have hl : us.length = ps.length := by rw [← r.length]; exact F.len _ _ _ _ h3
    refine wpAny_call (codeAny_mono (F.run X.A X.stack s _ ⟨us, []⟩ us vs _ E0 hr e3 (by simpa using hb s us I.kIn (by simpa using hl)) r h3) fun r s' hq => ?_)
    cases r with
    | error e => exact passL (X := X) pins σ _ s e s' I (by
        obtain ⟨_, _, _, _, _, _, _, _, _, _, _, _, z⟩ := hq
        exact z.elim)
    | ok fl =>
      cases fl with
      | next => exact False.elim hq
      | brk => exact False.elim hq
      | cont => exact False.elim hq
      | ret u =>
        obtain ⟨v, H4, os, bare, un, hok4, rv, kp4, q⟩ := hq
        have outN : ∀ b, KC X b → addC X s.heap H b = none → H4 b = none := fun b hk e => by
          obtain ⟨ob, _, h1, _⟩ := cellAt hk
          exact un.free b ob h1 e (by simp)
        refine I.after (Q := Q) ⟨v, remC X H4, os, bare, ⟨fun b o e n x y => ?_, fun b o e n x y => ?_, fun b o e n y => ?_, un.there, fun b xs e => ?_, fun b o w e => ?_, fun b ps e => ?_⟩, fun b o e => ?_, rv, q _ (fun b n => ?_) fun b n => ?_⟩
        · by_cases hk : KC X b
          · cases z : addC X s.heap H b with
            | none => exact un.keep b o e z x y
            | some ho =>
              rw [addC_in hk] at z
              obtain ⟨ob, z1, rfl, _⟩ := celHO_some z
              rw [e] at z1
              obtain rfl := Option.some.inj z1
              exact fnO_get hok4 (kp4 b o (by rw [addC_in hk]; exact z))
          · exact un.keep b o e (by rw [addC_out hk]; exact n) x y
        · exact un.slot b o e (by rw [addC_out (noFr b x)]; exact n) x y
        · by_cases hk : KC X b
          · exact remC_in hk
          · rw [remC_out hk]
            exact un.free b o e (by rw [addC_out hk]; exact n) y
        · have hk : ¬ KC X b := fun hk => by rw [isNone hk] at e; cases e
          rw [remC_out hk]
          exact un.tups b xs (up _ _ e)
        · have hk : ¬ KC X b := fun hk => by rw [isNone hk] at e; cases e
          rw [remC_out hk]
          exact un.frzs b o w (up _ _ e)
        · have hk : ¬ KC X b := fun hk => by rw [isNone hk] at e; cases e
          rw [remC_out hk]
          exact un.tbls b ps (up _ _ e)
        · by_cases hk : KC X b
          · rw [remC_in hk] at e
            cases e
          · rw [remC_out hk] at e
            have still : ∀ (d : Addr) (w : HO), H4 d = some w → (∀ φ, w ≠ .ext φ) → remC X H4 d = some w := fun d w z ne => by
              rw [remC_out fun hd => ?_]
              · exact z
              · cases zz : addC X s.heap H d with
                | none => rw [outN d hd zz] at z; cases z
                | some ho =>
                  rw [addC_in hd] at zz
                  obtain ⟨ob, _, rfl, _⟩ := celHO_some zz
                  rw [kp4 d ob (by rw [addC_in hd]; exact zz)] at z
                  exact ne _ (Option.some.inj z).symm
            exact (hok4 b o e).stay (fun _ _ _ q => q) (fun d z => still d _ z fun φ y => by cases y) fun d xs z => still d _ z fun φ y => by cases y
        · rw [remC_out fun hk => n (isNone hk)]
        · by_cases hk : KC X b
          · rw [remC_in hk, outN b hk n]
          · rw [remC_out hk]
  · obtain ⟨m, _, hl⟩ := I.loc
    obtain ⟨u, r, z⟩ := hl i x v hi hv (.inr (.inl hx))
    rcases z with ⟨z, _⟩ | ⟨_, c, z1, ob, z2, z3⟩
    · have z : X.env.scope.names.lookup x = some .local := z
      rw [hx] at z
      cases z
    · have ka : kapA X x = c := by unfold kapA; rw [z1]; rfl
      rw [ka]
      exact ⟨ob, by rw [addC_in ⟨x, z1⟩]; exact celHO_of z2 z3, u, r, z3⟩
/-- x(e, ..), the cells tracked -/
theorem pe_callC {X : Cx} {k : Nat} {f : Addr} {fd : FuncData} {ps : List Str} {sp : Sp} {x : Str} {p pos : Pos} {e : Expr} {es : List Expr} {t : TA} (F : FnOk X.prog X.w X.K X.mg X.base (L2.CX X.prog X.w) k f fd ps sp) (hr : Room k X.A) (hg : Gl X x) (hm : X.mg x = some (.ref f)) (hk : PySem.W.keepIn X.K (.ref f) = true) (hb : Binds X.K fd ps []) (ha : PA X (e :: es) t)
    (hfn : ∀ x, X.fn x = true := by exact fun _ => rfl) (hdb : (x == ("__debug__" : Str)) = false := by decide) (he : starEach (e :: es) X.env = (false, eval e X.env) :: starEach es X.env := by rfl) (hpl : (backTo pos (starEach es X.env)).any (·.1) = false := by rfl) :
    PE X (.Call (.Name x p) (e :: es) [] pos) (tCallC X sp t) := by
  refine ⟨fun pins s σ H Q I h => wpAny_Call_Name_kw (ld_glob I hg hm ?_ hdb)⟩
  exact PySem.W.callWith_K (h₀ := X.base) I.ok.mod.kin hk (thn (ha.run pos pins s σ H _ I h) fun us s1 ⟨vs, H1, I1, r, q⟩ => ⟨I1.kIn, run_fnC F hr hb hfn I1 r q⟩) he hpl
end Cz
end Tk

/-! ### min(xs, default=d) of integers -/
namespace Tk
open PySem PySem.Spec PyProof.Rows L2
def rMinD (K : PySem.W.Frag) : List V → List V → Hp → VK → Prop := fun vs zs H Q => ∃ (a : Addr) (ns : List Int) (d : V), vs = [.ref a] ∧ zs = [d] ∧ SqL K H a (ns.map V.int) ∧ (ns = [] → Q d H) ∧ ∀ m, m ∈ ns → (∀ y, y ∈ ns → m ≤ y) → Q (.int m) H
theorem minOf_is : ∀ (xs : List Int) (x : Int), PySem.W.minOf x xs ∈ x :: xs ∧ ∀ y, y ∈ x :: xs → PySem.W.minOf x xs ≤ y
  | [], x => ⟨List.mem_cons_self, fun y h => by
      rcases List.mem_cons.mp h with rfl | h
      · exact Int.le_refl _
      · cases h⟩
  | z :: zs, x => by
    show (PySem.W.minOf (if PySem.W.DatumOrd.lt z x = true then z else x) zs) ∈ _ ∧ ∀ y, y ∈ x :: z :: zs → (PySem.W.minOf (if PySem.W.DatumOrd.lt z x = true then z else x) zs) ≤ y
    by_cases h : PySem.W.DatumOrd.lt z x = true
    · rw [if_pos h]
      have hz : z < x := by simpa [PySem.W.DatumOrd.lt] using h
      obtain ⟨a, b⟩ := minOf_is zs z
      refine ⟨List.mem_cons_of_mem _ a, fun y hy => ?_⟩
      rcases List.mem_cons.mp hy with rfl | hy
      · have := b z List.mem_cons_self
        omega
      · exact b y hy
    · rw [if_neg h]
      have hz : ¬ z < x := by simpa [PySem.W.DatumOrd.lt] using h
      obtain ⟨a, b⟩ := minOf_is zs x
      refine ⟨?_, fun y hy => ?_⟩
      · rcases List.mem_cons.mp a with e | e
        · rw [e]
          exact List.mem_cons_self
        · exact List.mem_cons_of_mem _ (List.mem_cons_of_mem _ e)
      · rcases List.mem_cons.mp hy with rfl | hy
        · exact b y List.mem_cons_self
        · rcases List.mem_cons.mp hy with rfl | hy
          · have := b x List.mem_cons_self
            omega
          · exact b y (List.mem_cons_of_mem _ hy)
section
variable {X : Cx}
theorem cr_minD (hc : X.calm = true) (hu : X.A.units + 64 < cLine) : CallRK X (.builtin "min") [Str.ofString "default"] (rMinD X.K) := by
  intro pins s σ H vs zs us ws Q I r rz h
  obtain ⟨a, ns, d, rfl, rfl, hs, q0, q1⟩ := h
  obtain ⟨its, rv, hl, _⟩ := I.list hs
  rw [Vals.ref1 r]
  obtain ⟨w1, rfl, e1⟩ := vals1 rz
  refine PySem.W.min_list_datum_default (α := Int) (xs := ns) (I.ok.hd hc) hl.isList (PySem.W.HoldAll.of_ints rv.ints) ?_ (fun e h' tk hk => ⟨d, H, I.kept hk, e1, q0 e⟩) fun y ys i v h' tk e hi hv hk => ?_
  · show X.A.units + 1 + _ < cLine
    have : PySem.W.Datum.depth Int ≤ 1 := by decide
    omega
  · subst e
    obtain ⟨m1, m2⟩ := minOf_is ys y
    have e : ∃ t, v = Value.int (PySem.W.minOf y ys) t := by
      have q := PySem.W.HoldAll.toInts (PySem.W.HoldAll.cons hv PySem.W.HoldAll.nil)
      cases q with
      | cons n t _ => exact ⟨t, rfl⟩
    exact ⟨.int _, H, I.kept hk, e, q1 _ m1 m2⟩
end
theorem minDK {X : Cx} {K : PySem.W.Frag} (hu : X.A.units + 64 < cLine) (hc : X.calm = true := by rfl) (hK : X.K = K := by rfl) : CallRK X (.builtin "min") [Str.ofString "default"] (rMinD K) := hK ▸ cr_minD hc hu
end Tk

section
local macro_rules | `(tactic| walk_at "hp") => `(tactic| first
  | assumption
  | with_reducible exact L2.upd_same
  | ((with_reducible refine' Tk.Same.get ?k0 ?k1); (case k0 => assumption); (case k1 => walk_at "hp"))
  | fail "hp")
local macro_rules | `(tactic| walk_at "same") => `(tactic| first
  | assumption
  | exact L2.Same.refl _
  | ((with_reducible refine' Tk.Same.nw ?k0 ?k1); (case k0 => assumption); (case k1 => walk_at "same"))
  | ((with_reducible refine' Tk.Same.tr ?k0 ?k1); (case k0 => assumption); (case k1 => walk_at "same")))
local macro_rules | `(tactic| walk_at "sql") => `(tactic| first
  | assumption
  | ((with_reducible refine' L2.SqL.of ?k0); (case k0 => walk_at "hp"))
  | ((with_reducible refine' L2.Same.seq ?k0 ?k1); (case k0 => assumption); (case k1 => walk_at "sql")))
local macro_rules | `(tactic| walk_at "sqt") => `(tactic| first
  | assumption
  | ((with_reducible refine' L2.SqT.of ?k0); (case k0 => walk_at "hp"))
  | ((with_reducible refine' Tk.sqt_sm ?k0 ?k1); (case k0 => assumption); (case k1 => walk_at "sqt")))
local macro_rules | `(tactic| walk_at "sz") => `(tactic| first
  | (show (_ : Nat) ≤ 1000; decide)
  | (simp; done)
  | (simp; omega))
local macro_rules | `(tactic| walk_at "szb") => `(tactic| first
  | assumption
  | (show (_ : Nat) ≤ 100000; decide)
  | (simp; done)
  | (simp; omega))
local macro_rules | `(tactic| walk_at "dp") => `(tactic| first
  | assumption
  | with_reducible exact L2.Dp.non
  | with_reducible exact L2.Dp.int _
  | with_reducible exact L2.Dp.str _
  | with_reducible exact L2.Dp.bl _
  | ((with_reducible refine' L2.Dp.lst ?k0 ?k1); (case k0 => walk_at "sql"); (case k1 => walk_at "dpa"))
  | ((with_reducible refine' L2.Dp.tup ?k0 ?k1); (case k0 => walk_at "sqt"); (case k1 => walk_at "dpa"))
  | ((with_reducible refine' Tk.dp_sm ?k0 ?k1); (case k0 => assumption); (case k1 => walk_at "dp"))
  | fail "dp")
local macro_rules | `(tactic| walk_at "dpa") => `(tactic| first
  | assumption
  | with_reducible exact L2.DpAll.nil
  | ((with_reducible refine' L2.DpAll.cons ?k0 ?k1); (case k0 => walk_at "dp"); (case k1 => walk_at "dpa"))
  | with_reducible exact Tk.dp_nats _
  | ((with_reducible refine' Tk.dpA_sm ?k0 ?k1); (case k0 => assumption); (case k1 => walk_at "dpa"))
  | fail "dpa")
local macro_rules | `(tactic| walk_at "ci") => `(tactic| first
  | exact .inl ⟨by decide, by decide⟩
  | exact .inr ⟨by decide, by decide⟩
  | exact .inl ⟨by omega, by omega⟩
  | exact .inr ⟨by omega, by omega⟩
  | exact ⟨by decide, by decide⟩
  | exact ⟨by omega, by omega⟩
  | (show (0 : Int) < _; decide)
  | (show (0 : Int) < _; omega))
local macro_rules | `(tactic| walk_at "rd1") => `(tactic| first
  | with_reducible refine Tk.Rd.seq ?_
  | with_reducible refine Tk.Rd.star ?_
  | with_reducible refine Tk.Rd.int1_i ?_
  | with_reducible refine Tk.Rd.int1_b ?_
  | with_reducible refine Tk.Rd.tlc2 ?_
  | with_reducible refine Tk.Rd.lrg3 ?_
  | with_reducible refine Tk.Rd.lrg ?_
  | with_reducible refine Tk.Rd.rg1 ?_
  | with_reducible refine Tk.Rd.rg1K_i ?_
  | with_reducible refine Tk.Rd.rg2 ?_
  | with_reducible refine Tk.Rd.rg2K_i ?_
  | ((with_reducible refine' Tk.Rd.catL ?k0 ?k1 ?k2 fun p H' np S hp => ?_); (case k0 => walk_at "hp"); (case k1 => walk_at "hp"); (case k2 => walk_at "szb"))
  | ((with_reducible refine' Tk.Rd.starK_t ?k0 ?_); (case k0 => walk_at "sqt"))
  | ((with_reducible refine' Tk.Rd.starK_l ?k0 ?_); (case k0 => walk_at "sql"))
  | ((with_reducible refine' Tk.Rd.var ?k0 ?_); (case k0 => exact rfl))
  | with_reducible refine Tk.Rd.c ?_
  | with_reducible refine Tk.Rd.op ?_
  | with_reducible refine Tk.Rd.i0 ?_
  | with_reducible refine Tk.Rd.asg ?_
  | with_reducible refine Tk.Rd.name ?_
  | with_reducible refine Tk.Rd.cons ?_
  | with_reducible refine Tk.Rd.nil ?_
  | with_reducible refine Tk.Rd.call ?_
  | with_reducible refine Tk.Rd.callK_i ?_
  | with_reducible refine Tk.Rd.tst ?_
  | with_reducible refine Tk.Rd.bv ?_
  | with_reducible refine Tk.Rd.toB_i ?_
  | with_reducible refine Tk.Rd.ift ?_
  | with_reducible refine Tk.Rd.iff ?_
  | with_reducible refine Tk.Rd.ifnt ?_
  | with_reducible refine Tk.Rd.ifnf ?_
  | with_reducible refine Tk.Rd.not ?_
  | with_reducible refine Tk.Rd.and ?_
  | with_reducible refine Tk.Rd.or ?_
  | with_reducible refine Tk.Rd.andV ?_
  | with_reducible refine Tk.Rd.andK_i ?_
  | with_reducible refine Tk.Rd.orV ?_
  | with_reducible refine Tk.Rd.orK_i ?_
  | with_reducible refine Tk.Rd.notV ?_
  | with_reducible refine Tk.Rd.notK_i ?_
  | with_reducible refine Tk.Rd.tif ?_
  | with_reducible refine Tk.Rd.yes ?_
  | with_reducible refine Tk.Rd.tfor ?_
  | with_reducible refine Tk.Rd.tlc ?_
  | with_reducible refine Tk.Rd.rng ?_
  | ((with_reducible refine' Tk.Rd.rngK_n ?k0 ?_); (case k0 => first | decide | omega))
  | ((with_reducible refine' Tk.Rd.rngK_lit ?k0 ?_); (case k0 => decide))
  | with_reducible refine Tk.Rd.rng2 ?_
  | with_reducible refine Tk.Rd.rng3 ?_
  | with_reducible refine Tk.Rd.ilist ?_
  | with_reducible refine Tk.Rd.zip ?_
  | with_reducible refine Tk.Rd.itup ?_
  | ((with_reducible refine' Tk.Rd.listK_i ?k0 ?_); (case k0 => walk_at "sql"))
  | ((with_reducible refine' Tk.Rd.ituK_i ?k0 ?_); (case k0 => walk_at "sqt"))
  | with_reducible refine Tk.Rd.chain ?_
  | with_reducible refine Tk.Rd.chainL_i ?_
  | with_reducible refine Tk.Rd.un ?_
  | with_reducible refine Tk.Rd.u1 ?_
  | ((with_reducible refine' Tk.Rd.i1 ?k0 ?_); (case k0 => walk_at "ci"))
  | ((with_reducible refine' Tk.Rd.eq ?k0 ?_); (case k0 => exact rfl))
  | ((with_reducible refine' Tk.Rd.ne ?k0 ?_); (case k0 => exact rfl))
  | with_reducible refine Tk.Rd.isN ?_
  | with_reducible refine Tk.Rd.notN ?_
  | with_reducible refine Tk.Rd.fld ?_
  | with_reducible refine Tk.Rd.meth ?_
  | with_reducible refine Tk.Rd.prop ?_
  | with_reducible refine Tk.Rd.cb ?_
  | with_reducible refine Tk.Rd.bm ?_
  | with_reducible refine Tk.Rd.m0 ?_
  | with_reducible refine Tk.Rd.m0K_i ?_
  | with_reducible refine Tk.Rd.m1 ?_
  | with_reducible refine Tk.Rd.m1K_i ?_
  | with_reducible refine Tk.Rd.tup ?_
  | ((with_reducible refine' Tk.Rd.tupK_i ?k0 fun p H' np S hp => ?_); (case k0 => walk_at "sz"))
  | with_reducible refine Tk.Rd.lst ?_
  | ((with_reducible refine' Tk.Rd.lstK_i ?k0 fun p H' np S hp => ?_); (case k0 => walk_at "sz"))
  | ((with_reducible refine' Tk.Rd.ixF ?k0 ?k1 ?_); (case k0 => walk_at "hp"); (case k1 => omega))
  | ((with_reducible refine' Tk.Rd.ixF1 ?k0 ?k1 ?_); (case k0 => walk_at "hp"); (case k1 => omega))
  | ((with_reducible refine' Tk.Rd.ixT ?k0 ?k1 ?_); (case k0 => walk_at "sqt"); (case k1 => exact rfl))
  | ((with_reducible refine' Tk.Rd.ixL ?k0 ?k1 ?_); (case k0 => walk_at "sql"); (case k1 => exact rfl))
  | ((with_reducible refine' Tk.Rd.lenL ?k0 ?_); (case k0 => walk_at "sql"))
  | ((with_reducible refine' Tk.Rd.lenT ?k0 ?_); (case k0 => walk_at "sqt"))
  | ((with_reducible refine' Tk.Rd.lenS ?k0 ?_); (case k0 => first | assumption | omega | (simp; omega)))
  | ((with_reducible refine' Tk.Rd.slTr ?k0 fun p H' S hp => ?_); (case k0 => walk_at "hp"))
  | ((with_reducible refine' Tk.Rd.slT ?k0 fun p H' S hq => ?_); (case k0 => walk_at "sqt"))
  | ((with_reducible refine' Tk.Rd.catTr ?k0 ?k1 ?k2 fun p H' S hp => ?_); (case k0 => walk_at "hp"); (case k1 => walk_at "hp"); (case k2 => walk_at "sz"))
  | ((with_reducible refine' Tk.Rd.catA ?k0 ?k1 ?k2 ?k3 ?k4 fun p H' np S hp => ?_); (case k0 => walk_at "sqt"); (case k1 => walk_at "sqt"); (case k2 => simp); (case k3 => simp); (case k4 => first | (simp; done) | (simp; omega)))
  | with_reducible refine Tk.Rd.make ?_
  | ((with_reducible refine' Tk.Rd.tplL ?k0 fun q H' nq S hq => ?_); (case k0 => walk_at "sql"))
  | ((with_reducible refine' Tk.Rd.lstL ?k0 fun q H' nq S hq => ?_); (case k0 => walk_at "sql"))
  | ((with_reducible refine' Tk.Rd.lstT ?k0 fun q H' nq S hq => ?_); (case k0 => walk_at "sqt"))
  | ((with_reducible refine' Tk.Rd.join ?k0 ?k1 ?_); (case k0 => walk_at "sql"); (case k1 => first | assumption | omega))
  | with_reducible refine Tk.Rd.mx ?_
  | with_reducible refine Tk.Rd.mn ?_
  | with_reducible refine Tk.Rd.noPart ?_
  | with_reducible refine Tk.Rd.part ?_
  | with_reducible refine Tk.Rd.partK_i ?_
  | with_reducible refine Tk.Rd.slc ?_
  | ((with_reducible refine' Tk.Rd.gtup ?k0 ?k1 ?_); (case k0 => walk_at "sqt"); (case k1 => exact rfl))
  | ((with_reducible refine' Tk.Rd.glst ?k0 ?k1 ?_); (case k0 => walk_at "sql"); (case k1 => exact rfl))
  | with_reducible refine Tk.Rd.gcons ?_
  | with_reducible refine Tk.Rd.gnil ?_
  | with_reducible refine Tk.Rd.next ?_
  | with_reducible refine Tk.Rd.drop ?_
  | with_reducible refine Tk.Rd.ret ?_
  | with_reducible refine Tk.Rd.retN ?_
  | with_reducible refine Tk.Rd.par ?_
  | with_reducible refine Tk.Rd.parK_i ?_
  | with_reducible refine Tk.Rd.par3 ?_
  | with_reducible refine Tk.Rd.par3K_i ?_
  | ((with_reducible refine' Tk.Rd.aug ?k0 ?_); (case k0 => exact rfl))
  | with_reducible refine Tk.Rd.ip ?_
  | ((with_reducible refine' Tk.Rd.bmK_l ?k0 ?_); (case k0 => walk_at "sql"))
  | ((with_reducible refine' Tk.Rd.addS ?k0 ?_); (case k0 => walk_at "sz"))
  | fail "rd1")
local macro_rules | `(tactic| walk_at "rd1i") => `(tactic| first
  | walk_at "rd1"
  | with_reducible refine Tk.Rd.ifS ?_
  | fail "rd1i")
local macro_rules | `(tactic| walk_at "rd") => `(tactic| (repeat' walk_at "rd1i"))
local macro_rules | `(tactic| walk_at "rs") => `(tactic| ((repeat' walk_at "rd1"); (try dsimp only)))
local macro_rules | `(tactic| walk_at "hall") => `(tactic| first
  | assumption
  | ((with_reducible refine' Tk.HallAt.sm ?k0 ?k1); (case k0 => assumption); (case k1 => walk_at "hall"))
  | fail "hall")
local macro_rules | `(tactic| walk_at "parts") => `(tactic| first
  | assumption
  | ((with_reducible refine' Tk.PartsAt.sm ?k0 ?k1); (case k0 => assumption); (case k1 => walk_at "parts"))
  | fail "parts")
local macro_rules | `(tactic| walk_at "sm") => `(tactic| first
  | assumption
  | exact Tk.Sm.int rfl
  | exact Tk.Sm.flat1 rfl
  | ((with_reducible refine' Tk.Sm.sm ?k0 ?k1); (case k0 => assumption); (case k1 => walk_at "sm"))
  | fail "sm")
local macro_rules | `(tactic| walk_at "rd1") => `(tactic| first
  | ((with_reducible refine' Tk.Rd.f_modulus ?k0 ?k1 ?_); (case k0 => assumption); (case k1 => walk_at "hall"))
  | ((with_reducible refine' Tk.Rd.f_lateness ?k0 ?k1 ?_); (case k0 => assumption); (case k1 => walk_at "hall"))
  | ((with_reducible refine' Tk.Rd.f_takes ?k0 ?k1 fun tp htp => ?_); (case k0 => assumption); (case k1 => walk_at "hall"))
  | ((with_reducible refine' Tk.Rd.f_calls ?k0 ?k1 fun cp hcp => ?_); (case k0 => assumption); (case k1 => walk_at "hall"))
  | ((with_reducible refine' Tk.Rd.h_meth ?k0 ?k1 ?_); (case k0 => walk_at "hall"); (case k1 => decide +kernel))
  | ((with_reducible refine' Tk.Rd.h_prop ?k0 ?_); (case k0 => walk_at "hall"))
  | ((with_reducible refine' Tk.Rd.h_taken0 ?k0 fun H' S => ?_); (case k0 => walk_at "hall"))
  | ((with_reducible refine' Tk.Rd.h_taken1 ?k0 fun H' S => ?_); (case k0 => walk_at "hall"))
  | ((with_reducible refine' Tk.Rd.h_takenL ?k0 fun H' S => ?_); (case k0 => walk_at "hall"))
  | ((with_reducible refine' Tk.Rd.h_called0 ?k0 ?_); (case k0 => walk_at "hall"))
  | ((with_reducible refine' Tk.Rd.h_called1 ?k0 ?_); (case k0 => walk_at "hall"))
  | ((with_reducible refine' Tk.Rd.h_calledL ?k0 ?_); (case k0 => walk_at "hall"))
  | ((with_reducible refine' Tk.Rd.h_waiting ?k0 ?k1 fun H' S => ?_); (case k0 => walk_at "hall"); (case k1 => omega))
  | ((with_reducible refine' Tk.Rd.h_growth ?k0 fun H' S => ?_); (case k0 => walk_at "hall"))
  | ((with_reducible refine' Tk.Rd.h_period ?k0 ?_); (case k0 => walk_at "hall"))
  | ((with_reducible refine' Tk.Rd.h_lhall ?k0 fun h lp H' nh nl S hA => ?_); (case k0 => walk_at "parts"))
  | ((with_reducible refine' Tk.Rd.h_length ?k0 ?_); (case k0 => walk_at "parts"))
  | ((with_reducible refine' Tk.Rd.h_counts ?k0 ?k1 fun r a b H' nr na nb nab S hr ha hb => ?_); (case k0 => walk_at "parts"); (case k1 => omega))
  | ((with_reducible refine' Tk.Rd.h_countsL ?k0 ?k1 fun r a b H' nr na nb nab S hr ha hb => ?_); (case k0 => walk_at "parts"); (case k1 => decide))
  | ((with_reducible refine' Tk.Rd.h_make ?k0 ?k1 ?k2 fun h lp H' nh nl S hA => ?_); (case k0 => assumption); (case k1 => walk_at "hp"); (case k2 => walk_at "hp"))
  | ((with_reducible refine' Tk.Rd.p_0 ?k0 ?_); (case k0 => walk_at "parts"))
  | ((with_reducible refine' Tk.Rd.p_1 ?k0 fun htp => ?_); (case k0 => walk_at "parts"))
  | ((with_reducible refine' Tk.Rd.p_2 ?k0 fun hcp => ?_); (case k0 => walk_at "parts"))
  | ((with_reducible refine' Tk.Rd.p_3 ?k0 ?_); (case k0 => walk_at "parts"))
  | fail "rd1")
local macro_rules | `(tactic| walk_at "sqt") => `(tactic| first | ((with_reducible refine' Tk.PartsAt.sq ?k0); (case k0 => walk_at "parts")) | fail "sqt")
local macro_rules | `(tactic| walk_at "free") => `(tactic| first
  | assumption
  | ((with_reducible refine' Tk.Same.fr ?k0 ?k1); (case k0 => assumption); (case k1 => walk_at "free")))
local macro_rules | `(tactic| walk_at "hp") => `(tactic| first
  | ((with_reducible refine' Tk.But.gt ?k0 ?k1 ?k2); (case k0 => assumption); (case k1 => assumption); (case k2 => walk_at "hp"))
  | ((with_reducible refine' Tk.But.gl ?k0 ?k1 ?k2); (case k0 => assumption); (case k1 => assumption); (case k2 => walk_at "hp"))
  | fail "hp")
local macro_rules | `(tactic| walk_at "hall") => `(tactic| first | ((with_reducible refine' Tk.HallAt.bt ?k0 ?k1 ?k2 ?k3); (case k0 => assumption); (case k1 => assumption); (case k2 => assumption); (case k3 => walk_at "hall")) | fail "hall")
local macro_rules | `(tactic| walk_at "parts") => `(tactic| first | ((with_reducible refine' Tk.PartsAt.bt ?k0 ?k1 ?k2); (case k0 => assumption); (case k1 => assumption); (case k2 => walk_at "parts")) | fail "parts")
local macro_rules | `(tactic| walk_at "rd1") => `(tactic| first
  | ((with_reducible refine' Tk.Rd.h_below ?k0 ?k1 ?k2 ?k3 fun r H' cs hr B hd hcs => ?_); (case k0 => walk_at "hp"); (case k1 => assumption); (case k2 => first | decide | omega); (case k3 => first | decide | omega))
  | ((with_reducible refine' Tk.Rd.h_parts ?k0 ?k1 ?k2 ?k3 fun t tp cp m lt tk cl H' cs nt B hd hcs hP l1 l2 => ?_); (case k0 => walk_at "hp"); (case k1 => assumption); (case k2 => first | decide | omega); (case k3 => first | decide | omega))
  | ((with_reducible refine' Tk.Rd.h_partsL ?k0 ?k1 ?k2 ?k3 fun t tp cp m lt tk cl H' cs nt B hd hcs hP l1 l2 => ?_); (case k0 => walk_at "hp"); (case k1 => assumption); (case k2 => first | decide | omega); (case k3 => first | decide | omega))
  | ((with_reducible refine' Tk.Rd.h_small ?k0 ?k1 fun t tp cp m lt tk cl H' cs nt B hd hcs hP m1 l1 l2 l3 => ?_); (case k0 => walk_at "hp"); (case k1 => assumption))
  | ((with_reducible refine' Tk.Rd.h_tick ?k0 ?k1 fun t H' cs ht B hd hcs => ?_); (case k0 => walk_at "hp"); (case k1 => assumption))
  | ((with_reducible refine' Tk.Rd.h_mo ?k0 fun v H' S hv => ?_); (case k0 => walk_at "hall"))
  | ((with_reducible refine' Tk.Rd.h_lc ?k0 fun v H' S hv => ?_); (case k0 => walk_at "hall"))
  | ((with_reducible refine' Tk.Rd.h_lm ?k0 fun v H' S hv => ?_); (case k0 => walk_at "hall"))
  | ((with_reducible refine' Tk.Rd.h_gl ?k0 fun v H' S hv => ?_); (case k0 => walk_at "hall"))
  | ((with_reducible refine' Tk.Rd.h_ot ?k0 ?k1 fun r H' nr S hr => ?_); (case k0 => walk_at "hall"); (case k1 => first | assumption | omega))
  | ((with_reducible refine' Tk.Rd.h_most2 ?k0 fun v H' S hv => ?_); (case k0 => walk_at "parts"))
  | ((with_reducible refine' Tk.Rd.h_opens2L ?k0 ?k1 fun l ys H' nl S hl hlen hR => ?_); (case k0 => walk_at "parts"); (case k1 => decide))
  | ((with_reducible refine' Tk.Rd.h_opens2 ?k0 ?k1 fun l ys H' nl S hl hlen hR => ?_); (case k0 => walk_at "parts"); (case k1 => first | decide | omega))
  | fail "rd1")
local macro_rules | `(tactic| walk_at "ok") => `(tactic| first
  | assumption
  | ((with_reducible refine' Tk.HallAt.ok ?k0); (case k0 => walk_at "hall"))
  | ((with_reducible refine' Tk.PartsAt.ok ?k0); (case k0 => walk_at "parts"))
  | fail "ok")
local macro_rules | `(tactic| walk_at "sml") => `(tactic| first
  | exact Tk.Sml.ints (by walk_at "szb")
  | exact Tk.Sml.intsT (by walk_at "szb")
  | trivial
  | (simp [Tk.Sml]; done)
  | (simp [Tk.Sml]; omega)
  | fail "sml")
local macro_rules | `(tactic| walk_at "rd1") => `(tactic| first
  | ((with_reducible refine' Tk.Rd.nT ?k0 ?_); (case k0 => with_reducible exact rfl))
  | ((with_reducible refine' Tk.Rd.dT ?k0 ?_); (case k0 => with_reducible exact rfl))
  | with_reducible refine Tk.Rd.nF Tk.Rd.int_non ?_
  | with_reducible refine Tk.Rd.nF Tk.Rd.ref_non ?_
  | with_reducible refine Tk.Rd.dF Tk.Rd.int_non ?_
  | with_reducible refine Tk.Rd.dF Tk.Rd.ref_non ?_
  | ((with_reducible refine' Tk.Rd.h_disp ?k0 ?k1 ?_); (case k0 => first | assumption | omega); (case k1 => walk_at "hall"))
  | ((with_reducible refine' Tk.Rd.h_hold ?k0 ?k1 ?k2 ?k3 fun l H' nl S hl => ?_); (case k0 => walk_at "hall"); (case k1 => first | assumption | omega); (case k2 => first | assumption | omega); (case k3 => first | assumption | omega))
  | ((with_reducible refine' Tk.Rd.h_mis ?k0 ?k1 ?k2 fun l ys H' nl S hl hd => ?_); (case k0 => walk_at "hall"); (case k1 => first | assumption | omega); (case k2 => first | assumption | omega))
  | ((with_reducible refine' Tk.Rd.h_enc ?k0 fun l H' nl S hl => ?_); (case k0 => walk_at "hall"))
  | ((with_reducible refine' Tk.Rd.h_dec ?k0 ?k1 fun h lp H' nh nl S hA => ?_); (case k0 => walk_at "hp"); (case k1 => walk_at "ok"))
  | ((with_reducible refine' Tk.Rd.h_text ?k0 fun H' S => ?_); (case k0 => walk_at "hall"))
  | ((with_reducible refine' Tk.Rd.h_eqd ?k0 ?k1 ?k2 fun H' S => ?_); (case k0 => walk_at "dp"); (case k1 => walk_at "dp"); (case k2 => walk_at "sml"))
  | ((with_reducible refine' Tk.Rd.eqd ?k0 ?k1 ?k2 ?k3 ?_); (case k0 => walk_at "dp"); (case k1 => walk_at "dp"); (case k2 => walk_at "sml"); (case k3 => walk_at "sml"))
  | ((with_reducible refine' Tk.Rd.ned ?k0 ?k1 ?k2 ?k3 ?_); (case k0 => walk_at "dp"); (case k1 => walk_at "dp"); (case k2 => walk_at "sml"); (case k3 => walk_at "sml"))
  | fail "rd1")
/-! ### first_excess -/
namespace Tk
open PySem PySem.Spec PyProof.Rows L2 Mm LamX Cz
namespace Rd
variable {σ : L2.St} {H : Hp} {Q : VK} {te : TA} {obj : Obj} {R : V → Hp → VK → Prop}
def actK (f : Addr) (obj : Obj) (R : V → Hp → VK → Prop) (Q : VK) : List V → Hp → Prop := fun vs H1 => ∃ y, vs = [y] ∧ H1 f = some (FnO f obj) ∧ R y H1 Q
theorem act {i : Nat} {f : Addr} (hs : σ[i]? = some (some (.ref f))) (hf : H f = some (FnO f obj)) (k : te σ H (actK f obj R Q)) : tAct i obj R te σ H Q := ⟨f, hs, hf, k⟩
theorem actK_i {f : Addr} {y : V} (hf : H f = some (FnO f obj)) (k : R y H Q) : actK f obj R Q [y] H := ⟨y, rfl, hf, k⟩
theorem ckw {r : List V → List V → Hp → VK → Prop} {t tk : TA} (k : t σ H fun vs H1 => tk σ H1 fun zs H2 => r vs zs H2 Q) : tCKw r t tk σ H Q := k
end Rd
/-- the ticks that stand for later ones -/
def laterT (tk cl : List Nat) (ns : List Nat) (st : Nat) (ex : Nat → Int) : List Int :=
  ((List.range ns.length).filter fun i => decide (st ≤ ns.getD i 0)).map fun i => (ns.getD i 0 : Int) + (per tk cl : Int) * (-(ex (ns.getD i 0)) / (grow tk cl : Int) + 1)
inductive FeV (tk cl : List Nat) (ns : List Nat) (st : Nat) (ex : Nat → Int) : V → Prop where
  | first (i n : Nat) (h : ns[i]? = some n) (h0 : 0 < ex n) (hb : ∀ j k, j < i → ns[j]? = some k → ex k ≤ 0) : FeV tk cl ns st ex (vn n)
  | none (hb : ∀ k ∈ ns, ex k ≤ 0) (g : grow tk cl = 0) : FeV tk cl ns st ex .non
  | never (hb : ∀ k ∈ ns, ex k ≤ 0) (g : 0 < grow tk cl) (h : laterT tk cl ns st ex = []) : FeV tk cl ns st ex .non
  | later (hb : ∀ k ∈ ns, ex k ≤ 0) (g : 0 < grow tk cl) (m : Int) (h : m ∈ laterT tk cl ns st ex) (hm : ∀ y ∈ laterT tk cl ns st ex, m ≤ y) : FeV tk cl ns st ex (.int m)
section
variable {P : Program} {w : World} {K : PySem.W.Frag} {mg : Str → Option Value} {base : Heap}
def spFe (P : Program) (w : World) (K : PySem.W.Frag) (mg : Str → Option Value) (base : Heap) (C : Addr) : Sp := fun vs H Q _ => ∃ (h lp ts f : Addr) (m lt st : Nat) (tk cl ns : List Nat) (fd : FuncData) (R : V → Hp → VK → Prop) (ex : Nat → Int),
  vs = [.ref h, .ref ts, vn st, .ref f] ∧ HallAt C H h m tk cl lt lp ∧ H ts = some (.lst (ns.map vn)) ∧ ns.length ≤ 1000 ∧ (∀ n ∈ ns, n ≤ 1000 ∧ -1000000 ≤ ex n ∧ ex n ≤ 1000000) ∧ H f = some (FnO f { cls := .type "function", data := .func fd }) ∧
  LamOk P w K mg base 6 { cls := .type "function", data := .func fd } R ∧ (∀ n ∈ ns, ∀ H' Q', Same H H' → (∀ H'', Same H' H'' → Q' (.int (ex n)) H'') → R (vn n) H' Q') ∧ ∀ v H', Same H H' → FeV tk cl ns st ex v → Q v H'
theorem ok_first_excess (T : Txt K mg) : OkF P w K mg base 8 (He.ga K "first_excess") ["hall", "ticks", "steady", "excess"] (spFe P w K mg base (He.ga K "Hall")) := by
  have G_growth : OkF P w K mg base 5 (getAt K (He.ga K "Hall") "growth") ["self"] (spGrowth (He.ga K "Hall")) := ok_growth T
  have G_period : OkF P w K mg base 1 (getAt K (He.ga K "Hall") "period") ["self"] (spPeriod (He.ga K "Hall")) := ok_period T
  refine FnP.okF T.f_first_excess sc_first_excess (fun _ _ _ _ _ _ us hl => match us, hl with | [_, _, _, _], _ => rfl) (fun vs H Q E h => ?_) (fun cdv A outer s H vs Q E hr h => ?_)
  · obtain ⟨h, lp, ts, f, m, lt, st, tk, cl, ns, fd, R, ex, rfl, _⟩ := h
    rfl
  obtain ⟨h, lp, ts, f, m, lt, st, tk, cl, ns, fd, R, ex, rfl, hA, hts, hn, hns, hf, LO, hR, k⟩ := h
  refine ⟨_, (pss_cons (ps_for own_cx rfl (pi_listK (K := K) (pv 1)) (pg_name (i := 4) sc_first_excess.nd rfl (Or.inl rfl))
      (pss_one (ps_if (pt_cmpR op_gt (Cz.pe_actC (i := 3) LO rfl (hr.mono (by decide)) rfl (by first | exact Or.inl rfl | exact Or.inr (Or.inl rfl) | exact Or.inr (Or.inr rfl)) (pa_cons (pv 4) pa_nil)) pe_int (nomark _)) (pss_one (ps_ret (pv 4))) pss_nil)))
    (pss_cons (ps_set (i := 5) sc_first_excess.nd rfl (Or.inr rfl) (pe_prop (pv 0) T.cl_Hall T.p_growth G_growth.one (hr.mono (by decide)) G_growth.two .nil passL (by rfl)))
    (pss_cons (ps_if (pt_cmpR op_eq (pv 5) pe_int (nomark _)) (pss_one (ps_ret pe_non)) pss_nil)
    (pss_cons (ps_setLc (i := 6) (own := [("tick", 4)]) (g := gName 4) (tt := _) (by rfl) sc_first_excess.nd rfl rfl (sw_true rfl rfl rfl (by decide +kernel)) (pi_listK (K := K) (pv 1)) (blkOk_by (own := [("tick", 4)]) (N := N_first_excess) (sc := (defScope s_first_excess)) (by decide +kernel)) (fun _ _ _ _ _ => pg_name (i := 4) sc_first_excess.nd rfl (Or.inl rfl)) (fun _ _ _ _ _ => (pts_one (pt_cmpR op_ge (pv 4) (pv 2) (nomark _)))) (fun _ _ _ _ _ => (pe_op op_add (pv 4) (pe_op op_mul (pe_prop (pv 0) T.cl_Hall T.p_period G_period.one (hr.mono (by decide)) G_period.two .nil passL (by rfl)) (pe_op op_add (pe_op op_fdiv (pe_un un_neg (Cz.pe_actC (i := 3) LO rfl (hr.mono (by decide)) rfl (by first | exact Or.inl rfl | exact Or.inr (Or.inl rfl) | exact Or.inr (Or.inr rfl)) (pa_cons (pv 4) pa_nil))) (pv 5)) pe_int)))))
    (pss_one (ps_ret (pe_callBK (minDK (K := K) hr.units) (by rfl) T.g_min (by decide +kernel) (pa_cons (pv 6) pa_nil) (pk_cons pe_non pk_nil)))))))), ?_⟩
  walk_at "rd"
  refine Rd.for_lst (xs := ns.map vn) (fun i σ H2 => ∃ u4, σ = [some (.ref h), some (.ref ts), some (vn st), some (.ref f), u4, none, none] ∧ Same H H2 ∧ ∀ j k, j < i → ns[j]? = some k → ex k ≤ 0) ⟨_, rfl, Same.refl _, fun j k h => by omega⟩ (fun i σ H2 _ ⟨_, _, S, _⟩ => SqL.of (S _ _ hts)) ?_ ?_
  · rintro i x σ H2 hx ⟨u4, rfl, S2, hb⟩
    rw [List.getElem?_map] at hx
    obtain ⟨n, hn1, rfl⟩ := Option.map_eq_some_iff.mp hx
    have hn2 := List.mem_of_getElem? hn1
    walk_at "rd"
    refine Rd.act rfl (S2 _ _ hf) ?_
    walk_at "rd"
    refine Rd.actK_i (S2 _ _ hf) ?_
    refine hR n hn2 H2 _ S2 fun H3 S3 => ?_
    walk_at "rd"
    refine Rd.d2 (fun c => ?_) (fun c => ?_)
    · walk_at "rd"
      exact k _ _ (S2.trans S3) (.first i n hn1 c hb)
    · walk_at "rd"
      refine ⟨_, rfl, S2.trans S3, fun j q hj hq => ?_⟩
      rcases Nat.lt_or_ge j i with z | z
      · exact hb j q z hq
      · obtain rfl : j = i := by omega
        obtain rfl : n = q := Option.some.inj (hn1.symm.trans hq)
        omega
  · rintro σ H2 ⟨u4, rfl, S2, hb⟩
    have hb : ∀ q ∈ ns, ex q ≤ 0 := fun q hq => by
      obtain ⟨j, hj⟩ := List.getElem?_of_mem hq
      exact hb j q (by rw [List.length_map]; exact (List.getElem?_eq_some_iff.mp hj).1) hj
    walk_at "rd"
    rename_i H3 S3
    refine Rd.e2 (fun c => ?_) (fun c => ?_)
    · walk_at "rd"
      exact k _ _ (S2.trans S3) (.none hb (by omega))
    · walk_at "rd"
      have S23 := S2.trans S3
      have g0 : 0 < grow tk cl := by omega
      refine Rd.lc_lst_if (xs := ns.map vn) (fun i => decide (st ≤ ns.getD i 0)) (fun i => .int ((ns.getD i 0 : Int) + (per tk cl : Int) * (-(ex (ns.getD i 0)) / (grow tk cl : Int) + 1))) (SqL.of (S23 _ _ hts)) (by rw [List.length_map]; omega) (fun i x hx => ?_) fun D H4 nD S4 hD => ?_
      · rw [List.getElem?_map] at hx
        obtain ⟨n, hn1, rfl⟩ := Option.map_eq_some_iff.mp hx
        have hn2 := List.mem_of_getElem? hn1
        rw [Rd.getD_of hn1]
        refine Rd.turn2 (by rfl) (fun H' S Q' q => ?_) (fun H' S hb' Q' q => ?_)
        · walk_at "rd"
          rw [show decide ((st : Int) ≤ (n : Int)) = decide (st ≤ n) from decide_eq_decide.mpr Int.ofNat_le]
          exact q _ (Same.refl _)
        · obtain ⟨n9, e0, e1⟩ := hns n hn2
          have ez := hb n hn2
          have z0 : 0 ≤ -(ex n) / (grow tk cl : Int) := Int.ediv_nonneg (by omega) (by omega)
          have z1 : -(ex n) / (grow tk cl : Int) ≤ 1000000 := Int.le_trans (Int.ediv_le_self _ (by omega)) (by omega)
          have p144 := per_144 hA.ok.tkP hA.ok.clP
          have g9 : grow tk cl ≤ 9 * 300 := by
            have a := tak_le hA.ok.tkP.nine (2 * per tk cl + 1)
            have b := wt_cal (tk := tk) (cl := cl) (2 * per tk cl + 1)
            unfold grow
            omega
          walk_at "rd"
          refine Rd.act rfl (S _ _ (S23 _ _ hf)) ?_
          walk_at "rd"
          refine Rd.actK_i (S _ _ (S23 _ _ hf)) ?_
          refine hR n hn2 _ _ (S23.trans S) fun H5 S5 => ?_
          walk_at "rd"
          exact q _ S5
      · walk_at "rd"
        refine Rd.ckw ?_
        walk_at "rd"
        have hD2 : H4 D = some (.lst ((laterT tk cl ns st ex).map V.int)) := by
          rw [List.length_map] at hD
          rw [laterT, List.map_map]
          exact hD
        exact ⟨D, _, .non, rfl, rfl, SqL.of hD2, fun e => k _ _ (S23.trans S4) (.never hb g0 e), fun m hm up => k _ _ (S23.trans S4) (.later hb g0 m hm up)⟩
end
end Tk

end

/-! ### Tables of code objects along the way -/
namespace Tk
open PySem PySem.Spec PyProof.Rows L2 Mm LamX
/-- the name of a function that the def x makes -/
def qnm (x : Str) : Str := (x ++ ".<locals>.") ++ "<lambda>"
/-- the tables and the names of what they tell -/
def TT (K : PySem.W.Frag) : List (Addr × Str) := mkl.map fun p => ((ctAt K (p.1 K)).2, qnm p.2)
structure Tbs (K : PySem.W.Frag) (mg : Str → Option Value) (base : Heap) : Prop where
  all : ∀ p ∈ mkl, TabB base mg (ctAt K (p.1 K)).1 (ctAt K (p.1 K)).2
  apart : (mkl.map fun p => (ctAt K (p.1 K)).2).Nodup
theorem uniq1 : ∀ {l : List (Addr × Str)}, (l.map (·.1)).Nodup → ∀ {x : Addr × Str}, x ∈ l → ∀ p ∈ l, p.1 = x.1 → p.2 = x.2
  | [], _, _, h, _, _, _ => by cases h
  | a :: l, nd, x, hx, p, hp, e => by
    obtain ⟨n1, n2⟩ := List.nodup_cons.mp (show (a.1 :: l.map (·.1)).Nodup from nd)
    rcases List.mem_cons.mp hx with e1 | e1 <;> rcases List.mem_cons.mp hp with e2 | e2
    · rw [e1, e2]
    · subst e1
      exact absurd (List.mem_map.mpr ⟨p, e2, e⟩) n1
    · subst e2
      exact absurd (List.mem_map.mpr ⟨x, e1, e.symm⟩) n1
    · exact uniq1 n2 e1 p e2 e
theorem Tbs.x {K : PySem.W.Frag} {mg : Str → Option Value} {base : Heap} (t : Tbs K mg base) {p : Mk_ × Str} (hp : p ∈ mkl) : ∀ y ∈ TT K, y.1 = (ctAt K (p.1 K)).2 → y.2 = qnm p.2 := fun y hy e => by
  refine uniq1 (l := TT K) (x := ((ctAt K (p.1 K)).2, qnm p.2)) ?_ (List.mem_map.mpr ⟨p, hp, rfl⟩) y hy e
  show ((mkl.map fun p => ((ctAt K (p.1 K)).2, qnm p.2)).map (·.1)).Nodup
  rw [List.map_map]
  exact t.apart
theorem Tbs.tx {P : Program} {w : World} {K : PySem.W.Frag} {mg : Str → Option Value} {base : Heap} {N : List Str} {scope : Scope} {f : Addr} {A : Around} {outer : List Env} {s : Shared} {H : Hp} {E : XK} {CX : CXT} (t : Tbs K mg base) {p : Mk_ × Str} (hp : p ∈ mkl) {cdv : Value} (hc : cdv = .ref (codeAt K (p.1 K))) :
    TabX (cxOf CX P w K mg base N p.2 scope f cdv A outer s H E) (TT K) :=
  ⟨(ctAt K (p.1 K)).1, (ctAt K (p.1 K)).2, t.all p hp, hc, List.mem_map.mpr ⟨p, hp, rfl⟩, t.x hp⟩
/-- all but tables stays, the tables tell what they should -/
def Ext (K : PySem.W.Frag) (H H' : Hp) : Prop := ExtN H H' ∧ Tabs (TT K) H'
section
variable {K : PySem.W.Frag} {H H1 H2 : Hp}
theorem extn_same (a : Same H H1) : ExtN H H1 := fun b o e _ => a b o e
theorem Ext.trans (a : Ext K H H1) (b : Ext K H1 H2) : Ext K H H2 := ⟨a.1.trans b.1, b.2⟩
theorem Ext.of (t : Tabs (TT K) H) (a : Same H H1) : Ext K H H1 := ⟨extn_same a, t.ext a⟩
theorem Ext.same (a : Ext K H H1) (b : Same H1 H2) : Ext K H H2 := a.trans (.of a.2 b)
theorem Ext.lst (a : Ext K H H1) {b : Addr} {xs : List V} (e : H b = some (.lst xs)) : H1 b = some (.lst xs) := a.1 _ _ e fun _ z => by cases z
theorem Ext.tup (a : Ext K H H1) {b : Addr} {xs : List V} (e : H b = some (.tup xs)) : H1 b = some (.tup xs) := a.1 _ _ e fun _ z => by cases z
theorem Ext.ins (a : Ext K H H1) {b c d : Addr} {xs : List (Str × V)} (e : H b = some (.ins c d xs)) : H1 b = some (.ins c d xs) := a.1 _ _ e fun _ z => by cases z
theorem HallAt.ext {C h lp : Addr} {m lt : Nat} {tk cl : List Nat} (p : HallAt C H h m tk cl lt lp) (b : Ext K H H1) : HallAt C H1 h m tk cl lt lp := by
  obtain ⟨dx, tp, cp, h1, h2, h3⟩ := p.ex
  exact ⟨⟨dx, tp, cp, b.ins h1, b.tup h2, b.tup h3⟩, b.lst p.lst, p.ok⟩
theorem PartsAt.ext {t tp cp : Addr} {m lt : Nat} {tk cl : List Nat} (p : PartsAt H t m tp tk cp cl lt) (b : Ext K H H1) : PartsAt H1 t m tp tk cp cl lt :=
  ⟨b.tup p.at_, b.tup p.tkA, b.tup p.clA, p.ok⟩
/-- the tables bear a change of the list at d -/
theorem tabs_but {d : Addr} {cs : List V} {T : List (Addr × Str)} (t : Tabs T H) (hd : H d = some (.lst cs)) (b : But d H H1) : Tabs T H1 := fun p hp => by
  obtain ⟨ps, h1, h2, h3⟩ := t p hp
  refine ⟨ps, b _ _ (fun z => by rw [z, hd] at h1; cases h1) h1, h2, fun pos cv hc => ?_⟩
  obtain ⟨c, e1, e2⟩ := h3 pos cv hc
  refine ⟨c, e1, b _ _ (fun z => ?_) e2⟩
  rw [z, hd] at e2
  have := Option.some.inj e2
  unfold CodeO at this
  cases this
theorem tabs_nil {T : List (Addr × Str)} (h : ∀ p ∈ T, H p.1 = some (.tbl #[])) : Tabs T H := fun p hp => TabS.nil (h p hp)
end
end Tk

section
local macro_rules | `(tactic| walk_at "hp") => `(tactic| first
  | assumption
  | with_reducible exact L2.upd_same
  | ((with_reducible refine' Tk.Same.get ?k0 ?k1); (case k0 => assumption); (case k1 => walk_at "hp"))
  | fail "hp")
local macro_rules | `(tactic| walk_at "same") => `(tactic| first
  | assumption
  | exact L2.Same.refl _
  | ((with_reducible refine' Tk.Same.nw ?k0 ?k1); (case k0 => assumption); (case k1 => walk_at "same"))
  | ((with_reducible refine' Tk.Same.tr ?k0 ?k1); (case k0 => assumption); (case k1 => walk_at "same")))
local macro_rules | `(tactic| walk_at "sql") => `(tactic| first
  | assumption
  | ((with_reducible refine' L2.SqL.of ?k0); (case k0 => walk_at "hp"))
  | ((with_reducible refine' L2.Same.seq ?k0 ?k1); (case k0 => assumption); (case k1 => walk_at "sql")))
local macro_rules | `(tactic| walk_at "sqt") => `(tactic| first
  | assumption
  | ((with_reducible refine' L2.SqT.of ?k0); (case k0 => walk_at "hp"))
  | ((with_reducible refine' Tk.sqt_sm ?k0 ?k1); (case k0 => assumption); (case k1 => walk_at "sqt")))
local macro_rules | `(tactic| walk_at "sz") => `(tactic| first
  | (show (_ : Nat) ≤ 1000; decide)
  | (simp; done)
  | (simp; omega))
local macro_rules | `(tactic| walk_at "szb") => `(tactic| first
  | assumption
  | (show (_ : Nat) ≤ 100000; decide)
  | (simp; done)
  | (simp; omega))
local macro_rules | `(tactic| walk_at "dp") => `(tactic| first
  | assumption
  | with_reducible exact L2.Dp.non
  | with_reducible exact L2.Dp.int _
  | with_reducible exact L2.Dp.str _
  | with_reducible exact L2.Dp.bl _
  | ((with_reducible refine' L2.Dp.lst ?k0 ?k1); (case k0 => walk_at "sql"); (case k1 => walk_at "dpa"))
  | ((with_reducible refine' L2.Dp.tup ?k0 ?k1); (case k0 => walk_at "sqt"); (case k1 => walk_at "dpa"))
  | ((with_reducible refine' Tk.dp_sm ?k0 ?k1); (case k0 => assumption); (case k1 => walk_at "dp"))
  | fail "dp")
local macro_rules | `(tactic| walk_at "dpa") => `(tactic| first
  | assumption
  | with_reducible exact L2.DpAll.nil
  | ((with_reducible refine' L2.DpAll.cons ?k0 ?k1); (case k0 => walk_at "dp"); (case k1 => walk_at "dpa"))
  | with_reducible exact Tk.dp_nats _
  | ((with_reducible refine' Tk.dpA_sm ?k0 ?k1); (case k0 => assumption); (case k1 => walk_at "dpa"))
  | fail "dpa")
local macro_rules | `(tactic| walk_at "ci") => `(tactic| first
  | exact .inl ⟨by decide, by decide⟩
  | exact .inr ⟨by decide, by decide⟩
  | exact .inl ⟨by omega, by omega⟩
  | exact .inr ⟨by omega, by omega⟩
  | exact ⟨by decide, by decide⟩
  | exact ⟨by omega, by omega⟩
  | (show (0 : Int) < _; decide)
  | (show (0 : Int) < _; omega))
local macro_rules | `(tactic| walk_at "rd1") => `(tactic| first
  | with_reducible refine Tk.Rd.seq ?_
  | with_reducible refine Tk.Rd.star ?_
  | with_reducible refine Tk.Rd.int1_i ?_
  | with_reducible refine Tk.Rd.int1_b ?_
  | with_reducible refine Tk.Rd.tlc2 ?_
  | with_reducible refine Tk.Rd.lrg3 ?_
  | with_reducible refine Tk.Rd.lrg ?_
  | with_reducible refine Tk.Rd.rg1 ?_
  | with_reducible refine Tk.Rd.rg1K_i ?_
  | with_reducible refine Tk.Rd.rg2 ?_
  | with_reducible refine Tk.Rd.rg2K_i ?_
  | ((with_reducible refine' Tk.Rd.catL ?k0 ?k1 ?k2 fun p H' np S hp => ?_); (case k0 => walk_at "hp"); (case k1 => walk_at "hp"); (case k2 => walk_at "szb"))
  | ((with_reducible refine' Tk.Rd.starK_t ?k0 ?_); (case k0 => walk_at "sqt"))
  | ((with_reducible refine' Tk.Rd.starK_l ?k0 ?_); (case k0 => walk_at "sql"))
  | ((with_reducible refine' Tk.Rd.var ?k0 ?_); (case k0 => exact rfl))
  | with_reducible refine Tk.Rd.c ?_
  | with_reducible refine Tk.Rd.op ?_
  | with_reducible refine Tk.Rd.i0 ?_
  | with_reducible refine Tk.Rd.asg ?_
  | with_reducible refine Tk.Rd.name ?_
  | with_reducible refine Tk.Rd.cons ?_
  | with_reducible refine Tk.Rd.nil ?_
  | with_reducible refine Tk.Rd.call ?_
  | with_reducible refine Tk.Rd.callK_i ?_
  | with_reducible refine Tk.Rd.tst ?_
  | with_reducible refine Tk.Rd.bv ?_
  | with_reducible refine Tk.Rd.toB_i ?_
  | with_reducible refine Tk.Rd.ift ?_
  | with_reducible refine Tk.Rd.iff ?_
  | with_reducible refine Tk.Rd.ifnt ?_
  | with_reducible refine Tk.Rd.ifnf ?_
  | with_reducible refine Tk.Rd.not ?_
  | with_reducible refine Tk.Rd.and ?_
  | with_reducible refine Tk.Rd.or ?_
  | with_reducible refine Tk.Rd.andV ?_
  | with_reducible refine Tk.Rd.andK_i ?_
  | with_reducible refine Tk.Rd.orV ?_
  | with_reducible refine Tk.Rd.orK_i ?_
  | with_reducible refine Tk.Rd.notV ?_
  | with_reducible refine Tk.Rd.notK_i ?_
  | with_reducible refine Tk.Rd.tif ?_
  | with_reducible refine Tk.Rd.yes ?_
  | with_reducible refine Tk.Rd.tfor ?_
  | with_reducible refine Tk.Rd.tlc ?_
  | with_reducible refine Tk.Rd.rng ?_
  | ((with_reducible refine' Tk.Rd.rngK_n ?k0 ?_); (case k0 => first | decide | omega))
  | ((with_reducible refine' Tk.Rd.rngK_lit ?k0 ?_); (case k0 => decide))
  | with_reducible refine Tk.Rd.rng2 ?_
  | with_reducible refine Tk.Rd.rng3 ?_
  | with_reducible refine Tk.Rd.ilist ?_
  | with_reducible refine Tk.Rd.zip ?_
  | with_reducible refine Tk.Rd.itup ?_
  | ((with_reducible refine' Tk.Rd.listK_i ?k0 ?_); (case k0 => walk_at "sql"))
  | ((with_reducible refine' Tk.Rd.ituK_i ?k0 ?_); (case k0 => walk_at "sqt"))
  | with_reducible refine Tk.Rd.chain ?_
  | with_reducible refine Tk.Rd.chainL_i ?_
  | with_reducible refine Tk.Rd.un ?_
  | with_reducible refine Tk.Rd.u1 ?_
  | ((with_reducible refine' Tk.Rd.i1 ?k0 ?_); (case k0 => walk_at "ci"))
  | ((with_reducible refine' Tk.Rd.eq ?k0 ?_); (case k0 => exact rfl))
  | ((with_reducible refine' Tk.Rd.ne ?k0 ?_); (case k0 => exact rfl))
  | with_reducible refine Tk.Rd.isN ?_
  | with_reducible refine Tk.Rd.notN ?_
  | with_reducible refine Tk.Rd.fld ?_
  | with_reducible refine Tk.Rd.meth ?_
  | with_reducible refine Tk.Rd.prop ?_
  | with_reducible refine Tk.Rd.cb ?_
  | with_reducible refine Tk.Rd.bm ?_
  | with_reducible refine Tk.Rd.m0 ?_
  | with_reducible refine Tk.Rd.m0K_i ?_
  | with_reducible refine Tk.Rd.m1 ?_
  | with_reducible refine Tk.Rd.m1K_i ?_
  | with_reducible refine Tk.Rd.tup ?_
  | ((with_reducible refine' Tk.Rd.tupK_i ?k0 fun p H' np S hp => ?_); (case k0 => walk_at "sz"))
  | with_reducible refine Tk.Rd.lst ?_
  | ((with_reducible refine' Tk.Rd.lstK_i ?k0 fun p H' np S hp => ?_); (case k0 => walk_at "sz"))
  | ((with_reducible refine' Tk.Rd.ixF ?k0 ?k1 ?_); (case k0 => walk_at "hp"); (case k1 => omega))
  | ((with_reducible refine' Tk.Rd.ixF1 ?k0 ?k1 ?_); (case k0 => walk_at "hp"); (case k1 => omega))
  | ((with_reducible refine' Tk.Rd.ixT ?k0 ?k1 ?_); (case k0 => walk_at "sqt"); (case k1 => exact rfl))
  | ((with_reducible refine' Tk.Rd.ixL ?k0 ?k1 ?_); (case k0 => walk_at "sql"); (case k1 => exact rfl))
  | ((with_reducible refine' Tk.Rd.lenL ?k0 ?_); (case k0 => walk_at "sql"))
  | ((with_reducible refine' Tk.Rd.lenT ?k0 ?_); (case k0 => walk_at "sqt"))
  | ((with_reducible refine' Tk.Rd.lenS ?k0 ?_); (case k0 => first | assumption | omega | (simp; omega)))
  | ((with_reducible refine' Tk.Rd.slTr ?k0 fun p H' S hp => ?_); (case k0 => walk_at "hp"))
  | ((with_reducible refine' Tk.Rd.slT ?k0 fun p H' S hq => ?_); (case k0 => walk_at "sqt"))
  | ((with_reducible refine' Tk.Rd.catTr ?k0 ?k1 ?k2 fun p H' S hp => ?_); (case k0 => walk_at "hp"); (case k1 => walk_at "hp"); (case k2 => walk_at "sz"))
  | ((with_reducible refine' Tk.Rd.catA ?k0 ?k1 ?k2 ?k3 ?k4 fun p H' np S hp => ?_); (case k0 => walk_at "sqt"); (case k1 => walk_at "sqt"); (case k2 => simp); (case k3 => simp); (case k4 => first | (simp; done) | (simp; omega)))
  | with_reducible refine Tk.Rd.make ?_
  | ((with_reducible refine' Tk.Rd.tplL ?k0 fun q H' nq S hq => ?_); (case k0 => walk_at "sql"))
  | ((with_reducible refine' Tk.Rd.lstL ?k0 fun q H' nq S hq => ?_); (case k0 => walk_at "sql"))
  | ((with_reducible refine' Tk.Rd.lstT ?k0 fun q H' nq S hq => ?_); (case k0 => walk_at "sqt"))
  | ((with_reducible refine' Tk.Rd.join ?k0 ?k1 ?_); (case k0 => walk_at "sql"); (case k1 => first | assumption | omega))
  | with_reducible refine Tk.Rd.mx ?_
  | with_reducible refine Tk.Rd.mn ?_
  | with_reducible refine Tk.Rd.noPart ?_
  | with_reducible refine Tk.Rd.part ?_
  | with_reducible refine Tk.Rd.partK_i ?_
  | with_reducible refine Tk.Rd.slc ?_
  | ((with_reducible refine' Tk.Rd.gtup ?k0 ?k1 ?_); (case k0 => walk_at "sqt"); (case k1 => exact rfl))
  | ((with_reducible refine' Tk.Rd.glst ?k0 ?k1 ?_); (case k0 => walk_at "sql"); (case k1 => exact rfl))
  | with_reducible refine Tk.Rd.gcons ?_
  | with_reducible refine Tk.Rd.gnil ?_
  | with_reducible refine Tk.Rd.next ?_
  | with_reducible refine Tk.Rd.drop ?_
  | with_reducible refine Tk.Rd.ret ?_
  | with_reducible refine Tk.Rd.retN ?_
  | with_reducible refine Tk.Rd.par ?_
  | with_reducible refine Tk.Rd.parK_i ?_
  | with_reducible refine Tk.Rd.par3 ?_
  | with_reducible refine Tk.Rd.par3K_i ?_
  | ((with_reducible refine' Tk.Rd.aug ?k0 ?_); (case k0 => exact rfl))
  | with_reducible refine Tk.Rd.ip ?_
  | ((with_reducible refine' Tk.Rd.bmK_l ?k0 ?_); (case k0 => walk_at "sql"))
  | ((with_reducible refine' Tk.Rd.addS ?k0 ?_); (case k0 => walk_at "sz"))
  | fail "rd1")
local macro_rules | `(tactic| walk_at "rd1i") => `(tactic| first
  | walk_at "rd1"
  | with_reducible refine Tk.Rd.ifS ?_
  | fail "rd1i")
local macro_rules | `(tactic| walk_at "rd") => `(tactic| (repeat' walk_at "rd1i"))
local macro_rules | `(tactic| walk_at "rs") => `(tactic| ((repeat' walk_at "rd1"); (try dsimp only)))
local macro_rules | `(tactic| walk_at "hall") => `(tactic| first
  | assumption
  | ((with_reducible refine' Tk.HallAt.sm ?k0 ?k1); (case k0 => assumption); (case k1 => walk_at "hall"))
  | fail "hall")
local macro_rules | `(tactic| walk_at "parts") => `(tactic| first
  | assumption
  | ((with_reducible refine' Tk.PartsAt.sm ?k0 ?k1); (case k0 => assumption); (case k1 => walk_at "parts"))
  | fail "parts")
local macro_rules | `(tactic| walk_at "sm") => `(tactic| first
  | assumption
  | exact Tk.Sm.int rfl
  | exact Tk.Sm.flat1 rfl
  | ((with_reducible refine' Tk.Sm.sm ?k0 ?k1); (case k0 => assumption); (case k1 => walk_at "sm"))
  | fail "sm")
local macro_rules | `(tactic| walk_at "rd1") => `(tactic| first
  | ((with_reducible refine' Tk.Rd.f_modulus ?k0 ?k1 ?_); (case k0 => assumption); (case k1 => walk_at "hall"))
  | ((with_reducible refine' Tk.Rd.f_lateness ?k0 ?k1 ?_); (case k0 => assumption); (case k1 => walk_at "hall"))
  | ((with_reducible refine' Tk.Rd.f_takes ?k0 ?k1 fun tp htp => ?_); (case k0 => assumption); (case k1 => walk_at "hall"))
  | ((with_reducible refine' Tk.Rd.f_calls ?k0 ?k1 fun cp hcp => ?_); (case k0 => assumption); (case k1 => walk_at "hall"))
  | ((with_reducible refine' Tk.Rd.h_meth ?k0 ?k1 ?_); (case k0 => walk_at "hall"); (case k1 => decide +kernel))
  | ((with_reducible refine' Tk.Rd.h_prop ?k0 ?_); (case k0 => walk_at "hall"))
  | ((with_reducible refine' Tk.Rd.h_taken0 ?k0 fun H' S => ?_); (case k0 => walk_at "hall"))
  | ((with_reducible refine' Tk.Rd.h_taken1 ?k0 fun H' S => ?_); (case k0 => walk_at "hall"))
  | ((with_reducible refine' Tk.Rd.h_takenL ?k0 fun H' S => ?_); (case k0 => walk_at "hall"))
  | ((with_reducible refine' Tk.Rd.h_called0 ?k0 ?_); (case k0 => walk_at "hall"))
  | ((with_reducible refine' Tk.Rd.h_called1 ?k0 ?_); (case k0 => walk_at "hall"))
  | ((with_reducible refine' Tk.Rd.h_calledL ?k0 ?_); (case k0 => walk_at "hall"))
  | ((with_reducible refine' Tk.Rd.h_waiting ?k0 ?k1 fun H' S => ?_); (case k0 => walk_at "hall"); (case k1 => omega))
  | ((with_reducible refine' Tk.Rd.h_growth ?k0 fun H' S => ?_); (case k0 => walk_at "hall"))
  | ((with_reducible refine' Tk.Rd.h_period ?k0 ?_); (case k0 => walk_at "hall"))
  | ((with_reducible refine' Tk.Rd.h_lhall ?k0 fun h lp H' nh nl S hA => ?_); (case k0 => walk_at "parts"))
  | ((with_reducible refine' Tk.Rd.h_length ?k0 ?_); (case k0 => walk_at "parts"))
  | ((with_reducible refine' Tk.Rd.h_counts ?k0 ?k1 fun r a b H' nr na nb nab S hr ha hb => ?_); (case k0 => walk_at "parts"); (case k1 => omega))
  | ((with_reducible refine' Tk.Rd.h_countsL ?k0 ?k1 fun r a b H' nr na nb nab S hr ha hb => ?_); (case k0 => walk_at "parts"); (case k1 => decide))
  | ((with_reducible refine' Tk.Rd.h_make ?k0 ?k1 ?k2 fun h lp H' nh nl S hA => ?_); (case k0 => assumption); (case k1 => walk_at "hp"); (case k2 => walk_at "hp"))
  | ((with_reducible refine' Tk.Rd.p_0 ?k0 ?_); (case k0 => walk_at "parts"))
  | ((with_reducible refine' Tk.Rd.p_1 ?k0 fun htp => ?_); (case k0 => walk_at "parts"))
  | ((with_reducible refine' Tk.Rd.p_2 ?k0 fun hcp => ?_); (case k0 => walk_at "parts"))
  | ((with_reducible refine' Tk.Rd.p_3 ?k0 ?_); (case k0 => walk_at "parts"))
  | fail "rd1")
local macro_rules | `(tactic| walk_at "sqt") => `(tactic| first | ((with_reducible refine' Tk.PartsAt.sq ?k0); (case k0 => walk_at "parts")) | fail "sqt")
local macro_rules | `(tactic| walk_at "free") => `(tactic| first
  | assumption
  | ((with_reducible refine' Tk.Same.fr ?k0 ?k1); (case k0 => assumption); (case k1 => walk_at "free")))
local macro_rules | `(tactic| walk_at "hp") => `(tactic| first
  | ((with_reducible refine' Tk.But.gt ?k0 ?k1 ?k2); (case k0 => assumption); (case k1 => assumption); (case k2 => walk_at "hp"))
  | ((with_reducible refine' Tk.But.gl ?k0 ?k1 ?k2); (case k0 => assumption); (case k1 => assumption); (case k2 => walk_at "hp"))
  | fail "hp")
local macro_rules | `(tactic| walk_at "hall") => `(tactic| first | ((with_reducible refine' Tk.HallAt.bt ?k0 ?k1 ?k2 ?k3); (case k0 => assumption); (case k1 => assumption); (case k2 => assumption); (case k3 => walk_at "hall")) | fail "hall")
local macro_rules | `(tactic| walk_at "parts") => `(tactic| first | ((with_reducible refine' Tk.PartsAt.bt ?k0 ?k1 ?k2); (case k0 => assumption); (case k1 => assumption); (case k2 => walk_at "parts")) | fail "parts")
local macro_rules | `(tactic| walk_at "rd1") => `(tactic| first
  | ((with_reducible refine' Tk.Rd.h_below ?k0 ?k1 ?k2 ?k3 fun r H' cs hr B hd hcs => ?_); (case k0 => walk_at "hp"); (case k1 => assumption); (case k2 => first | decide | omega); (case k3 => first | decide | omega))
  | ((with_reducible refine' Tk.Rd.h_parts ?k0 ?k1 ?k2 ?k3 fun t tp cp m lt tk cl H' cs nt B hd hcs hP l1 l2 => ?_); (case k0 => walk_at "hp"); (case k1 => assumption); (case k2 => first | decide | omega); (case k3 => first | decide | omega))
  | ((with_reducible refine' Tk.Rd.h_partsL ?k0 ?k1 ?k2 ?k3 fun t tp cp m lt tk cl H' cs nt B hd hcs hP l1 l2 => ?_); (case k0 => walk_at "hp"); (case k1 => assumption); (case k2 => first | decide | omega); (case k3 => first | decide | omega))
  | ((with_reducible refine' Tk.Rd.h_small ?k0 ?k1 fun t tp cp m lt tk cl H' cs nt B hd hcs hP m1 l1 l2 l3 => ?_); (case k0 => walk_at "hp"); (case k1 => assumption))
  | ((with_reducible refine' Tk.Rd.h_tick ?k0 ?k1 fun t H' cs ht B hd hcs => ?_); (case k0 => walk_at "hp"); (case k1 => assumption))
  | ((with_reducible refine' Tk.Rd.h_mo ?k0 fun v H' S hv => ?_); (case k0 => walk_at "hall"))
  | ((with_reducible refine' Tk.Rd.h_lc ?k0 fun v H' S hv => ?_); (case k0 => walk_at "hall"))
  | ((with_reducible refine' Tk.Rd.h_lm ?k0 fun v H' S hv => ?_); (case k0 => walk_at "hall"))
  | ((with_reducible refine' Tk.Rd.h_gl ?k0 fun v H' S hv => ?_); (case k0 => walk_at "hall"))
  | ((with_reducible refine' Tk.Rd.h_ot ?k0 ?k1 fun r H' nr S hr => ?_); (case k0 => walk_at "hall"); (case k1 => first | assumption | omega))
  | ((with_reducible refine' Tk.Rd.h_most2 ?k0 fun v H' S hv => ?_); (case k0 => walk_at "parts"))
  | ((with_reducible refine' Tk.Rd.h_opens2L ?k0 ?k1 fun l ys H' nl S hl hlen hR => ?_); (case k0 => walk_at "parts"); (case k1 => decide))
  | ((with_reducible refine' Tk.Rd.h_opens2 ?k0 ?k1 fun l ys H' nl S hl hlen hR => ?_); (case k0 => walk_at "parts"); (case k1 => first | decide | omega))
  | fail "rd1")
local macro_rules | `(tactic| walk_at "ok") => `(tactic| first
  | assumption
  | ((with_reducible refine' Tk.HallAt.ok ?k0); (case k0 => walk_at "hall"))
  | ((with_reducible refine' Tk.PartsAt.ok ?k0); (case k0 => walk_at "parts"))
  | fail "ok")
local macro_rules | `(tactic| walk_at "sml") => `(tactic| first
  | exact Tk.Sml.ints (by walk_at "szb")
  | exact Tk.Sml.intsT (by walk_at "szb")
  | trivial
  | (simp [Tk.Sml]; done)
  | (simp [Tk.Sml]; omega)
  | fail "sml")
local macro_rules | `(tactic| walk_at "rd1") => `(tactic| first
  | ((with_reducible refine' Tk.Rd.nT ?k0 ?_); (case k0 => with_reducible exact rfl))
  | ((with_reducible refine' Tk.Rd.dT ?k0 ?_); (case k0 => with_reducible exact rfl))
  | with_reducible refine Tk.Rd.nF Tk.Rd.int_non ?_
  | with_reducible refine Tk.Rd.nF Tk.Rd.ref_non ?_
  | with_reducible refine Tk.Rd.dF Tk.Rd.int_non ?_
  | with_reducible refine Tk.Rd.dF Tk.Rd.ref_non ?_
  | ((with_reducible refine' Tk.Rd.h_disp ?k0 ?k1 ?_); (case k0 => first | assumption | omega); (case k1 => walk_at "hall"))
  | ((with_reducible refine' Tk.Rd.h_hold ?k0 ?k1 ?k2 ?k3 fun l H' nl S hl => ?_); (case k0 => walk_at "hall"); (case k1 => first | assumption | omega); (case k2 => first | assumption | omega); (case k3 => first | assumption | omega))
  | ((with_reducible refine' Tk.Rd.h_mis ?k0 ?k1 ?k2 fun l ys H' nl S hl hd => ?_); (case k0 => walk_at "hall"); (case k1 => first | assumption | omega); (case k2 => first | assumption | omega))
  | ((with_reducible refine' Tk.Rd.h_enc ?k0 fun l H' nl S hl => ?_); (case k0 => walk_at "hall"))
  | ((with_reducible refine' Tk.Rd.h_dec ?k0 ?k1 fun h lp H' nh nl S hA => ?_); (case k0 => walk_at "hp"); (case k1 => walk_at "ok"))
  | ((with_reducible refine' Tk.Rd.h_text ?k0 fun H' S => ?_); (case k0 => walk_at "hall"))
  | ((with_reducible refine' Tk.Rd.h_eqd ?k0 ?k1 ?k2 fun H' S => ?_); (case k0 => walk_at "dp"); (case k1 => walk_at "dp"); (case k2 => walk_at "sml"))
  | ((with_reducible refine' Tk.Rd.eqd ?k0 ?k1 ?k2 ?k3 ?_); (case k0 => walk_at "dp"); (case k1 => walk_at "dp"); (case k2 => walk_at "sml"); (case k3 => walk_at "sml"))
  | ((with_reducible refine' Tk.Rd.ned ?k0 ?k1 ?k2 ?k3 ?_); (case k0 => walk_at "dp"); (case k1 => walk_at "dp"); (case k2 => walk_at "sml"); (case k3 => walk_at "sml"))
  | fail "rd1")
/-! ### first_clash -/
namespace Tk
open PySem PySem.Spec PyProof.Rows L2 Mm LamX Cz
/-- all but functions, cells and such stays -/
def Rm (H G : Hp) : Prop := ∀ b o, H b = some o → (∀ φ, o ≠ .ext φ) → G b = some o
theorem HallAt.rm {C h lp : Addr} {H H1 : Hp} {m lt : Nat} {tk cl : List Nat} (p : HallAt C H h m tk cl lt lp) (b : Rm H H1) : HallAt C H1 h m tk cl lt lp := by
  obtain ⟨dx, tp, cp, h1, h2, h3⟩ := p.ex
  exact ⟨⟨dx, tp, cp, b _ _ h1 (fun _ z => by cases z), b _ _ h2 (fun _ z => by cases z), b _ _ h3 (fun _ z => by cases z)⟩, b _ _ p.lst (fun _ z => by cases z), p.ok⟩
section
variable {X : Cx} {scope : Scope}
theorem capt_cels0 {σ : L2.St} {H : Hp} (h : Capt X scope σ H) : Cels H (kap X scope) := fun c hc => by
  obtain ⟨⟨q, d⟩, hm, rfl⟩ := List.mem_map.mp hc
  rcases cloFrom_mem hm with m | ⟨z1, z2⟩
  · cases m
  · obtain ⟨i, v, o, _, _, e, r⟩ := h _ z1 rfl
    exact ⟨o, v, by rw [show d = kapA X q from z2]; exact e, r⟩
theorem lamR_same {c' : Addr} {tb : TE} {y v : V} {H : Hp} {Q : VK} (σ : L2.St) (hl : σ.length = X.N.length) (hC : Capt X scope σ H) (hcode : H c' = some (CodeO c' (X.env.qual ++ "<lambda>")))
    (h : ∀ (G : Hp) (Q1 : VK), Rm H G → (∀ G', Same G G' → Q1 v G') → tb (σ ++ [some y]) G Q1) (q : ∀ H'', Same H H'' → Q v H'') : LamR X scope c' tb y H Q := by
  have hc := capt_cels0 hC
  refine ⟨σ, hl, hC, hcode, h _ _ (fun b o e n => remL_keep hc e n) fun G' S => q _ fun b o e => ?_⟩
  by_cases z : b ∈ kap X scope
  · rw [putB_in z]
    exact e
  · rw [putB_out z]
    exact S _ _ (by rw [remL_out z]; exact e)
/-- a call of first_excess by a lambda of the caller -/
theorem callCK_fe {σ : L2.St} {Q : VK} {H1 : Hp} {C h lp ts f cd : Addr} {m lt st : Nat} {tk cl ns : List Nat} {fd : FuncData} {tb : TE} {ex : Nat → Int} (hA : HallAt C H1 h m tk cl lt lp) (hts : H1 ts = some (.lst (ns.map vn))) (hn : ns.length ≤ 1000)
    (hns : ∀ n ∈ ns, n ≤ 1000 ∧ -1000000 ≤ ex n ∧ ex n ≤ 1000000) (hf : H1 f = some (FnO f { cls := .type "function", data := .func fd })) (hcd : H1 cd = some (CodeO cd (lnm X))) (LO : LamOk X.prog X.w X.K X.mg X.base 6 { cls := .type "function", data := .func fd } (LamR X scope cd tb))
    (hσ : σ.length = X.N.length) (hcap : ∀ q, q ∈ scope.names → q.2 = .free → ∃ (i : Nat) (v : V), X.N[i]? = some q.1 ∧ X.env.scope.names.lookup q.1 = some .cell ∧ σ[i]? = some (some v))
    (hbody : ∀ n ∈ ns, ∀ (G : Hp) (Q1 : VK), Rm H1 G → (∀ G', Same G G' → Q1 (.int (ex n)) G') → tb (σ ++ [some (vn n)]) G Q1) (k : ∀ v H5, Same H1 H5 → FeV tk cl ns st ex v → Q v H5) :
    callCK X (spFe X.prog X.w X.K X.mg X.base C) σ Q [.ref h, .ref ts, vn st, .ref f] H1 := by
  intro H3 S3 cells
  refine ⟨h, lp, ts, f, m, lt, st, tk, cl, ns, fd, _, ex, rfl, hA.same S3, S3 _ _ hts, hn, hns, S3 _ _ hf, LO, fun n hm H' Q' S' q => ?_, fun v H4 S4 hv => ⟨fun b o e => S4 _ _ e, fun H5 e1 _ => k v H5 (fun b o e => ?_) hv⟩⟩
  · refine lamR_same σ hσ (fun q hq hk => ?_) (S' _ _ (S3 _ _ hcd)) (fun G Q1 R q1 => hbody n hm G Q1 (fun b o e n2 => R b o (S' _ _ (S3 _ _ e)) n2) q1) q
    obtain ⟨i, v, h1, h2, h3⟩ := hcap q hq hk
    obtain ⟨o, h4, h5⟩ := cells i q.1 v h1 h2 h3
    exact ⟨i, v, o, h1, h3, S' _ _ h4, h5⟩
  · rw [e1 b (by rw [e]; simp)]
    exact S4 _ _ (S3 _ _ e)
end
namespace Rd
variable {σ : L2.St} {H : Hp} {Q : VK}
theorem callC {X : Cx} {sp : Sp} {t : TA} (k : t σ H (callCK X sp σ Q)) : tCallC X sp t σ H Q := k
theorem lamV {X : Cx} {T : List (Addr × Str)} {n : Nat} {scope : Scope} {tb : TE} (hT : Tabs T H) (k : ∀ (f cd : Addr) (fd : FuncData) (H1 : Hp), H f = none → ExtN H H1 → Tabs T H1 → H1 f = some (FnO f { cls := .type "function", data := .func fd }) → H1 cd = some (CodeO cd (lnm X)) →
  LamOk X.prog X.w X.K X.mg X.base n { cls := .type "function", data := .func fd } (LamR X scope cd tb) → Q (.ref f) H1) : tLamV X T n scope tb σ H Q := ⟨hT, k⟩
theorem h_co {C h lp : Addr} {m lt t l : Nat} {tk cl : List Nat} {E : XK} (hA : HallAt C H h m tk cl lt lp) (k : ∀ H', Same H H' → Q (vn (opn tk cl l t)) H') : spCo C [.ref h, .int (t : Int), .int (l : Int)] H Q E := ⟨h, lp, m, lt, tk, cl, t, l, rfl, hA, k⟩
end Rd
/-- the first tick with an excess, whichever way it was found -/
inductive FcV (tk cl : List Nat) (m lt : Nat) (H : Hp) : V → Prop where
  | none (h : FeV tk cl (List.range (2 * per tk cl + lt)) (per tk cl + lt) (fun t => (opn tk cl lt t : Int) - (m : Int)) .non) : FcV tk cl m lt H .non
  | some (t : Int) (r : Addr) (h : FeV tk cl (List.range (2 * per tk cl + lt)) (per tk cl + lt) (fun t => (opn tk cl lt t : Int) - (m : Int)) (.int t))
      (hr : H r = some (.tup [.int t, vn (cal tk cl (t - (lt : Int)).toNat), .int ((cal tk cl (t - (lt : Int)).toNat : Int) + (m : Int))])) : FcV tk cl m lt H (.ref r)
section
variable {P : Program} {w : World} {K : PySem.W.Frag} {mg : Str → Option Value} {base : Heap}
def spFc (K : PySem.W.Frag) (C : Addr) : Sp := fun vs H Q _ => ∃ (h lp : Addr) (m lt : Nat) (tk cl : List Nat), vs = [.ref h] ∧ HallAt C H h m tk cl lt lp ∧ Tabs (TT K) H ∧ ∀ v H', Ext K H H' → FcV tk cl m lt H' v → Q v H'
theorem opn_le {tk cl : List Nat} (h : Pat tk) {l t : Nat} : opn tk cl l t ≤ 9 * (t + 1) := by
  have := tak_le h.nine (t + 1)
  unfold opn
  omega
theorem ok_first_clash (T : Txt K mg) (B : Tbs K mg base) : OkF P w K mg base 12 (He.ga K "first_clash") ["hall"] (spFc K (He.ga K "Hall")) := by
  have G_period : OkF P w K mg base 1 (getAt K (He.ga K "Hall") "period") ["self"] (spPeriod (He.ga K "Hall")) := ok_period T
  have G_called : OkF P w K mg base 3 (He.ma K (He.ga K "Hall") "called") ["self", "tick"] (spCalled (He.ga K "Hall")) := ok_called T
  have G_count_open : OkF P w K mg base 4 (He.ga K "count_open") ["hall", "tick", "lateness"] (spCo (He.ga K "Hall")) := ok_count_open T
  have G_first_excess : OkF P w K mg base 8 (He.ga K "first_excess") ["hall", "ticks", "steady", "excess"] (spFe P w K mg base (He.ga K "Hall")) := ok_first_excess T
  refine FnP.okFc T.f_first_clash sc_first_clash (fun _ _ _ _ _ _ us hl => match us, hl with | [_], _ => rfl) (fun vs H Q E h => ?_) (fun cdv A outer s H vs Q E hcd hr h => ?_)
  · obtain ⟨h, _, _, _, _, _, rfl, _⟩ := h
    rfl
  obtain ⟨h, lp, m, lt, tk, cl, rfl, hA, hT, k⟩ := h
  have tx : TabX (cxOf (L2.CX P w) P w K mg base N_first_clash "first_clash" (defScope s_first_clash) (He.ga K "first_clash") cdv A outer s H E) (TT K) := B.tx (p := (fun K => He.ga K "first_clash", "first_clash")) (by simp [mkl]) hcd
  have p144 := per_144 hA.ok.tkP hA.ok.clP
  have m4 := hA.ok.m4
  have l99 := hA.ok.l99
  refine ⟨_, (pss_cons (ps_set (i := 1) sc_first_clash.nd rfl (Or.inl rfl) (pe_op op_add (pe_prop (pv 0) T.cl_Hall T.p_period G_period.one (hr.mono (by decide)) G_period.two .nil passL (by rfl)) (pe_fld (pv 0) rfl)))
    (pss_cons (ps_set (i := 2) sc_first_clash.nd rfl (Or.inl rfl) (pe_listRg (by rfl) (by rfl) T.g_list (prg_1 (by rfl) T.g_range (pe_op op_add (pv 1) (pe_prop (pv 0) T.cl_Hall T.p_period G_period.one (hr.mono (by decide)) G_period.two .nil passL (by rfl))))))
    (pss_cons (ps_set (i := 3) sc_first_clash.nd rfl (Or.inl rfl) (Cz.pe_callC G_first_excess.one (hr.mono (by decide)) (by rfl) T.g_first_excess G_first_excess.kp G_first_excess.two (pa_cons (pv 0) (pa_cons (pv 2) (pa_cons (pv 1) (pa_cons (Cz.pe_lam (k := 6) tx sc_first_clash.nd (show LamP (defScope s_first_clash) _ "at" from lamP_by (by decide +kernel)) (show ("at" : PySem.Str) ∉ N_first_clash from by decide +kernel) rfl (fun _ _ _ _ _ _ => rfl) (fun A outer s H f c' hr => (pe_op op_sub (pe_call (X := lamCxP _ _ A outer s H _ f c') G_count_open.one (hr.mono (by decide)) (by rfl) T.g_count_open G_count_open.kp G_count_open.two .nil passL (pa_cons (pv 0) (pa_cons (pv 5) (pa_cons (pe_fldK (K := K) (pv 0) rfl) pa_nil)))) (pe_fldK (K := K) (pv 0) rfl)))) pa_nil))))))
    (pss_cons (ps_if (pt_cmpR (show OpR _ (compareOp .Is) Rd.rIsN from op_isN) (pv 3) pe_non (nomark _)) (pss_one (ps_ret pe_non)) pss_nil)
    (pss_cons (ps_set (i := 4) sc_first_clash.nd rfl (Or.inl rfl) (pe_meth (pv 0) T.cl_Hall T.m_called G_called.one (hr.mono (by decide)) G_called.two .nil passL (pa_cons (pe_op op_sub (pv 3) (pe_fld (pv 0) rfl)) pa_nil)))
    (pss_one (ps_ret (pe_tup (pa_cons (pv 3) (pa_cons (pv 4) (pa_cons (pe_op op_add (pv 4) (pe_fld (pv 0) rfl)) pa_nil))))))))))), ?_⟩
  walk_at "rd"
  refine Rd.rgK_n (n := 2 * per tk cl + lt) (by omega) (by omega) fun ts H1 nts S1 hts => ?_
  have hT1 := hT.ext S1
  walk_at "rd"
  refine Rd.callC ?_
  walk_at "rd"
  rw [show ((per tk cl : Int) + (lt : Int)) = ((per tk cl + lt : Nat) : Int) by omega]
  refine Rd.lamV hT1 fun f cd fd H2 nf X2 hT2 hf hco LO => ?_
  have X12 : Ext K H1 H2 := ⟨X2, hT2⟩
  have hA2 := (hA.same S1).ext X12
  have hts2 := X12.lst hts
  walk_at "rd"
  refine callCK_fe (ex := fun t => (opn tk cl lt t : Int) - (m : Int)) hA2 hts2 (by simp; omega) (fun n hn => ?_) hf hco LO rfl (fun q hq hk => ?_) (fun n hn G Q1 R q1 => ?_) fun v H5 S5 hv => ?_
  · have := List.mem_range.mp hn
    have := opn_le (cl := cl) hA.ok.tkP (l := lt) (t := n)
    omega
  · rcases List.mem_cons.mp hq with rfl | hq
    · cases hk
    rcases List.mem_cons.mp hq with rfl | hq
    · exact ⟨0, .ref h, rfl, (show (defScope s_first_clash).names.lookup ("hall" : PySem.Str) = some .cell from by decide +kernel), rfl⟩
    rcases List.mem_cons.mp hq with rfl | hq
    · cases hk
    · cases hq
  · have hG := hA2.rm R
    walk_at "rd"
    refine Rd.h_co hG fun G' S' => ?_
    walk_at "rd"
    exact q1 _ S'
  · have hA5 := hA2.same S5
    have X5 := ((Ext.of hT S1).trans X12).same S5
    clear hts hts2 hf hco LO X12 hA2 X2 hT2 hT1
    walk_at "rd"
    cases hv with
    | none hb g =>
      walk_at "rd"
      exact k _ _ X5 (.none (.none hb g))
    | never hb g hl =>
      walk_at "rd"
      exact k _ _ X5 (.none (.never hb g hl))
    | first i n hi h0 hb =>
      refine Rd.dF (fun q => by cases q) ?_
      walk_at "rd"
      rename_i r H6 nr S6 hr
      rw [show n - lt = ((n : Int) - (lt : Int)).toNat by omega] at hr
      exact k _ _ (X5.same S6) (.some _ _ (.first i n hi h0 hb) hr)
    | later hb g z hz hm =>
      refine Rd.dF (fun q => by cases q) ?_
      walk_at "rd"
      refine Rd.h_called (r := []) (n := (z - (lt : Int)).toNat) hA5 rfl ?_
      walk_at "rd"
      rename_i r H6 nr S6 hr
      exact k _ _ (X5.same S6) (.some _ _ (.later hb g z hz hm) hr)
end
end Tk

end

/-! ### The first excess, said plainly -/
namespace Tk
open PySem PySem.Spec PyProof.Rows L2 Mm LamX
/-- the first t with c t at which ex is above 0 -/
inductive FirstV (c : Nat → Bool) (ex : Nat → Int) : V → Prop where
  | none (h : ∀ t, c t = true → ex t ≤ 0) : FirstV c ex .non
  | some (t : Nat) (h0 : c t = true) (h1 : 0 < ex t) (h2 : ∀ s, s < t → c s = true → ex s ≤ 0) : FirstV c ex (vn t)
theorem FirstV.uniq {c : Nat → Bool} {ex : Nat → Int} {v u : V} (a : FirstV c ex v) (b : FirstV c ex u) : v = u := by
  cases a with
  | none h =>
    cases b with
    | none _ => rfl
    | some t h0 h1 h2 =>
      have := h t h0
      omega
  | some t h0 h1 h2 =>
    cases b with
    | none h =>
      have := h t h0
      omega
    | some s k0 k1 k2 =>
      rcases Nat.lt_trichotomy t s with z | z | z
      · have := k2 t z h0
        omega
      · rw [z]
      · have := h2 s z k0
        omega
theorem mem_later {tk cl ns : List Nat} {st : Nat} {ex : Nat → Int} {z : Int} : z ∈ laterT tk cl ns st ex ↔ ∃ n ∈ ns, st ≤ n ∧ z = (n : Int) + (per tk cl : Int) * (-(ex n) / (grow tk cl : Int) + 1) := by
  unfold laterT
  rw [List.mem_map]
  constructor
  · rintro ⟨i, hi, rfl⟩
    rw [List.mem_filter, List.mem_range] at hi
    obtain ⟨h1, h2⟩ := hi
    refine ⟨ns.getD i 0, ?_, of_decide_eq_true h2, rfl⟩
    rw [List.getD_eq_getElem?_getD, List.getElem?_eq_getElem h1]
    exact List.getElem_mem h1
  · rintro ⟨n, hn, h1, rfl⟩
    obtain ⟨i, hi⟩ := List.getElem?_of_mem hn
    refine ⟨i, ?_, by rw [Rd.getD_of hi]⟩
    rw [List.mem_filter, List.mem_range, Rd.getD_of hi]
    exact ⟨(List.getElem?_eq_some_iff.mp hi).1, decide_eq_true h1⟩
theorem step_k {c : Nat → Bool} {st p : Nat} (hc : ∀ t, st ≤ t → c (t + p) = c t) {t : Nat} (ht : st ≤ t) : ∀ k, c (t + k * p) = c t
  | 0 => by rw [Nat.zero_mul, Nat.add_zero]
  | k + 1 => by
    rw [show t + (k + 1) * p = (t + k * p) + p by rw [Nat.add_mul]; omega, hc _ (by omega), step_k hc ht k]
theorem step_e {ex : Nat → Int} {st p : Nat} {g : Int} (he : ∀ t, st ≤ t → ex (t + p) = ex t + g) {t : Nat} (ht : st ≤ t) : ∀ k : Nat, ex (t + k * p) = ex t + (k : Int) * g
  | 0 => by rw [Nat.zero_mul, Nat.add_zero]; simp
  | k + 1 => by
    rw [show t + (k + 1) * p = (t + k * p) + p by rw [Nat.add_mul]; omega, he _ (by omega), step_e he ht k, Int.natCast_add, Int.add_mul]
    omega
theorem red_p {st p t : Nat} (hp : 0 < p) (h : st ≤ t) : ∃ n k, st ≤ n ∧ n < st + p ∧ t = n + k * p := by
  refine ⟨st + (t - st) % p, (t - st) / p, by omega, ?_, ?_⟩
  · have := Nat.mod_lt (t - st) hp
    omega
  · have := Nat.div_add_mod (t - st) p
    rw [Nat.mul_comm] at this
    omega
theorem fe_first {tk cl : List Nat} {c : Nat → Bool} {ex : Nat → Int} {st : Nat} (hp : 0 < per tk cl) (hc : ∀ t, st ≤ t → c (t + per tk cl) = c t) (he : ∀ t, st ≤ t → ex (t + per tk cl) = ex t + (grow tk cl : Int)) {v : V}
    (h : FeV tk cl ((List.range (st + per tk cl)).filter c) st ex v) : FirstV c ex v := by
  have mem : ∀ {n}, n < st + per tk cl → c n = true → n ∈ (List.range (st + per tk cl)).filter c := fun h1 h2 => List.mem_filter.mpr ⟨List.mem_range.mpr h1, h2⟩
  have mem2 : ∀ {n}, n ∈ (List.range (st + per tk cl)).filter c → n < st + per tk cl ∧ c n = true := fun h => by
    obtain ⟨a, b⟩ := List.mem_filter.mp h
    exact ⟨List.mem_range.mp a, b⟩
  cases h with
  | first i n hi h0 hb =>
    have hn := mem2 (List.mem_of_getElem? hi)
    refine .some n hn.2 h0 fun s hs hcs => ?_
    obtain ⟨j, hj⟩ := List.getElem?_of_mem (mem (n := s) (by omega) hcs)
    refine hb j s ?_ hj
    rcases Nat.lt_trichotomy j i with z | z | z
    · exact z
    · subst z
      have := Option.some.inj (hi.symm.trans hj)
      omega
    · exfalso
      have srt : ((List.range (st + per tk cl)).filter c).Pairwise (· < ·) := List.Pairwise.filter c List.pairwise_lt_range
      have a1 := (List.getElem?_eq_some_iff.mp hi)
      have a2 := (List.getElem?_eq_some_iff.mp hj)
      have := List.pairwise_iff_getElem.mp srt i j a1.1 a2.1 z
      rw [a1.2, a2.2] at this
      omega
  | none hb g =>
    refine .none fun t ht => ?_
    rcases Nat.lt_or_ge t st with z | z
    · exact hb t (mem (by omega) ht)
    · obtain ⟨n, k, h1, h2, rfl⟩ := red_p hp z
      rw [step_k hc h1] at ht
      rw [step_e he h1, g]
      have := hb n (mem h2 ht)
      simp only [Int.natCast_zero, Int.mul_zero]
      omega
  | never hb g hl =>
    refine .none fun t ht => ?_
    rcases Nat.lt_or_ge t st with z | z
    · exact hb t (mem (by omega) ht)
    · obtain ⟨n, k, h1, h2, rfl⟩ := red_p hp z
      rw [step_k hc h1] at ht
      have : (n : Int) + (per tk cl : Int) * (-(ex n) / (grow tk cl : Int) + 1) ∈ laterT tk cl ((List.range (st + per tk cl)).filter c) st ex := mem_later.mpr ⟨n, mem h2 ht, h1, rfl⟩
      rw [hl] at this
      cases this
  | later hb g z hz hm =>
    obtain ⟨n, hn, h1, rfl⟩ := mem_later.mp hz
    have hn := mem2 hn
    have g0 : (0 : Int) < (grow tk cl : Int) := by omega
    have key : ∀ n, n < st + per tk cl → c n = true → st ≤ n → ∃ k : Nat, (k : Int) = -(ex n) / (grow tk cl : Int) + 1 ∧ ∀ j : Nat, (0 < ex (n + j * per tk cl) ↔ k ≤ j) := fun n a b d => by
      have e0 := hb n (mem a b)
      have q0 : 0 ≤ -(ex n) / (grow tk cl : Int) := Int.ediv_nonneg (by omega) (by omega)
      refine ⟨(-(ex n) / (grow tk cl : Int) + 1).toNat, by omega, fun j => ?_⟩
      rw [step_e he d]
      have dm := Int.mul_ediv_add_emod (-(ex n)) (grow tk cl : Int)
      have m0 := Int.emod_nonneg (-(ex n)) (show (grow tk cl : Int) ≠ 0 by omega)
      have m1 := Int.emod_lt_of_pos (-(ex n)) g0
      generalize hq : -(ex n) / (grow tk cl : Int) = q at *
      constructor
      · intro lt
        have : q < (j : Int) := by
          refine Int.not_le.mp fun le => ?_
          have := Int.mul_le_mul_of_nonneg_right le (Int.le_of_lt g0)
          have c1 : (grow tk cl : Int) * q = q * (grow tk cl : Int) := Int.mul_comm _ _
          omega
        omega
      · intro le
        have : q + 1 ≤ (j : Int) := by omega
        have := Int.mul_le_mul_of_nonneg_right this (Int.le_of_lt g0)
        have c1 : (grow tk cl : Int) * q = q * (grow tk cl : Int) := Int.mul_comm _ _
        rw [Int.add_mul] at this
        omega
    obtain ⟨k, hk, kk⟩ := key n hn.1 hn.2 h1
    have ez : (n : Int) + (per tk cl : Int) * (-(ex n) / (grow tk cl : Int) + 1) = ((n + k * per tk cl : Nat) : Int) := by
      rw [← hk, Int.natCast_add, Int.natCast_mul, Int.mul_comm]
    rw [ez] at hm
    show FirstV c ex (V.int _)
    rw [ez]
    refine .some _ (by rw [step_k hc h1]; exact hn.2) ((kk k).mpr (Nat.le_refl _)) fun s hs hcs => ?_
    rcases Nat.lt_or_ge s st with z | z
    · exact hb s (mem (by omega) hcs)
    · obtain ⟨n2, j, d1, d2, rfl⟩ := red_p hp z
      rw [step_k hc d1] at hcs
      obtain ⟨k2, hk2, kk2⟩ := key n2 d2 hcs d1
      refine Int.not_lt.mp fun lt => ?_
      have le := (kk2 j).mp lt
      have hm2 := hm _ (mem_later.mpr ⟨n2, mem d2 hcs, d1, rfl⟩)
      have ez2 : (n2 : Int) + (per tk cl : Int) * (-(ex n2) / (grow tk cl : Int) + 1) = ((n2 + k2 * per tk cl : Nat) : Int) := by
        rw [← hk2, Int.natCast_add, Int.natCast_mul, Int.mul_comm]
      rw [ez2] at hm2
      have := Nat.mul_le_mul_right (per tk cl) le
      omega
theorem opn_step {tk cl : List Nat} (h1 : Pat tk) (h2 : Pat cl) {lt t : Nat} (ht : per tk cl + lt ≤ t) : opn tk cl lt (t + per tk cl) = opn tk cl lt t + grow tk cl := by
  have p0 := per_pos h1.pos h2.pos
  have a1 := opn_add (tk := tk) (cl := cl) (lt := lt) (t + per tk cl)
  have a2 := opn_add (tk := tk) (cl := cl) (lt := lt) t
  rw [show t + per tk cl + 1 = (t + 1) + per tk cl by omega, tak_add _ per_tk] at a1
  have b1 := cal_per (tk := tk) (cl := cl) p0 per_tk per_cl (t := t - lt) (by omega)
  rw [show t - lt + per tk cl = t + per tk cl - lt by omega] at b1
  have b2 := cal_per (tk := tk) (cl := cl) p0 per_tk per_cl (t := per tk cl + 1) (by omega)
  have w1 := wt_cal (tk := tk) (cl := cl) (2 * per tk cl + 1)
  have w2 := wt_cal (tk := tk) (cl := cl) (per tk cl + 1)
  have t1 := tak_add (tk := tk) (per tk cl) per_tk (per tk cl + 1)
  rw [show per tk cl + 1 + per tk cl = 2 * per tk cl + 1 by omega] at b2 t1
  have wu := wt_up (tk := tk) (cl := cl) per_tk per_cl (per tk cl + 1)
  rw [show per tk cl + 1 + per tk cl = 2 * per tk cl + 1 by omega] at wu
  unfold grow
  omega
/-- the first tick with more than m open tickets -/
abbrev OverV (tk cl : List Nat) (lt m : Nat) : V → Prop := FirstV (fun _ => true) fun t => (opn tk cl lt t : Int) - (m : Int)
theorem filter_true (n : Nat) : (List.range n).filter (fun _ => true) = List.range n := List.filter_eq_self.mpr fun _ _ => rfl
theorem over_of {tk cl : List Nat} (h1 : Pat tk) (h2 : Pat cl) {lt m : Nat} {v : V} (h : FeV tk cl (List.range (2 * per tk cl + lt)) (per tk cl + lt) (fun t => (opn tk cl lt t : Int) - (m : Int)) v) : OverV tk cl lt m v := by
  refine fe_first (per_pos h1.pos h2.pos) (fun _ _ => rfl) (fun t ht => ?_) (st := per tk cl + lt) ?_
  · rw [opn_step h1 h2 ht]
    omega
  · rw [filter_true, show per tk cl + lt + per tk cl = 2 * per tk cl + lt by omega]
    exact h
theorem filter_head {c : Nat → Bool} {t : Nat} (h0 : c t = true) (h1 : ∀ s, s < t → c s = true → False) : ∀ {n : Nat}, t < n → ∃ r, (List.range n).filter c = t :: r
  | 0, h => by omega
  | n + 1, h => by
    rw [List.range_succ, List.filter_append]
    rcases Nat.lt_or_ge t n with z | z
    · obtain ⟨r, e⟩ := filter_head h0 h1 z
      rw [e]
      exact ⟨_, rfl⟩
    · obtain rfl : t = n := by omega
      have e : (List.range t).filter c = [] := List.filter_eq_nil_iff.mpr fun s hs hc => h1 s (List.mem_range.mp hs) hc
      rw [e]
      exact ⟨[], by simp [h0]⟩
theorem opn_steps {tk cl : List Nat} (h1 : Pat tk) (h2 : Pat cl) {lt t : Nat} (ht : per tk cl + lt ≤ t) : ∀ k, opn tk cl lt (t + k * per tk cl) = opn tk cl lt t + k * grow tk cl
  | 0 => by simp
  | k + 1 => by
    rw [show t + (k + 1) * per tk cl = (t + k * per tk cl) + per tk cl by rw [Nat.add_mul]; omega, opn_step h1 h2 (by omega), opn_steps h1 h2 ht k, Nat.add_mul]
    omega
theorem over_bound {tk cl : List Nat} (h1 : Pat tk) (h2 : Pat cl) {lt m t : Nat} (hp : per tk cl ≤ 9) (hm : m ≤ 10) (hl : lt ≤ 5) (a : m < opn tk cl lt t) (b : ∀ s, s < t → opn tk cl lt s ≤ m) : t < 200 := by
  refine Nat.lt_of_not_le fun ge => ?_
  have p0 := per_pos h1.pos h2.pos
  by_cases g : grow tk cl = 0
  · have s := opn_step h1 h2 (lt := lt) (t := t - per tk cl) (by omega)
    rw [show t - per tk cl + per tk cl = t by omega, g] at s
    have := b (t - per tk cl) (by omega)
    omega
  · have s := opn_steps h1 h2 (lt := lt) (t := t - 12 * per tk cl) (by omega) 11
    have := b (t - 12 * per tk cl + 11 * per tk cl) (by omega)
    omega
/-- first_clash's answer -/
inductive ClashAt (tk cl : List Nat) (m lt : Nat) (H : Hp) : V → Prop where
  | none (h : ∀ t, opn tk cl lt t ≤ m) : ClashAt tk cl m lt H .non
  | some (t : Nat) (r : Addr) (h0 : m < opn tk cl lt t) (h1 : ∀ s, s < t → opn tk cl lt s ≤ m) (hr : H r = some (.tup [vn t, vn (cal tk cl (t - lt)), vn (cal tk cl (t - lt) + m)])) : ClashAt tk cl m lt H (.ref r)
theorem ClashAt.ext {K : PySem.W.Frag} {tk cl : List Nat} {m lt : Nat} {H H' : Hp} {v : V} (X : Ext K H H') (h : ClashAt tk cl m lt H v) : ClashAt tk cl m lt H' v := by
  cases h with
  | none h => exact .none h
  | some t r h0 h1 hr => exact .some t r h0 h1 (X.tup hr)
theorem clash_of {tk cl : List Nat} (h1 : Pat tk) (h2 : Pat cl) {m lt : Nat} {H : Hp} {v : V} (h : FcV tk cl m lt H v) : ClashAt tk cl m lt H v := by
  cases h with
  | none h =>
    refine .none fun t => ?_
    cases over_of h1 h2 h with
    | none h =>
      have := h t rfl
      omega
  | some z r h hr =>
    have o := over_of h1 h2 h
    generalize hv : V.int z = v at o
    cases o with
    | none _ => cases hv
    | some t h0 h1 h2 =>
      obtain rfl : z = (t : Int) := by injection hv
      rw [show ((t : Int) - (lt : Int)).toNat = t - lt by omega] at hr
      refine .some t r (by omega) (fun s hs => ?_) hr
      have := h2 s hs rfl
      omega
namespace Rd
theorem h_fc {K : PySem.W.Frag} {H : Hp} {Q : VK} {E : XK} {C h lp : Addr} {m lt : Nat} {tk cl : List Nat} (hA : HallAt C H h m tk cl lt lp) (hT : Tabs (TT K) H) (k : ∀ v H', Ext K H H' → ClashAt tk cl m lt H' v → Q v H') : spFc K C [.ref h] H Q E :=
  ⟨h, lp, m, lt, tk, cl, rfl, hA, hT, fun v H' X hv => k v H' X (clash_of hA.ok.tkP hA.ok.clP hv)⟩
end Rd
end Tk

/-! ### Plans and first clashes -/
namespace Tk
open PySem PySem.Spec PyProof.Rows L2 Mm Pn LamX
theorem clash_grow_ {tk cl : List Nat} (h1 : Pat tk) (h2 : Pat cl) {lt m : Nat} (h : ∀ t, opn tk cl lt t ≤ m) : grow tk cl = 0 := by
  refine Nat.eq_zero_of_not_pos fun g => ?_
  have s := opn_steps h1 h2 (lt := lt) (t := per tk cl + lt) (Nat.le_refl _) (m + 1)
  have := h (per tk cl + lt + (m + 1) * per tk cl)
  have : (m + 1) * 1 ≤ (m + 1) * grow tk cl := Nat.mul_le_mul_left _ g
  omega
theorem has_max {f : Nat → Nat} : ∀ b : Nat, (∀ t, f t ≤ b) → ∃ M, MaxIs f M ∧ M ≤ b
  | 0, h => ⟨0, ⟨h, 0, by have := h 0; omega⟩, Nat.le_refl _⟩
  | b + 1, h => by
    by_cases e : ∃ t, f t = b + 1
    · exact ⟨b + 1, ⟨h, e⟩, Nat.le_refl _⟩
    · obtain ⟨M, h1, h2⟩ := has_max (f := f) b fun t => by
        have := h t
        have : f t ≠ b + 1 := fun q => e ⟨t, q⟩
        omega
      exact ⟨M, h1, by omega⟩
theorem clash_nc {tk cl : List Nat} (h1 : Pat tk) (h2 : Pat cl) {m lt : Nat} {H : Hp} {v : V} (h : ClashAt tk cl m lt H v) : v = .non ↔ NC m tk cl lt := by
  cases h with
  | none h =>
    refine ⟨fun _ => ?_, fun _ => rfl⟩
    obtain ⟨M, hM, hle⟩ := has_max m h
    exact ⟨M, .inr ⟨clash_grow_ h1 h2 h, M, rfl, hM⟩, hle⟩
  | some t r h0 h1 hr =>
    refine ⟨fun q => (by cases q), fun ⟨M, hM, hle⟩ => ?_⟩
    rcases hM with ⟨_, q⟩ | ⟨_, M', q, hM'⟩
    · cases q
    · have q : V.int (M : Int) = V.int (M' : Int) := q
      injection q with q
      have := hM'.1 t
      omega
theorem MostV.num_ {tk cl : List Nat} {m lt : Nat} {v : V} (h : MostV tk cl lt v) (n : NC m tk cl lt) : ∃ M, v = vn M ∧ M ≤ m := by
  obtain ⟨M, hM, hle⟩ := n
  exact ⟨M, MostV.uniq h hM, hle⟩
theorem col_one {tk cl : List Nat} {m lt : Nat} (m2 : 2 ≤ m) (n : NC m tk cl lt) {v : V} (h : ColV tk cl m lt v) : v = vn 1 := by
  obtain ⟨M, hM, hle⟩ := n
  rcases hM with ⟨_, q⟩ | ⟨g, M1, q, hx⟩
  · cases q
  · have q : V.int (M : Int) = V.int (M1 : Int) := q
    injection q with q
    rcases h with ⟨g2, _⟩ | ⟨_, M2, rfl, hy⟩
    · omega
    · have e := hy.uniq hx
      have d : (M2 + m - 1) / m < 2 := Nat.div_lt_of_lt_mul (by omega)
      rw [show max 1 ((M2 + m - 1) / m) = 1 by omega]
section
variable {K : PySem.W.Frag} {H H' : Hp}
theorem FzT.ext {a : Addr} {xs : List V} (h : Cn.FzT H a xs) (X : Ext K H H') : Cn.FzT H' a xs := h.elim fun o z => ⟨o, X.1 _ _ z.1 fun _ q => (by cases q), z.2⟩
theorem PlV.ext {v : V} {p : List Nat} (h : PlV H v p) (X : Ext K H H') : PlV H' v p := h.elim fun r z => ⟨r, z.1, FzT.ext z.2 X⟩
theorem PlA.ext {vs : List V} {ps : List (List Nat)} (h : PlA H vs ps) (X : Ext K H H') : PlA H' vs ps := by
  induction h with
  | nil => exact .nil
  | cons a _ ih => exact .cons (PlV.ext a X) ih
theorem PlO.ext {v : V} : ∀ {o : Option (List Nat)}, PlO H v o → Ext K H H' → PlO H' v o
  | none, h, _ => h
  | some _, h, X => PlV.ext h X
end
end Tk

/-! ### Texts of numbers -/
namespace Tx
open PySem PySem.Spec PyProof.Rows L2 TL
/-- a number's text -/
abbrev nS (n : Nat) : Str := Str.ofString (toString ((n : Nat) : Int))
theorem digit_c : ∀ c : Nat, 48 ≤ c → c ≤ 57 → Unicode.isDigit c = true := by
  intro c h1 h2
  have : c = 48 ∨ c = 49 ∨ c = 50 ∨ c = 51 ∨ c = 52 ∨ c = 53 ∨ c = 54 ∨ c = 55 ∨ c = 56 ∨ c = 57 := by omega
  rcases this with h | h | h | h | h | h | h | h | h | h <;> subst h <;> decide +kernel
theorem num_digit (n : Nat) : Txt.isdigit (nS n) = true := by
  unfold Txt.isdigit
  have l : (nS n).length > 0 := by
    rw [len_tl, tl_num]
    exact List.length_pos_iff.mpr (numL_ne n)
  rw [Bool.and_eq_true]
  refine ⟨decide_eq_true l, ?_⟩
  rw [← Array.all_toList]
  refine List.all_eq_true.mpr fun c hc => ?_
  have r := numL_digits n c (by rw [← tl_num]; exact hc)
  exact digit_c c r.1 r.2
theorem num_ascii (n : Nat) : Txt.isascii (nS n) = true := by
  unfold Txt.isascii
  rw [← Array.all_toList]
  refine List.all_eq_true.mpr fun c hc => ?_
  have r := numL_digits n c (by rw [← tl_num]; exact hc)
  exact decide_eq_true (by omega)
theorem num_len {n : Nat} (h : n ≤ 10000) : (nS n).length ≤ 5 := by
  rw [len_tl, tl_num]
  exact numL_len (by omega) (by omega)
/-- the first sign of a number that is not 0 -/
theorem head_num : ∀ {n : Nat}, 0 < n → ∃ c r, numL n = c :: r ∧ c ≠ 48 := by
  intro n
  induction n using Nat.strongRecOn with
  | _ n ih =>
    intro h
    by_cases q : n < 10
    · exact ⟨48 + n, [], numL_lt q, by omega⟩
    · obtain ⟨c, r, e, hc⟩ := ih (n / 10) (by omega) (by omega)
      rw [numL_step (by omega), e]
      exact ⟨c, _, rfl, hc⟩
theorem num_zero {n : Nat} : nS n = "0" ↔ n = 0 := by
  constructor
  · intro e
    have z := congrArg tl e
    rw [tl_num] at z
    have z2 : numL n = numL 0 := z.trans (by rw [numL_lt (by omega)]; rfl)
    exact numL_inj z2
  · intro e
    rw [e]
    rfl
theorem not_starts {n : Nat} (h : 0 < n) : Txt.startswith (nS n) "0" = false := by
  obtain ⟨c, r, e, hc⟩ := head_num h
  have e2 : nS n = SX.S (c :: r) := by
    show Str.ofString (toString ((n : Nat) : Int)) = _
    rw [SX.num_S, e]
  rw [e2]
  unfold Txt.startswith
  have : PySem.Builtin.Str.subAt (SX.S (c :: r)) "0" 0 = false := by
    unfold PySem.Builtin.Str.subAt
    refine beq_eq_false_iff_ne.mpr fun q => ?_
    have q2 := congrArg Array.toList q
    have q3 : ((c :: r).toArray.extract 0 (0 + 1)).toList = [48] := q2
    simp at q3
    exact hc q3
  rw [this, Bool.and_false]
/-- a line of a word and numbers -/
def ln (w : Str) (ns : List Nat) : Str := Txt.join " " (w :: ns.map nS)
theorem tl_sp : tl " " = [32] := by decide +kernel
theorem tl_lf : tl "\n" = [10] := by decide +kernel
theorem ln_split {w : Str} {ns : List Nat} (hw : 32 ∉ tl w) : Txt.split (ln w ns) " " = w :: ns.map nS :=
  split_join (s := 32) (S := []) tl_sp (by decide +kernel) (by simp) fun p hp => by
    rcases List.mem_cons.mp hp with e | e
    · rw [e]
      exact hw
    · obtain ⟨n, _, rfl⟩ := List.mem_map.mp e
      rw [tl_num]
      exact numL_free (.inl (by omega))
theorem mem_joinL {S : List Nat} : ∀ {ps : List (List Nat)} {c : Nat}, c ∈ joinL S ps → c ∈ S ∨ ∃ p ∈ ps, c ∈ p
  | [], c, h => by cases h
  | [p], c, h => .inr ⟨p, List.mem_singleton.mpr rfl, h⟩
  | p :: q :: r, c, h => by
    rcases List.mem_append.mp (show c ∈ p ++ (S ++ joinL S (q :: r)) from h) with h | h
    · exact .inr ⟨p, List.mem_cons_self, h⟩
    · rcases List.mem_append.mp h with h | h
      · exact .inl h
      · rcases mem_joinL h with h | ⟨z, hz, h⟩
        · exact .inl h
        · exact .inr ⟨z, List.mem_cons_of_mem _ hz, h⟩
theorem tl_ln (w : Str) (ns : List Nat) : tl (ln w ns) = joinL [32] (tl w :: ns.map numL) := by
  unfold ln
  rw [join_eq, tl_join, tl_sp, List.map_cons, List.map_map]
  congr 2
  exact List.map_congr_left fun n _ => tl_num n
theorem ln_free {w : Str} {ns : List Nat} (hw : 10 ∉ tl w) : 10 ∉ tl (ln w ns) := fun h => by
  rw [tl_ln] at h
  rcases mem_joinL h with h | ⟨p, hp, h⟩
  · simp at h
  · rcases List.mem_cons.mp hp with e | e
    · exact hw (e ▸ h)
    · obtain ⟨n, _, rfl⟩ := List.mem_map.mp e
      exact numL_free (.inl (by omega)) h
theorem joinL_len {S : List Nat} : ∀ {ps : List (List Nat)}, (joinL S ps).length ≤ (ps.map List.length).sum + ps.length * S.length
  | [] => by simp [joinL]
  | [p] => by simp [joinL]
  | p :: q :: r => by
    have ih := @joinL_len S (q :: r)
    have e : (joinL S (p :: q :: r)).length = p.length + (S.length + (joinL S (q :: r)).length) := by
      show (p ++ (S ++ joinL S (q :: r))).length = _
      rw [List.length_append, List.length_append]
    rw [e, List.map_cons, List.sum_cons, List.length_cons (a := p), Nat.succ_mul]
    omega
theorem sum_len {ns : List Nat} (h : ∀ n ∈ ns, n ≤ 10000) : ((ns.map numL).map List.length).sum ≤ 5 * ns.length := by
  induction ns with
  | nil => exact Nat.le_refl _
  | cons a r ih =>
    have h1 := ih fun n hn => h n (List.mem_cons_of_mem _ hn)
    have h2 : (numL a).length ≤ 5 := numL_len (by omega) (by have := h a List.mem_cons_self; omega)
    rw [List.map_cons, List.map_cons, List.sum_cons, List.length_cons]
    omega
theorem ln_len {w : Str} {ns : List Nat} (h1 : w.length ≤ 8) (h2 : ns.length ≤ 12) (h3 : ∀ n ∈ ns, n ≤ 10000) : (ln w ns).length ≤ 81 := by
  rw [len_tl, tl_ln]
  have a := @joinL_len [32] (tl w :: ns.map numL)
  have b := sum_len h3
  have c := len_tl w
  rw [List.map_cons, List.sum_cons, List.length_cons, List.length_map] at a
  have d : [32].length = 1 := rfl
  rw [d] at a
  omega
/-- the parts' lengths, joined by a space -/
theorem ln_size {w : Str} {ns : List Nat} (h1 : w.length ≤ 8) (h2 : ns.length ≤ 12) (h3 : ∀ n ∈ ns, n ≤ 10000) : ((w :: ns.map nS).map (·.length)).sum + (w :: ns.map nS).length * (" " : Str).length ≤ 16777216 := by
  have b := sum_len h3
  have e : (ns.map nS).map (·.length) = (ns.map numL).map List.length := by
    rw [List.map_map, List.map_map]
    refine List.map_congr_left fun n _ => ?_
    show (nS n).length = (numL n).length
    rw [len_tl, tl_num]
  have d : (" " : Str).length = 1 := by decide +kernel
  rw [List.map_cons, List.sum_cons, List.length_cons, List.length_map, e, d]
  omega
theorem ns_size {ns : List Nat} (h2 : ns.length ≤ 12) (h3 : ∀ n ∈ ns, n ≤ 10000) : ((ns.map nS).map (·.length)).sum + (ns.map nS).length * (" " : Str).length ≤ 16777216 := by
  have z := ln_size (w := "") (by decide +kernel) h2 h3
  rw [List.map_cons, List.sum_cons, List.length_cons, Nat.succ_mul] at z
  omega
theorem ln_glue {w : Str} {ns : List Nat} (h : ns ≠ []) : w ++ " " ++ Txt.join " " (ns.map nS) = ln w ns := by
  refine ext_tl ?_
  unfold ln
  rw [tl_append, tl_append, join_eq, join_eq, tl_join, tl_join, tl_sp]
  cases ns with
  | nil => exact absurd rfl h
  | cons a r =>
    show tl w ++ [32] ++ joinL [32] (((a :: r).map nS).map tl) = tl w ++ ([32] ++ joinL [32] (((a :: r).map nS).map tl))
    rw [List.append_assoc]
theorem ns_len {ns : List Nat} (h2 : ns.length ≤ 12) (h3 : ∀ n ∈ ns, n ≤ 10000) : (Txt.join " " (ns.map nS)).length ≤ 81 := by
  rw [len_tl, join_eq, tl_join, tl_sp]
  have a := @joinL_len [32] ((ns.map nS).map tl)
  have b := sum_len h3
  have e : (ns.map nS).map tl = ns.map numL := by
    rw [List.map_map]
    exact List.map_congr_left fun n _ => tl_num n
  rw [e, List.length_map] at a
  rw [e]
  have d : [32].length = 1 := rfl
  rw [d] at a
  omega
/-- the lines of a hall, its text -/
def lns (m : Nat) (tk cl : List Nat) (lt : Nat) : List Str := [ln "modulus" [m], ln "takes" tk, ln "calls" cl, ln "lateness" [lt]]
def txt (m : Nat) (tk cl : List Nat) (lt : Nat) : Str := Txt.join "\n" (lns m tk cl lt)
theorem txt_split {m : Nat} {tk cl : List Nat} {lt : Nat} : Txt.split (txt m tk cl lt) "\n" = lns m tk cl lt :=
  split_join (s := 10) (S := []) tl_lf (by decide +kernel) (by simp [lns]) fun p hp => by
    simp only [lns, List.mem_cons, List.not_mem_nil, or_false] at hp
    rcases hp with rfl | rfl | rfl | rfl <;> exact ln_free (by decide +kernel)
theorem lns_size {m : Nat} {tk cl : List Nat} {lt : Nat} (h1 : m ≤ 10000) (h2 : tk.length ≤ 12) (h3 : ∀ n ∈ tk, n ≤ 10000) (h4 : cl.length ≤ 12) (h5 : ∀ n ∈ cl, n ≤ 10000) (h6 : lt ≤ 10000) :
    ((lns m tk cl lt).map (·.length)).sum + (lns m tk cl lt).length * ("\n" : Str).length ≤ 400 := by
  have a1 := ln_len (w := "modulus") (ns := [m]) (by decide +kernel) (by simp) (by simp; exact h1)
  have a2 := ln_len (w := "takes") (by decide +kernel) h2 h3
  have a3 := ln_len (w := "calls") (by decide +kernel) h4 h5
  have a4 := ln_len (w := "lateness") (ns := [lt]) (by decide +kernel) (by simp) (by simp; exact h6)
  have d : ("\n" : Str).length = 1 := by decide +kernel
  simp only [lns, List.map_cons, List.map_nil, List.sum_cons, List.sum_nil, List.length_cons, List.length_nil, d]
  omega
theorem txt_len {m : Nat} {tk cl : List Nat} {lt : Nat} (h1 : m ≤ 10000) (h2 : tk.length ≤ 12) (h3 : ∀ n ∈ tk, n ≤ 10000) (h4 : cl.length ≤ 12) (h5 : ∀ n ∈ cl, n ≤ 10000) (h6 : lt ≤ 10000) : (txt m tk cl lt).length ≤ 400 := by
  have z := lns_size h1 h2 h3 h4 h5 h6
  have a := @joinL_len [10] ((lns m tk cl lt).map tl)
  unfold txt
  rw [len_tl, join_eq, tl_join, tl_lf]
  have e : ((lns m tk cl lt).map tl).map List.length = (lns m tk cl lt).map (·.length) := by
    rw [List.map_map]
    exact List.map_congr_left fun x _ => (len_tl x).symm
  rw [e, List.length_map] at a
  have d : ("\n" : Str).length = 1 := by decide +kernel
  rw [d] at z
  have d2 : [10].length = 1 := rfl
  rw [d2] at a
  omega
end Tx

/-! ### word, *rest = a list; cls(..) by a local name -/
namespace Tk
open PySem PySem.Spec PyProof.Rows L2
section
variable {X : Cx}
theorem unpack_rest {P : Program} {w : World} {A : Around} {E : Value → Shared → Prop} {s : Shared} {l : Addr} {v0 : Value} {vr : List Value} {Q : List Value → Shared → Prop} (hl : s.heap.IsList l (v0 :: vr).toArray) (hh : A.handled = none) (hz : vr.length + 1 ≤ 16384)
    (h : ∀ D h' tk, (∀ b u, s.heap.get? b = some u → h'.get? b = some u) → s.heap.get? D = none → h'.get? D = some { cls := .type "list", data := .seq vr.toArray } → Q [v0, .ref D] { s with heap := h', toks := tk }) :
    wpAny (model P w) A (unpackItems (.ref l) 2 (some 1)) Q E s := by
  have lsz : l < s.heap.objs.size := hl.elim fun o ho => Heap.lt_size ho.1
  have lne : l ≠ s.heap.objs.size := Nat.ne_of_lt lsz
  unfold unpackItems notIterableAtAll
  refine wpAny_bind (wpAny_bind (wpAny_specialOf hl.typeIs slot_list_iter.lookup (wpAny_pure ?_)))
  simp only [Bool.false_eq_true, if_false]
  refine wpAny_bind (wpAny_holding (wpAny_pyIter_list hl (wpAny_bind (wpAny_holding (PySem.W.kun_draw lne 1 0 _ _ ⟨_, Heap.get?_push_size _ rfl, rfl, rfl⟩ (hl.push _) (by simp) fun g1 it1 sb1 => ?_)))))
  have lst1 : g1.IsList l (v0 :: vr).toArray := (hl.push _).extBut sb1.extBut lne
  have one : ((v0 :: vr).toArray.toList.drop 0).take 1 = [v0] := by simp
  rw [one]
  show wpAny _ _ (if ([v0] : List Value).length < 1 then _ else _) _ _ _
  rw [if_neg (by simp)]
  rw [Nat.zero_add] at it1
  have itlt : s.heap.objs.size < g1.objs.size := it1.elim fun o ho => Heap.lt_size ho.1
  have llt : l < g1.objs.size := lst1.elim fun o ho => Heap.lt_size ho.1
  refine wpAny_bind (wpAny_holding (wpAny_collect_iter (s := { s with heap := g1 }) (T := "list_iterator") (.inr (.inr (.inl rfl))) (PySem.W.kun_shift (k := 1) (Walks.list (A := A.in1) hh s.heap.objs.size l lne (v0 :: vr).toArray) (by simp)).toS (fun j u st => st.1.typeIs) ⟨it1, lst1⟩
    (fun b hb => by rcases List.mem_cons.mp hb with e | e; · rw [e]; exact itlt
                    · rw [List.mem_singleton.mp e]; exact llt) (List.mem_cons_self ..) (fun s2 acc mv ia => ?_) (by simp [sizeLine_eq]; omega)))
  obtain ⟨g2, n2, d2, tk, o2⟩ := s2
  obtain ⟨kp, m2, m3, m4, m5⟩ := mv
  rw [PySem.W.kun_acc (by simp) ia]
  have rest : (v0 :: vr).toArray.toList.drop 1 = vr := by simp
  rw [rest]
  show wpAny _ _ (if vr.length < 2 - 1 - 1 then _ else _) _ _ _
  rw [if_neg (by omega)]
  have e1 : vr.take (vr.length - (2 - 1 - 1)) = vr := by simp
  have e2 : vr.drop (vr.length - (2 - 1 - 1)) = [] := by simp
  show wpAny _ _ (newList (vr.take (vr.length - (2 - 1 - 1))) >>= fun D => pure ([v0] ++ [D] ++ vr.drop (vr.length - (2 - 1 - 1)))) _ _ _
  rw [e1, e2]
  have m2 : n2 = s.gens := m2
  have m3 : d2 = s.drawn := m3
  have m4 : o2 = s.os := m4
  rw [m2, m3, m4]
  have old : ∀ b u, s.heap.get? b = some u → g2.get? b = some u := fun b u e => by
    have nb : b ≠ s.heap.objs.size := Nat.ne_of_lt (Heap.lt_size e)
    exact kp b u (by simpa using nb) (sb1.extBut b u nb (Heap.get?_push_of_some _ e))
  have new : s.heap.get? g2.objs.size = none := by
    cases e : s.heap.get? g2.objs.size with
    | none => rfl
    | some o => exact absurd (Heap.lt_size (old _ o e)) (Nat.lt_irrefl _)
  exact wpAny_bind (wpAny_newList (wpAny_pure (h g2.objs.size _ tk (fun b u e => Heap.get?_push_of_some _ (old b u e)) new (Heap.get?_push_size _ rfl))))
def gStar (K : PySem.W.Frag) (t : TG) (u : TG) : TG := fun v σ H Q => ∃ l x xs, v = .ref l ∧ SqL K H l (x :: xs) ∧ xs.length + 1 ≤ 16384 ∧ ∀ D, H D = none → t x σ (upd H D (.lst xs)) fun σ1 H1 => u (.ref D) σ1 H1 Q
theorem pg_star {e1 e2 : Expr} {k : Nat} {pos sp : Pos} {t u : TG} (hc : X.calm = true) (h1 : PG X e1 t) (h2 : PG X e2 u)
    (ha : assignEach [e1, .Starred e2 sp] X.env = [(false, assign e1 X.env), (true, assign e2 X.env)] := by rfl) : PG X (.Tuple [e1, .Starred e2 sp] k pos) (gStar X.K t u) := by
  refine ⟨fun pins s σ H v w Q I r hw => ?_⟩
  obtain ⟨l, x, xs, rfl, hq, hz, hw⟩ := hw
  obtain rfl : w = Value.ref l := r
  obtain ⟨its, rv, hl, _⟩ := I.list hq
  cases rv with
  | @cons _ v0 _ vr r0 rr =>
  rw [assign_Tuple]
  refine wpAny_bind (wpAny_standAt ?_)
  unfold unpack
  rw [ha]
  have hlen := rr.length
  refine wpAny_bind (wpAny_holding (unpack_rest hl.isList (I.ok.hd hc) (by omega) fun D h' tk k new hD => ?_))
  have nD := HOk.gone I.hok new
  have I1 : Inv X pins σ (upd H D (.lst xs)) { s with heap := h', toks := tk } := I.laidN k new nD ⟨by rw [sizeLine_eq]; omega, vr, _, rr, hD⟩
  refine assignInOrder_cons (thn (h1.run pins _ σ _ x v0 _ I1 r0 (hw D nD)) fun _ s2 ⟨σ2, H2, I2, q2⟩ => ?_)
  exact assignInOrder_cons (thn (h2.run pins s2 σ2 H2 (.ref D) (.ref D) _ I2 rfl q2) fun _ s3 ⟨σ3, H3, I3, q3⟩ => assignInOrder_nil ⟨σ3, H3, I3, q3⟩)
/-- x(e, ..), the i-th slot holds the class at C -/
theorem pe_makeL {CX : CXT} {k i : Nat} {C f : Addr} {fd : FuncData} {ps : List Str} {sp : Sp} {dvs : List V} {ds : List Value} {E : XK} {x : Str} {p pos : Pos} {e : Expr} {es : List Expr} {t : TA} (M : Mk X.K C f) (F : FnOk X.prog X.w X.K X.mg X.base CX k f fd ps sp) (hr : Room (k + 1) X.A)
    (hN : X.N[i]? = some x) (hv : Vis X.env.scope x) (hb : Binds X.K fd ps ds) (hd : Vals dvs ds) (hx : Passes CX X E) (ha : PA X (e :: es) t) (hdb : (x == ("__debug__" : Str)) = false := by decide) (hcd : (x == ("__classdict__" : Str)) = false := by decide)
    (he : starEach (e :: es) X.env = (false, eval e X.env) :: starEach es X.env := by rfl) (hpl : (backTo pos (starEach es X.env)).any (·.1) = false := by rfl) :
    PE X (.Call (.Name x p) (e :: es) [] pos) (fun σ H Q => σ[i]? = some (some (.ref C)) ∧ tMake C sp dvs E t σ H Q) := by
  refine ⟨fun pins s σ H Q I h => ?_⟩
  obtain ⟨hs, h⟩ := h
  refine wpAny_Call_Name_kw (thn ((pe_var (pos := p) (i := i) hN hv hdb hcd).run pins s σ H (fun v H1 => v = .ref C ∧ H1 = H) I ⟨.ref C, hs, rfl, rfl⟩) fun u s1 ⟨v, H1, I1, r1, z1, z2⟩ => ?_)
  subst z1 z2
  obtain rfl : u = Value.ref C := r1
  refine PySem.W.callWith_K (h₀ := X.base) I1.ok.mod.kin M.kp (thn (ha.run pos pins s1 σ _ _ I1 h) fun us s2 ⟨vs, H2, I2, r, q⟩ => ⟨I2.kIn, ?_⟩) he hpl
  exact run_make M F hr hb hd hx I2 r q
end
end Tk

section
local macro_rules | `(tactic| walk_at "hp") => `(tactic| first
  | assumption
  | with_reducible exact L2.upd_same
  | ((with_reducible refine' Tk.Same.get ?k0 ?k1); (case k0 => assumption); (case k1 => walk_at "hp"))
  | fail "hp")
local macro_rules | `(tactic| walk_at "same") => `(tactic| first
  | assumption
  | exact L2.Same.refl _
  | ((with_reducible refine' Tk.Same.nw ?k0 ?k1); (case k0 => assumption); (case k1 => walk_at "same"))
  | ((with_reducible refine' Tk.Same.tr ?k0 ?k1); (case k0 => assumption); (case k1 => walk_at "same")))
local macro_rules | `(tactic| walk_at "sql") => `(tactic| first
  | assumption
  | ((with_reducible refine' L2.SqL.of ?k0); (case k0 => walk_at "hp"))
  | ((with_reducible refine' L2.Same.seq ?k0 ?k1); (case k0 => assumption); (case k1 => walk_at "sql")))
local macro_rules | `(tactic| walk_at "sqt") => `(tactic| first
  | assumption
  | ((with_reducible refine' L2.SqT.of ?k0); (case k0 => walk_at "hp"))
  | ((with_reducible refine' Tk.sqt_sm ?k0 ?k1); (case k0 => assumption); (case k1 => walk_at "sqt")))
local macro_rules | `(tactic| walk_at "sz") => `(tactic| first
  | (show (_ : Nat) ≤ 1000; decide)
  | (simp; done)
  | (simp; omega))
local macro_rules | `(tactic| walk_at "szb") => `(tactic| first
  | assumption
  | (show (_ : Nat) ≤ 100000; decide)
  | (simp; done)
  | (simp; omega))
local macro_rules | `(tactic| walk_at "dp") => `(tactic| first
  | assumption
  | with_reducible exact L2.Dp.non
  | with_reducible exact L2.Dp.int _
  | with_reducible exact L2.Dp.str _
  | with_reducible exact L2.Dp.bl _
  | ((with_reducible refine' L2.Dp.lst ?k0 ?k1); (case k0 => walk_at "sql"); (case k1 => walk_at "dpa"))
  | ((with_reducible refine' L2.Dp.tup ?k0 ?k1); (case k0 => walk_at "sqt"); (case k1 => walk_at "dpa"))
  | ((with_reducible refine' Tk.dp_sm ?k0 ?k1); (case k0 => assumption); (case k1 => walk_at "dp"))
  | fail "dp")
local macro_rules | `(tactic| walk_at "dpa") => `(tactic| first
  | assumption
  | with_reducible exact L2.DpAll.nil
  | ((with_reducible refine' L2.DpAll.cons ?k0 ?k1); (case k0 => walk_at "dp"); (case k1 => walk_at "dpa"))
  | with_reducible exact Tk.dp_nats _
  | ((with_reducible refine' Tk.dpA_sm ?k0 ?k1); (case k0 => assumption); (case k1 => walk_at "dpa"))
  | fail "dpa")
local macro_rules | `(tactic| walk_at "ci") => `(tactic| first
  | exact .inl ⟨by decide, by decide⟩
  | exact .inr ⟨by decide, by decide⟩
  | exact .inl ⟨by omega, by omega⟩
  | exact .inr ⟨by omega, by omega⟩
  | exact ⟨by decide, by decide⟩
  | exact ⟨by omega, by omega⟩
  | (show (0 : Int) < _; decide)
  | (show (0 : Int) < _; omega))
local macro_rules | `(tactic| walk_at "rd1") => `(tactic| first
  | with_reducible refine Tk.Rd.seq ?_
  | with_reducible refine Tk.Rd.star ?_
  | with_reducible refine Tk.Rd.int1_i ?_
  | with_reducible refine Tk.Rd.int1_b ?_
  | with_reducible refine Tk.Rd.tlc2 ?_
  | with_reducible refine Tk.Rd.lrg3 ?_
  | with_reducible refine Tk.Rd.lrg ?_
  | with_reducible refine Tk.Rd.rg1 ?_
  | with_reducible refine Tk.Rd.rg1K_i ?_
  | with_reducible refine Tk.Rd.rg2 ?_
  | with_reducible refine Tk.Rd.rg2K_i ?_
  | ((with_reducible refine' Tk.Rd.catL ?k0 ?k1 ?k2 fun p H' np S hp => ?_); (case k0 => walk_at "hp"); (case k1 => walk_at "hp"); (case k2 => walk_at "szb"))
  | ((with_reducible refine' Tk.Rd.starK_t ?k0 ?_); (case k0 => walk_at "sqt"))
  | ((with_reducible refine' Tk.Rd.starK_l ?k0 ?_); (case k0 => walk_at "sql"))
  | ((with_reducible refine' Tk.Rd.var ?k0 ?_); (case k0 => exact rfl))
  | with_reducible refine Tk.Rd.c ?_
  | with_reducible refine Tk.Rd.op ?_
  | with_reducible refine Tk.Rd.i0 ?_
  | with_reducible refine Tk.Rd.asg ?_
  | with_reducible refine Tk.Rd.name ?_
  | with_reducible refine Tk.Rd.cons ?_
  | with_reducible refine Tk.Rd.nil ?_
  | with_reducible refine Tk.Rd.call ?_
  | with_reducible refine Tk.Rd.callK_i ?_
  | with_reducible refine Tk.Rd.tst ?_
  | with_reducible refine Tk.Rd.bv ?_
  | with_reducible refine Tk.Rd.toB_i ?_
  | with_reducible refine Tk.Rd.ift ?_
  | with_reducible refine Tk.Rd.iff ?_
  | with_reducible refine Tk.Rd.ifnt ?_
  | with_reducible refine Tk.Rd.ifnf ?_
  | with_reducible refine Tk.Rd.not ?_
  | with_reducible refine Tk.Rd.and ?_
  | with_reducible refine Tk.Rd.or ?_
  | with_reducible refine Tk.Rd.andV ?_
  | with_reducible refine Tk.Rd.andK_i ?_
  | with_reducible refine Tk.Rd.orV ?_
  | with_reducible refine Tk.Rd.orK_i ?_
  | with_reducible refine Tk.Rd.notV ?_
  | with_reducible refine Tk.Rd.notK_i ?_
  | with_reducible refine Tk.Rd.tif ?_
  | with_reducible refine Tk.Rd.yes ?_
  | with_reducible refine Tk.Rd.tfor ?_
  | with_reducible refine Tk.Rd.tlc ?_
  | with_reducible refine Tk.Rd.rng ?_
  | ((with_reducible refine' Tk.Rd.rngK_n ?k0 ?_); (case k0 => first | decide | omega))
  | ((with_reducible refine' Tk.Rd.rngK_lit ?k0 ?_); (case k0 => decide))
  | with_reducible refine Tk.Rd.rng2 ?_
  | with_reducible refine Tk.Rd.rng3 ?_
  | with_reducible refine Tk.Rd.ilist ?_
  | with_reducible refine Tk.Rd.zip ?_
  | with_reducible refine Tk.Rd.itup ?_
  | ((with_reducible refine' Tk.Rd.listK_i ?k0 ?_); (case k0 => walk_at "sql"))
  | ((with_reducible refine' Tk.Rd.ituK_i ?k0 ?_); (case k0 => walk_at "sqt"))
  | with_reducible refine Tk.Rd.chain ?_
  | with_reducible refine Tk.Rd.chainL_i ?_
  | with_reducible refine Tk.Rd.un ?_
  | with_reducible refine Tk.Rd.u1 ?_
  | ((with_reducible refine' Tk.Rd.i1 ?k0 ?_); (case k0 => walk_at "ci"))
  | ((with_reducible refine' Tk.Rd.eq ?k0 ?_); (case k0 => exact rfl))
  | ((with_reducible refine' Tk.Rd.ne ?k0 ?_); (case k0 => exact rfl))
  | with_reducible refine Tk.Rd.isN ?_
  | with_reducible refine Tk.Rd.notN ?_
  | with_reducible refine Tk.Rd.fld ?_
  | with_reducible refine Tk.Rd.meth ?_
  | with_reducible refine Tk.Rd.prop ?_
  | with_reducible refine Tk.Rd.cb ?_
  | with_reducible refine Tk.Rd.bm ?_
  | with_reducible refine Tk.Rd.m0 ?_
  | with_reducible refine Tk.Rd.m0K_i ?_
  | with_reducible refine Tk.Rd.m1 ?_
  | with_reducible refine Tk.Rd.m1K_i ?_
  | with_reducible refine Tk.Rd.tup ?_
  | ((with_reducible refine' Tk.Rd.tupK_i ?k0 fun p H' np S hp => ?_); (case k0 => walk_at "sz"))
  | with_reducible refine Tk.Rd.lst ?_
  | ((with_reducible refine' Tk.Rd.lstK_i ?k0 fun p H' np S hp => ?_); (case k0 => walk_at "sz"))
  | ((with_reducible refine' Tk.Rd.ixF ?k0 ?k1 ?_); (case k0 => walk_at "hp"); (case k1 => omega))
  | ((with_reducible refine' Tk.Rd.ixF1 ?k0 ?k1 ?_); (case k0 => walk_at "hp"); (case k1 => omega))
  | ((with_reducible refine' Tk.Rd.ixT ?k0 ?k1 ?_); (case k0 => walk_at "sqt"); (case k1 => exact rfl))
  | ((with_reducible refine' Tk.Rd.ixL ?k0 ?k1 ?_); (case k0 => walk_at "sql"); (case k1 => exact rfl))
  | ((with_reducible refine' Tk.Rd.lenL ?k0 ?_); (case k0 => walk_at "sql"))
  | ((with_reducible refine' Tk.Rd.lenT ?k0 ?_); (case k0 => walk_at "sqt"))
  | ((with_reducible refine' Tk.Rd.lenS ?k0 ?_); (case k0 => first | assumption | omega | (simp; omega)))
  | ((with_reducible refine' Tk.Rd.slTr ?k0 fun p H' S hp => ?_); (case k0 => walk_at "hp"))
  | ((with_reducible refine' Tk.Rd.slT ?k0 fun p H' S hq => ?_); (case k0 => walk_at "sqt"))
  | ((with_reducible refine' Tk.Rd.catTr ?k0 ?k1 ?k2 fun p H' S hp => ?_); (case k0 => walk_at "hp"); (case k1 => walk_at "hp"); (case k2 => walk_at "sz"))
  | ((with_reducible refine' Tk.Rd.catA ?k0 ?k1 ?k2 ?k3 ?k4 fun p H' np S hp => ?_); (case k0 => walk_at "sqt"); (case k1 => walk_at "sqt"); (case k2 => simp); (case k3 => simp); (case k4 => first | (simp; done) | (simp; omega)))
  | with_reducible refine Tk.Rd.make ?_
  | ((with_reducible refine' Tk.Rd.tplL ?k0 fun q H' nq S hq => ?_); (case k0 => walk_at "sql"))
  | ((with_reducible refine' Tk.Rd.lstL ?k0 fun q H' nq S hq => ?_); (case k0 => walk_at "sql"))
  | ((with_reducible refine' Tk.Rd.lstT ?k0 fun q H' nq S hq => ?_); (case k0 => walk_at "sqt"))
  | ((with_reducible refine' Tk.Rd.join ?k0 ?k1 ?_); (case k0 => walk_at "sql"); (case k1 => first | assumption | omega))
  | with_reducible refine Tk.Rd.mx ?_
  | with_reducible refine Tk.Rd.mn ?_
  | with_reducible refine Tk.Rd.noPart ?_
  | with_reducible refine Tk.Rd.part ?_
  | with_reducible refine Tk.Rd.partK_i ?_
  | with_reducible refine Tk.Rd.slc ?_
  | ((with_reducible refine' Tk.Rd.gtup ?k0 ?k1 ?_); (case k0 => walk_at "sqt"); (case k1 => exact rfl))
  | ((with_reducible refine' Tk.Rd.glst ?k0 ?k1 ?_); (case k0 => walk_at "sql"); (case k1 => exact rfl))
  | with_reducible refine Tk.Rd.gcons ?_
  | with_reducible refine Tk.Rd.gnil ?_
  | with_reducible refine Tk.Rd.next ?_
  | with_reducible refine Tk.Rd.drop ?_
  | with_reducible refine Tk.Rd.ret ?_
  | with_reducible refine Tk.Rd.retN ?_
  | with_reducible refine Tk.Rd.par ?_
  | with_reducible refine Tk.Rd.parK_i ?_
  | with_reducible refine Tk.Rd.par3 ?_
  | with_reducible refine Tk.Rd.par3K_i ?_
  | ((with_reducible refine' Tk.Rd.aug ?k0 ?_); (case k0 => exact rfl))
  | with_reducible refine Tk.Rd.ip ?_
  | ((with_reducible refine' Tk.Rd.bmK_l ?k0 ?_); (case k0 => walk_at "sql"))
  | ((with_reducible refine' Tk.Rd.addS ?k0 ?_); (case k0 => walk_at "sz"))
  | fail "rd1")
local macro_rules | `(tactic| walk_at "rd1i") => `(tactic| first
  | walk_at "rd1"
  | with_reducible refine Tk.Rd.ifS ?_
  | fail "rd1i")
local macro_rules | `(tactic| walk_at "rd") => `(tactic| (repeat' walk_at "rd1i"))
local macro_rules | `(tactic| walk_at "rs") => `(tactic| ((repeat' walk_at "rd1"); (try dsimp only)))
local macro_rules | `(tactic| walk_at "hall") => `(tactic| first
  | assumption
  | ((with_reducible refine' Tk.HallAt.sm ?k0 ?k1); (case k0 => assumption); (case k1 => walk_at "hall"))
  | fail "hall")
local macro_rules | `(tactic| walk_at "parts") => `(tactic| first
  | assumption
  | ((with_reducible refine' Tk.PartsAt.sm ?k0 ?k1); (case k0 => assumption); (case k1 => walk_at "parts"))
  | fail "parts")
local macro_rules | `(tactic| walk_at "sm") => `(tactic| first
  | assumption
  | exact Tk.Sm.int rfl
  | exact Tk.Sm.flat1 rfl
  | ((with_reducible refine' Tk.Sm.sm ?k0 ?k1); (case k0 => assumption); (case k1 => walk_at "sm"))
  | fail "sm")
local macro_rules | `(tactic| walk_at "rd1") => `(tactic| first
  | ((with_reducible refine' Tk.Rd.f_modulus ?k0 ?k1 ?_); (case k0 => assumption); (case k1 => walk_at "hall"))
  | ((with_reducible refine' Tk.Rd.f_lateness ?k0 ?k1 ?_); (case k0 => assumption); (case k1 => walk_at "hall"))
  | ((with_reducible refine' Tk.Rd.f_takes ?k0 ?k1 fun tp htp => ?_); (case k0 => assumption); (case k1 => walk_at "hall"))
  | ((with_reducible refine' Tk.Rd.f_calls ?k0 ?k1 fun cp hcp => ?_); (case k0 => assumption); (case k1 => walk_at "hall"))
  | ((with_reducible refine' Tk.Rd.h_meth ?k0 ?k1 ?_); (case k0 => walk_at "hall"); (case k1 => decide +kernel))
  | ((with_reducible refine' Tk.Rd.h_prop ?k0 ?_); (case k0 => walk_at "hall"))
  | ((with_reducible refine' Tk.Rd.h_taken0 ?k0 fun H' S => ?_); (case k0 => walk_at "hall"))
  | ((with_reducible refine' Tk.Rd.h_taken1 ?k0 fun H' S => ?_); (case k0 => walk_at "hall"))
  | ((with_reducible refine' Tk.Rd.h_takenL ?k0 fun H' S => ?_); (case k0 => walk_at "hall"))
  | ((with_reducible refine' Tk.Rd.h_called0 ?k0 ?_); (case k0 => walk_at "hall"))
  | ((with_reducible refine' Tk.Rd.h_called1 ?k0 ?_); (case k0 => walk_at "hall"))
  | ((with_reducible refine' Tk.Rd.h_calledL ?k0 ?_); (case k0 => walk_at "hall"))
  | ((with_reducible refine' Tk.Rd.h_waiting ?k0 ?k1 fun H' S => ?_); (case k0 => walk_at "hall"); (case k1 => omega))
  | ((with_reducible refine' Tk.Rd.h_growth ?k0 fun H' S => ?_); (case k0 => walk_at "hall"))
  | ((with_reducible refine' Tk.Rd.h_period ?k0 ?_); (case k0 => walk_at "hall"))
  | ((with_reducible refine' Tk.Rd.h_lhall ?k0 fun h lp H' nh nl S hA => ?_); (case k0 => walk_at "parts"))
  | ((with_reducible refine' Tk.Rd.h_length ?k0 ?_); (case k0 => walk_at "parts"))
  | ((with_reducible refine' Tk.Rd.h_counts ?k0 ?k1 fun r a b H' nr na nb nab S hr ha hb => ?_); (case k0 => walk_at "parts"); (case k1 => omega))
  | ((with_reducible refine' Tk.Rd.h_countsL ?k0 ?k1 fun r a b H' nr na nb nab S hr ha hb => ?_); (case k0 => walk_at "parts"); (case k1 => decide))
  | ((with_reducible refine' Tk.Rd.h_make ?k0 ?k1 ?k2 fun h lp H' nh nl S hA => ?_); (case k0 => assumption); (case k1 => walk_at "hp"); (case k2 => walk_at "hp"))
  | ((with_reducible refine' Tk.Rd.p_0 ?k0 ?_); (case k0 => walk_at "parts"))
  | ((with_reducible refine' Tk.Rd.p_1 ?k0 fun htp => ?_); (case k0 => walk_at "parts"))
  | ((with_reducible refine' Tk.Rd.p_2 ?k0 fun hcp => ?_); (case k0 => walk_at "parts"))
  | ((with_reducible refine' Tk.Rd.p_3 ?k0 ?_); (case k0 => walk_at "parts"))
  | fail "rd1")
local macro_rules | `(tactic| walk_at "sqt") => `(tactic| first | ((with_reducible refine' Tk.PartsAt.sq ?k0); (case k0 => walk_at "parts")) | fail "sqt")
local macro_rules | `(tactic| walk_at "free") => `(tactic| first
  | assumption
  | ((with_reducible refine' Tk.Same.fr ?k0 ?k1); (case k0 => assumption); (case k1 => walk_at "free")))
local macro_rules | `(tactic| walk_at "hp") => `(tactic| first
  | ((with_reducible refine' Tk.But.gt ?k0 ?k1 ?k2); (case k0 => assumption); (case k1 => assumption); (case k2 => walk_at "hp"))
  | ((with_reducible refine' Tk.But.gl ?k0 ?k1 ?k2); (case k0 => assumption); (case k1 => assumption); (case k2 => walk_at "hp"))
  | fail "hp")
local macro_rules | `(tactic| walk_at "hall") => `(tactic| first | ((with_reducible refine' Tk.HallAt.bt ?k0 ?k1 ?k2 ?k3); (case k0 => assumption); (case k1 => assumption); (case k2 => assumption); (case k3 => walk_at "hall")) | fail "hall")
local macro_rules | `(tactic| walk_at "parts") => `(tactic| first | ((with_reducible refine' Tk.PartsAt.bt ?k0 ?k1 ?k2); (case k0 => assumption); (case k1 => assumption); (case k2 => walk_at "parts")) | fail "parts")
local macro_rules | `(tactic| walk_at "rd1") => `(tactic| first
  | ((with_reducible refine' Tk.Rd.h_below ?k0 ?k1 ?k2 ?k3 fun r H' cs hr B hd hcs => ?_); (case k0 => walk_at "hp"); (case k1 => assumption); (case k2 => first | decide | omega); (case k3 => first | decide | omega))
  | ((with_reducible refine' Tk.Rd.h_parts ?k0 ?k1 ?k2 ?k3 fun t tp cp m lt tk cl H' cs nt B hd hcs hP l1 l2 => ?_); (case k0 => walk_at "hp"); (case k1 => assumption); (case k2 => first | decide | omega); (case k3 => first | decide | omega))
  | ((with_reducible refine' Tk.Rd.h_partsL ?k0 ?k1 ?k2 ?k3 fun t tp cp m lt tk cl H' cs nt B hd hcs hP l1 l2 => ?_); (case k0 => walk_at "hp"); (case k1 => assumption); (case k2 => first | decide | omega); (case k3 => first | decide | omega))
  | ((with_reducible refine' Tk.Rd.h_small ?k0 ?k1 fun t tp cp m lt tk cl H' cs nt B hd hcs hP m1 l1 l2 l3 => ?_); (case k0 => walk_at "hp"); (case k1 => assumption))
  | ((with_reducible refine' Tk.Rd.h_tick ?k0 ?k1 fun t H' cs ht B hd hcs => ?_); (case k0 => walk_at "hp"); (case k1 => assumption))
  | ((with_reducible refine' Tk.Rd.h_mo ?k0 fun v H' S hv => ?_); (case k0 => walk_at "hall"))
  | ((with_reducible refine' Tk.Rd.h_lc ?k0 fun v H' S hv => ?_); (case k0 => walk_at "hall"))
  | ((with_reducible refine' Tk.Rd.h_lm ?k0 fun v H' S hv => ?_); (case k0 => walk_at "hall"))
  | ((with_reducible refine' Tk.Rd.h_gl ?k0 fun v H' S hv => ?_); (case k0 => walk_at "hall"))
  | ((with_reducible refine' Tk.Rd.h_ot ?k0 ?k1 fun r H' nr S hr => ?_); (case k0 => walk_at "hall"); (case k1 => first | assumption | omega))
  | ((with_reducible refine' Tk.Rd.h_most2 ?k0 fun v H' S hv => ?_); (case k0 => walk_at "parts"))
  | ((with_reducible refine' Tk.Rd.h_opens2L ?k0 ?k1 fun l ys H' nl S hl hlen hR => ?_); (case k0 => walk_at "parts"); (case k1 => decide))
  | ((with_reducible refine' Tk.Rd.h_opens2 ?k0 ?k1 fun l ys H' nl S hl hlen hR => ?_); (case k0 => walk_at "parts"); (case k1 => first | decide | omega))
  | fail "rd1")
local macro_rules | `(tactic| walk_at "ok") => `(tactic| first
  | assumption
  | ((with_reducible refine' Tk.HallAt.ok ?k0); (case k0 => walk_at "hall"))
  | ((with_reducible refine' Tk.PartsAt.ok ?k0); (case k0 => walk_at "parts"))
  | fail "ok")
local macro_rules | `(tactic| walk_at "sml") => `(tactic| first
  | exact Tk.Sml.ints (by walk_at "szb")
  | exact Tk.Sml.intsT (by walk_at "szb")
  | trivial
  | (simp [Tk.Sml]; done)
  | (simp [Tk.Sml]; omega)
  | fail "sml")
local macro_rules | `(tactic| walk_at "rd1") => `(tactic| first
  | ((with_reducible refine' Tk.Rd.nT ?k0 ?_); (case k0 => with_reducible exact rfl))
  | ((with_reducible refine' Tk.Rd.dT ?k0 ?_); (case k0 => with_reducible exact rfl))
  | with_reducible refine Tk.Rd.nF Tk.Rd.int_non ?_
  | with_reducible refine Tk.Rd.nF Tk.Rd.ref_non ?_
  | with_reducible refine Tk.Rd.dF Tk.Rd.int_non ?_
  | with_reducible refine Tk.Rd.dF Tk.Rd.ref_non ?_
  | ((with_reducible refine' Tk.Rd.h_disp ?k0 ?k1 ?_); (case k0 => first | assumption | omega); (case k1 => walk_at "hall"))
  | ((with_reducible refine' Tk.Rd.h_hold ?k0 ?k1 ?k2 ?k3 fun l H' nl S hl => ?_); (case k0 => walk_at "hall"); (case k1 => first | assumption | omega); (case k2 => first | assumption | omega); (case k3 => first | assumption | omega))
  | ((with_reducible refine' Tk.Rd.h_mis ?k0 ?k1 ?k2 fun l ys H' nl S hl hd => ?_); (case k0 => walk_at "hall"); (case k1 => first | assumption | omega); (case k2 => first | assumption | omega))
  | ((with_reducible refine' Tk.Rd.h_enc ?k0 fun l H' nl S hl => ?_); (case k0 => walk_at "hall"))
  | ((with_reducible refine' Tk.Rd.h_dec ?k0 ?k1 fun h lp H' nh nl S hA => ?_); (case k0 => walk_at "hp"); (case k1 => walk_at "ok"))
  | ((with_reducible refine' Tk.Rd.h_text ?k0 fun H' S => ?_); (case k0 => walk_at "hall"))
  | ((with_reducible refine' Tk.Rd.h_eqd ?k0 ?k1 ?k2 fun H' S => ?_); (case k0 => walk_at "dp"); (case k1 => walk_at "dp"); (case k2 => walk_at "sml"))
  | ((with_reducible refine' Tk.Rd.eqd ?k0 ?k1 ?k2 ?k3 ?_); (case k0 => walk_at "dp"); (case k1 => walk_at "dp"); (case k2 => walk_at "sml"); (case k3 => walk_at "sml"))
  | ((with_reducible refine' Tk.Rd.ned ?k0 ?k1 ?k2 ?k3 ?_); (case k0 => walk_at "dp"); (case k1 => walk_at "dp"); (case k2 => walk_at "sml"); (case k3 => walk_at "sml"))
  | fail "rd1")
/-! ### The program's texts -/
namespace Tk
open PySem PySem.Spec PyProof.Rows L2 Mm
/-- a comprehension over zip of two tuples -/
theorem lc_zipT {K : PySem.W.Frag} {a b : Addr} {xs ys : List V} {g : TG} {tt : L2.TT} {te : TE} {vs : List Nat} {σ : L2.St} {H1 : Hp} {D : Addr} {Qd : Hp → Prop} (hl : xs.length = ys.length) (Pv : Nat → Hp → Prop) (h0 : Pv 0 (upd H1 D (.lst []))) (hq : ∀ i H, i ≤ xs.length → Pv i H → SqT K H a xs ∧ SqT K H b ys)
    (hs : ∀ i x y T H, xs[i]? = some x → ys[i]? = some y → Pv i H → H T = none → g (.ref T) (wipe σ vs) (upd H T (.tup [x, y])) fun σ2 H2 => wipe σ2 vs = wipe σ vs ∧ tt σ2 H2 fun b H3 =>
      if b = true then te σ2 H3 fun y H4 => ∃ acc, H4 D = some (.lst acc) ∧ acc.length < sizeLine ∧ Pv (i + 1) (upd H4 D (.lst (acc ++ [y]))) else Pv (i + 1) H3) (hd : ∀ H, Pv xs.length H → Qd H) :
    ∃ W : Nat → Nat → Hp → Prop, (∃ m, W 0 m (upd H1 D (.lst []))) ∧ ∀ i m H, W i m H →
      ((RZ.ItzT K a b).stop i H ∧ Qd H) ∨ ((RZ.ItzT K a b).go i H ∧ ∃ Nx : Hp → Prop, (∀ H', Nx H' → ∃ m', m' < m ∧ W (i + 1) m' H') ∧ ∀ x H', (RZ.ItzT K a b).yld i H x H' → g x (wipe σ vs) H' fun σ2 H2 => wipe σ2 vs = wipe σ vs ∧ tt σ2 H2 fun b H3 =>
        if b = true then te σ2 H3 fun y H4 => ∃ acc, H4 D = some (.lst acc) ∧ acc.length < sizeLine ∧ Nx (upd H4 D (.lst (acc ++ [y]))) else Nx H3) := by
  refine ⟨fun i m H => m = xs.length - i ∧ i ≤ xs.length ∧ Pv i H, ⟨xs.length, by simp, Nat.zero_le _, h0⟩, ?_⟩
  rintro i m H ⟨rfl, hi, p⟩
  obtain ⟨qx, qy⟩ := hq i H hi p
  by_cases hlt : i < xs.length
  · have hx : xs[i]? = some xs[i] := List.getElem?_eq_getElem hlt
    have hlt2 : i < ys.length := by omega
    have hy : ys[i]? = some ys[i] := List.getElem?_eq_getElem hlt2
    refine .inr ⟨⟨xs, ys, _, _, qx, qy, hx, hy⟩, Pv (i + 1), fun H' p' => ⟨xs.length - (i + 1), by omega, rfl, hlt, p'⟩, fun v H' y => ?_⟩
    obtain ⟨T, x', y', rfl, hT, rfl, f1, f2⟩ := y
    exact hs i x' y' T H (f1 xs qx) (f2 ys qy) p hT
  · have e : i = xs.length := by omega
    subst e
    exact .inl ⟨⟨xs, ys, qx, qy, Or.inl (Nat.le_refl _)⟩, hd H p⟩
theorem lc_zpT {K : PySem.W.Frag} {H : Hp} {Q : VK} {σ : L2.St} {te : TE} {a b : Addr} {xs ys : List V} {vs : List Nat} {i j : Nat} (f : Nat → V) (hl : xs.length = ys.length) (ha : SqT K H a xs) (hb : SqT K H b ys) (hn : xs.length ≤ 100000)
    (hw : ∀ x y : V, wipe (((wipe σ vs).set i (some x)).set j (some y)) vs = wipe σ vs) (hs : ∀ (n : Nat) x y, xs[n]? = some x → ys[n]? = some y → ∀ H', Same H H' → ∀ Q' : VK, (∀ H'', Same H' H'' → Q' (f n) H'') → te (((wipe σ vs).set i (some x)).set j (some y)) H' Q')
    (k : ∀ D H', H D = none → Same H H' → H' D = some (.lst ((List.range xs.length).map f)) → Q (.ref D) H') : Rd.lcK (gTup K 2 (gCons (gName i) (gCons (gName j) gNil))) tYes te vs σ Q (RZ.ItzT K a b) H := fun D hD => by
  refine lc_zipT hl (fun n H2 => Same H H2 ∧ H2 D = some (.lst ((List.range n).map f))) ⟨Same.new hD, upd_same⟩ (fun n H2 _ ⟨S2, _⟩ => ⟨sqt_sm S2 ha, sqt_sm S2 hb⟩) ?_ fun H2 ⟨S2, h2⟩ => k D H2 hD S2 h2
  rintro n x y Tp H2 hx hy ⟨S2, h2⟩ hT
  have hi : n < xs.length := (List.getElem?_eq_some_iff.mp hx).1
  have S3 : Same H2 (upd H2 Tp (.tup [x, y])) := Same.new hT
  refine ⟨Tp, _, rfl, SqT.of upd_same, rfl, _, _, rfl, _, _, rfl, rfl, hw x y, ?_⟩
  refine Rd.yes (Rd.ift (hs n x y hx hy _ (S2.trans S3) _ fun H4 S4 => ⟨_, S4 _ _ (S3 _ _ h2), Nat.lt_of_le_of_lt (m := 100000) (by simp; omega) (by decide), fun b o e => ?_, ?_⟩))
  · rw [upd_ne (ne_of_none e hD)]
    exact S4 _ _ (S3 _ _ (S2 _ _ e))
  · rw [upd_same, List.range_succ, List.map_append]
    rfl
/-- numbers of a line -/
structure Lno (w : Str) (ns : List Nat) : Prop where
  w8 : w.length ≤ 8
  fr : 32 ∉ TL.tl w
  n12 : ns.length ≤ 12
  n4 : ∀ n ∈ ns, n ≤ 10000
theorem hall_lno {m lt : Nat} {tk cl : List Nat} (h : Parts m tk cl lt) : Lno "modulus" [m] ∧ Lno "takes" tk ∧ Lno "calls" cl ∧ Lno "lateness" [lt] := by
  have a := h.m4
  have b := h.l99
  refine ⟨⟨by decide +kernel, by decide +kernel, by simp, by simp; omega⟩, ⟨by decide +kernel, by decide +kernel, h.tkP.len, fun n hn => ?_⟩, ⟨by decide +kernel, by decide +kernel, h.clP.len, fun n hn => ?_⟩, ⟨by decide +kernel, by decide +kernel, by simp, by simp; omega⟩⟩
  · have := h.tkP.nine n hn
    omega
  · have := h.clP.nine n hn
    omega
theorem hall_txt {m lt : Nat} {tk cl : List Nat} (h : Parts m tk cl lt) : ((Tx.lns m tk cl lt).map (·.length)).sum + (Tx.lns m tk cl lt).length * ("\n" : Str).length ≤ 400 ∧ (Tx.txt m tk cl lt).length ≤ 400 := by
  obtain ⟨a1, a2, a3, a4⟩ := hall_lno h
  have a := h.m4
  have b := h.l99
  exact ⟨Tx.lns_size a a2.n12 a2.n4 a3.n12 a3.n4 (by omega), Tx.txt_len a a2.n12 a2.n4 a3.n12 a3.n4 (by omega)⟩
def spWl : Sp := fun vs H Q _ => ∃ (w : Str) (p : Addr) (ns : List Nat), vs = [.str w, .ref p] ∧ H p = some (.tup (ns.map vn)) ∧ Lno w ns ∧ ∀ H', Same H H' → Q (.str (Tx.ln w ns)) H'
def spIsn : Sp := fun vs H Q _ => ∃ n : Nat, vs = [.str (Tx.nS n)] ∧ n ≤ 10000 ∧ Q (.bl true) H
def spRl : Sp := fun vs H Q _ => ∃ (w : Str) (ns : List Nat), vs = [.str (Tx.ln w ns)] ∧ Lno w ns ∧ ((w = "modulus" ∨ w = "lateness") → ns.length = 1) ∧ ((w = "undo" ∨ w = "redo") → ns.length = 0) ∧
  ∀ t l H', Same H H' → H' t = some (.tup [.str w, .ref l]) → H' l = some (.lst (ns.map vn)) → Q (.ref t) H'
def spRhl : Sp := fun vs H Q _ => ∃ (p : Addr) (m lt : Nat) (tk cl : List Nat), vs = [.ref p] ∧ H p = some (.lst ((Tx.lns m tk cl lt).map V.str)) ∧ Parts m tk cl lt ∧
  ∀ f a b c d H', Same H H' → H' f = some (.lst [.ref a, .ref b, .ref c, .ref d]) → H' a = some (.lst [vn m]) → H' b = some (.lst (tk.map vn)) → H' c = some (.lst (cl.map vn)) → H' d = some (.lst [vn lt]) → Q (.ref f) H'
def spText (C : Addr) : Sp := fun vs H Q _ => ∃ (h lp : Addr) (m lt : Nat) (tk cl : List Nat), vs = [.ref h] ∧ HallAt C H h m tk cl lt lp ∧ ∀ H', Same H H' → Q (.str (Tx.txt m tk cl lt)) H'
def spParse (C : Addr) : Sp := fun vs H Q _ => ∃ (m lt : Nat) (tk cl : List Nat), vs = [.ref C, .str (Tx.txt m tk cl lt)] ∧ Parts m tk cl lt ∧
  ∀ h lp H', H h = none → H lp = none → Same H H' → HallAt C H' h m tk cl lt lp → Q (.ref h) H'
section
variable {P : Program} {w : World} {K : PySem.W.Frag} {mg : Str → Option Value} {base : Heap}
theorem take_succ_of {α : Type} {l : List α} {i : Nat} {x : α} (e : l[i]? = some x) : l.take (i + 1) = l.take i ++ [x] := by
  rw [List.take_succ, e]
  rfl
theorem vn_at {ns : List Nat} {i : Nat} {x : V} (h : (ns.map vn)[i]? = some x) : ∃ n, x = vn n ∧ ns[i]? = some n := by
  rw [List.getElem?_map] at h
  cases e : ns[i]? with
  | none => rw [e] at h; cases h
  | some n =>
    rw [e] at h
    exact ⟨n, (Option.some.inj h).symm, rfl⟩
theorem str_at {ns : List Str} {i : Nat} {x : V} (h : (ns.map V.str)[i]? = some x) : ∃ n, x = .str n ∧ ns[i]? = some n := by
  rw [List.getElem?_map] at h
  cases e : ns[i]? with
  | none => rw [e] at h; cases h
  | some n =>
    rw [e] at h
    exact ⟨n, (Option.some.inj h).symm, rfl⟩
/-- the words and the numbers of the lines -/
def nms : List Str := ["modulus", "takes", "calls", "lateness"]
def nss (m : Nat) (tk cl : List Nat) (lt : Nat) : List (List Nat) := [[m], tk, cl, [lt]]
theorem line_at {m lt : Nat} {tk cl : List Nat} (h : Parts m tk cl lt) {i : Nat} (hi : i < 4) {w : Str} (hw : nms[i]? = some w) :
    ∃ ns, (nss m tk cl lt)[i]? = some ns ∧ (Tx.lns m tk cl lt)[i]? = some (Tx.ln w ns) ∧ Lno w ns ∧ ((w = "modulus" ∨ w = "lateness") → ns.length = 1) := by
  obtain ⟨L1, L2, L3, L4⟩ := hall_lno h
  have : i = 0 ∨ i = 1 ∨ i = 2 ∨ i = 3 := by omega
  rcases this with rfl | rfl | rfl | rfl <;> (obtain rfl := Option.some.inj hw)
  · exact ⟨_, rfl, rfl, L1, fun _ => rfl⟩
  · exact ⟨_, rfl, rfl, L2, fun q => by rcases q with q | q <;> exact absurd q (by decide +kernel)⟩
  · exact ⟨_, rfl, rfl, L3, fun q => by rcases q with q | q <;> exact absurd q (by decide +kernel)⟩
  · exact ⟨_, rfl, rfl, L4, fun _ => rfl⟩
theorem log_small {n : Nat} (h : n ≤ 10000) : ((n : Int)).natAbs.log2 < 1920 := by
  have e : ((n : Int)).natAbs = n := Int.natAbs_natCast n
  rw [e]
  rcases Nat.eq_zero_or_pos n with z | z
  · rw [z]
    decide
  · exact (Nat.log2_lt (by omega)).mpr (Nat.lt_of_le_of_lt h (by decide))
theorem ok_write_line (T : Txt K mg) : OkF P w K mg base 1 (He.ga K "write_line") ["word", "numbers"] spWl := by
  refine FnP.okF T.f_write_line sc_write_line (fun _ _ _ _ _ _ us hl => match us, hl with | [_, _], _ => rfl) (fun vs H Q E h => ?_) (fun cdv A outer s H vs Q E hr h => ?_)
  · obtain ⟨w, p, ns, rfl, _⟩ := h
    rfl
  obtain ⟨w, p, ns, rfl, hp, hL, k⟩ := h
  refine ⟨_, (pss_one (ps_ret (pe_joinR (K := K) pe_str (pe_op op_cat (pe_lst (pa_cons (pv 0) pa_nil)) (pe_lc (own := [("number", 2)]) (g := gName 2) (tt := tYes) (by rfl) sc_write_line.nd (pi_tupK (K := K) (pv 1)) (blkOk_by (own := [("number", 2)]) (N := N_write_line) (sc := (defScope s_write_line)) (by decide +kernel)) (fun _ _ _ _ _ => pg_name (i := 2) sc_write_line.nd rfl (Or.inl rfl)) (fun _ _ _ _ _ => pts_nil) (fun _ _ _ _ _ => (pe_callTy (show CallR _ (.type "str") Rd.rStrI from call_str_int) (by rfl) T.g_str (by decide +kernel) (pa_cons (pv 2) pa_nil)))))))), ?_⟩
  refine ⟨⟨_, rfl⟩, ?_⟩
  refine ⟨_, rfl, (by show 1 ≤ sizeLine; decide), fun l hl => ?_⟩
  have S1 : Same H (upd H l (.lst [.str w])) := Same.new hl
  have h1 : upd H l (.lst [.str w]) l = some (.lst [.str w]) := upd_same
  generalize upd H l (.lst [.str w]) = H1 at S1 h1
  refine ⟨_, rfl, p, rfl, ⟨_, SqT.of (S1 _ _ hp)⟩, fun D hD => ?_⟩
  refine lc_tup (K := K) (a := p) (xs := ns.map vn) (fun i H2 => Same H1 H2 ∧ H2 D = some (.lst (((ns.take i).map Tx.nS).map V.str))) ⟨Same.new hD, upd_same⟩ (fun i H2 _ ⟨S2, _⟩ => SqT.of (S2 _ _ (S1 _ _ hp))) ?_ ?_
  · rintro i x H2 hx ⟨S2, h2⟩
    rw [List.getElem?_map] at hx
    cases e : ns[i]? with
    | none => rw [e] at hx; cases hx
    | some n =>
      rw [e] at hx
      obtain rfl : vn n = x := Option.some.inj hx
      have n4 := hL.n4 n (List.mem_of_getElem? e)
      have il := (List.getElem?_eq_some_iff.mp e).1
      have n12 := hL.n12
      refine ⟨rfl, _, rfl, _, rfl, log_small n4, _, h2, Nat.lt_of_le_of_lt (m := 12) (by simp; omega) (by decide), fun b o eb => ?_, ?_⟩
      · rw [upd_ne (ne_of_none eb hD)]
        exact S2 _ _ eb
      · rw [upd_same, take_succ_of e, List.map_append, List.map_append]
        rfl
  · rintro H2 ⟨S2, h2⟩
    rw [List.length_map, List.take_length] at h2
    refine ⟨l, D, _, _, rfl, rfl, S2 _ _ h1, h2, ?_, fun q hq => ?_⟩
    · have := hL.n12
      exact Nat.le_trans (m := 20) (by simp; omega) (by decide)
    refine ⟨_, q, w :: ns.map Tx.nS, rfl, rfl, .inl (SqL.of (by rw [upd_same]; rfl)), Tx.ln_size hL.w8 hL.n12 hL.n4, ?_⟩
    exact k _ ((S1.trans S2).trans (Same.new hq))
theorem ok_text (T : Txt K mg) : OkF P w K mg base 2 (getAt K (He.ga K "Hall") "text") ["self"] (spText (He.ga K "Hall")) := by
  have G_write_line : OkF P w K mg base 1 (He.ga K "write_line") ["word", "numbers"] spWl := ok_write_line T
  refine FnP.okF T.f_text sc_text (fun _ _ _ _ _ _ us hl => match us, hl with | [_], _ => rfl) (fun vs H Q E h => ?_) (fun cdv A outer s H vs Q E hr h => ?_)
  · obtain ⟨h, lp, m, lt, tk, cl, rfl, _⟩ := h
    rfl
  obtain ⟨h, lp, m, lt, tk, cl, rfl, hA, k⟩ := h
  obtain ⟨dx, tp, cp, hh, htp, hcp⟩ := hA.ex
  obtain ⟨z1, z2⟩ := hall_txt hA.ok
  refine ⟨_, (pss_cons (ps_set (i := 1) sc_text.nd rfl (Or.inl rfl) (pe_tup (pa_cons (pe_tup (pa_cons (pe_fld (pv 0) rfl) pa_nil)) (pa_cons (pe_fld (pv 0) rfl) (pa_cons (pe_fld (pv 0) rfl) (pa_cons (pe_tup (pa_cons (pe_fld (pv 0) rfl) pa_nil)) pa_nil))))))
    (pss_one (ps_ret (pe_joinR (K := K) pe_str (pe_lc (own := [("word", 2), ("numbers", 3)]) (g := gTup K 2 (gCons (gName 2) (gCons (gName 3) gNil))) (tt := tYes) (by rfl) sc_text.nd (RZ.pi_zipA (by rfl) T.g_zip (pa_cons (pe_glob (v := .ref (He.ga K "HALL_WORDS")) (by rfl) T.g_HALL_WORDS rfl) (pa_cons (pv 1) pa_nil))) (blkOk_by (own := [("word", 2), ("numbers", 3)]) (N := N_text) (sc := (defScope s_text)) (by decide +kernel)) (fun _ _ _ _ _ => pg_tup rfl (pgs_cons (pg_name (i := 2) sc_text.nd rfl (Or.inl rfl) (by first | exact Or.inr rfl | exact Or.inl rfl)) (pgs_cons (pg_name (i := 3) sc_text.nd rfl (Or.inl rfl) (by first | exact Or.inr rfl | exact Or.inl rfl)) pgs_nil))) (fun _ _ _ _ _ => pts_nil) (fun _ _ _ _ _ => (pe_call G_write_line.one (hr.mono (by decide)) (by rfl) T.g_write_line G_write_line.kp G_write_line.two .nil passL (pa_cons (pv 2) (pa_cons (pv 3) pa_nil))))))))), ?_⟩
  walk_at "rd"
  rename_i t1 H1 n1 S1 ht1 tp hp1 cp hp2 t2 H2 n2 S2 ht2 t3 H3 n3 S3 ht3
  have sT := SqT.of (K := K) ht3
  refine Rd.zipK_t (T.t_HALL_WORDS H3) sT ?_
  refine lc_zpT (xs := nms.map V.str) (ys := [.ref t1, .ref tp, .ref cp, .ref t2]) (fun i => .str ((Tx.lns m tk cl lt).getD i "")) rfl (T.t_HALL_WORDS H3) sT (by simp [nms]) (fun x y => rfl) (fun i x y hx hy H' S Q' q => ?_) fun D H4 nD S4 h4 => ?_
  · obtain ⟨w, rfl, hw⟩ := str_at hx
    have i4 : i < 4 := (List.getElem?_eq_some_iff.mp hw).1
    obtain ⟨ns, hns, hln, hlo, hl1⟩ := line_at hA.ok i4 hw
    rw [Rd.getD_of hln] at q
    obtain ⟨p, rfl, hp⟩ : ∃ p, y = .ref p ∧ H3 p = some (.tup (ns.map vn)) := by
      have : i = 0 ∨ i = 1 ∨ i = 2 ∨ i = 3 := by omega
      rcases this with rfl | rfl | rfl | rfl <;> (obtain rfl := Option.some.inj hy) <;> (obtain rfl := Option.some.inj hns)
      · exact ⟨t1, rfl, S3 _ _ (S2 _ _ ht1)⟩
      · exact ⟨tp, rfl, S3 _ _ (S2 _ _ hp1)⟩
      · exact ⟨cp, rfl, S3 _ _ (S2 _ _ hp2)⟩
      · exact ⟨t2, rfl, S3 _ _ ht2⟩
    walk_at "rd"
    exact ⟨w, p, ns, rfl, S _ _ hp, hlo, q⟩
  · have e : (List.range (nms.map V.str).length).map (fun i => V.str ((Tx.lns m tk cl lt).getD i "")) = (Tx.lns m tk cl lt).map V.str := Rd.range_get (Tx.lns m tk cl lt) "" V.str
    rw [e] at h4
    refine Rd.join (SqL.of h4) (by omega) ?_
    exact k _ (((S1.trans S2).trans S3).trans S4)
end
namespace Rd
theorem h_text {H : Hp} {Q : VK} {E : XK} {C h lp : Addr} {m lt : Nat} {tk cl : List Nat} (hA : HallAt C H h m tk cl lt lp) (k : ∀ H', Same H H' → Q (.str (Tx.txt m tk cl lt)) H') : spText C [.ref h] H Q E := ⟨h, lp, m, lt, tk, cl, rfl, hA, k⟩
end Rd
end Tk

end

/-! ### Slices -/
namespace Tk
open PySem PySem.Spec PyProof.Rows L2
theorem cut_pre (xs : List V) (n : Nat) : cutV xs none (some (n : Int)) = xs.take n := by
  unfold cutV
  rw [HT.sIx_none, HT.sIx_nat, List.drop_zero, Nat.sub_zero]
  rcases Nat.le_total n xs.length with h | h
  · rw [Nat.min_eq_left h]
  · rw [Nat.min_eq_right h, List.take_of_length_le h, List.take_length]
theorem cut_preI (xs : List V) {z : Int} {n : Nat} (e : z = (n : Int)) : cutV xs none (some z) = xs.take n := by
  rw [e]
  exact cut_pre xs n
theorem cut_suf (xs : List V) (n : Nat) : cutV xs (some (n : Int)) none = xs.drop n := by
  unfold cutV
  rw [HT.sIx_none, HT.sIx_nat]
  rcases Nat.le_total n xs.length with h | h
  · rw [Nat.min_eq_left h, List.take_of_length_le (by simp)]
  · rw [Nat.min_eq_right h, List.drop_of_length_le h]
    simp
theorem cut_sufI (xs : List V) {z : Int} {n : Nat} (e : z = (n : Int)) : cutV xs (some z) none = xs.drop n := by
  rw [e]
  exact cut_suf xs n
theorem cut_mid (xs : List V) (a b : Nat) : cutV xs (some (a : Int)) (some (b : Int)) = (xs.drop a).take (b - a) := by
  unfold cutV
  rw [HT.sIx_nat, HT.sIx_nat]
  refine List.ext_getElem? fun i => ?_
  rw [List.getElem?_take, List.getElem?_take, List.getElem?_drop, List.getElem?_drop]
  rcases Nat.le_total a xs.length with h | h
  · rw [Nat.min_eq_left h]
    by_cases c : i < b - a
    · by_cases c2 : i < min b xs.length - a
      · rw [if_pos c, if_pos c2]
      · rw [if_pos c, if_neg c2, List.getElem?_eq_none (by omega)]
    · rw [if_neg c, if_neg (by omega)]
  · rw [Nat.min_eq_right h, if_neg (by omega)]
    split
    · rw [List.getElem?_eq_none (by omega)]
    · rfl
/-- without the last item -/
theorem cut_init (xs : List V) : cutV xs none (some (-1)) = xs.dropLast := by
  unfold cutV
  rw [HT.sIx_none]
  have e : HT.sIx xs.length xs.length (some (-1)) = xs.length - 1 := by
    show (if (-1 : Int) < 0 then ((-1 : Int) + (xs.length : Int)).toNat else min (-1 : Int).toNat xs.length) = _
    rw [if_pos (by decide)]
    omega
  rw [e, List.drop_zero, List.dropLast_eq_take]
  rfl
end Tk

/-! ### tick_of, by what its function counts -/
namespace Tk
open PySem PySem.Spec PyProof.Rows L2 Mm LamX
/-- what tick_of answers: F counts, p is the period -/
inductive TickIs (F : Nat → Nat) (p n : Nat) : V → Prop where
  | no (h1 : F p ≤ n) (h2 : F (2 * p) = F p) : TickIs F p n .non
  | at_ (T : Nat) (h1 : F T ≤ n) (h2 : n < F (T + 1)) (h3 : n < F p ∨ F (2 * p) ≠ F p) : TickIs F p n (vn T)
section
variable {X : Cx}
def TTick (c' : Addr) (q : Str) (tl : V → Hp → VK → Prop) (ys : List V) (H : Hp) (Q : VK) : Prop := ∃ (p n : Nat) (F : Nat → Nat), ys = [vn p, vn n] ∧ H c' = some (CodeO c' q) ∧ Per p F ∧ (∀ t, F t ≤ F (t + 1)) ∧ F 0 = 0 ∧
  (∀ (z : Nat) H1 Q1, Same H H1 → (∀ H', Same H1 H' → Q1 (vn (F z)) H') → tl (vn z) H1 Q1) ∧ ∀ v H', Same H H' → TickIs F p n v → Q v H'
end
end Tk

/-! ### tick_of_take, tick_of_call, ticket_times, display -/
namespace Tk
open PySem PySem.Spec PyProof.Rows L2 Mm LamX
def spTickOf (K : PySem.W.Frag) (C : Addr) (F : List Nat → List Nat → Nat → Nat) : Sp := fun vs H Q _ => ∃ (h lp : Addr) (n m lt : Nat) (tk cl : List Nat), vs = [.ref h, vn n] ∧ HallAt C H h m tk cl lt lp ∧ Tabs (TT K) H ∧
  ∀ v H', Ext K H H' → TickIs (F tk cl) (per tk cl) n v → Q v H'
section
variable {P : Program} {w : World} {K : PySem.W.Frag} {mg : Str → Option Value} {base : Heap}
/-- what ticket_times answers -/
inductive TimesIs (tk cl : List Nat) (n : Nat) (H : Hp) : V → Prop where
  | no (h : TickIs (tak tk) (per tk cl) n .non) : TimesIs tk cl n H .non
  | at_ (T : Nat) (v : V) (r : Addr) (hr : H r = some (.tup [vn T, v])) (h1 : TickIs (tak tk) (per tk cl) n (vn T)) (h2 : TickIs (cal tk cl) (per tk cl) n v) : TimesIs tk cl n H (.ref r)
def spTimes (K : PySem.W.Frag) (C : Addr) : Sp := fun vs H Q _ => ∃ (h lp : Addr) (n m lt : Nat) (tk cl : List Nat), vs = [.ref h, vn n] ∧ n ≤ 1000000000000000000 ∧ HallAt C H h m tk cl lt lp ∧ Tabs (TT K) H ∧
  ∀ v H', Ext K H H' → TimesIs tk cl n H' v → Q v H'
def dispV (m : Nat) (tk cl : List Nat) (t : Nat) : V := if cal tk cl (t + 1) = 0 then .non else vn ((cal tk cl (t + 1) - 1) % m)
def spDisplay (C : Addr) : Sp := fun vs H Q _ => ∃ (h lp : Addr) (t m lt : Nat) (tk cl : List Nat), vs = [.ref h, vn t] ∧ t ≤ 1000000000000000000 ∧ HallAt C H h m tk cl lt lp ∧ Q (dispV m tk cl t) H
end
end Tk

/-! ### tells, first_error -/
namespace Tk
open PySem PySem.Spec PyProof.Rows L2 Mm
/-- a loop over enumerate(a list) -/
theorem for_enumL {K : PySem.W.Frag} {a : Addr} {xs : List V} {g : TG} {tb : TS} {D : Ends} {σ : L2.St} {H : Hp} (Pv : Nat → L2.St → Hp → Prop) (h0 : Pv 0 σ H) (hl : ∀ i σ H, i ≤ xs.length → Pv i σ H → SqL K H a xs)
    (hs : ∀ i x σ H, xs[i]? = some x → Pv i σ H → ∀ T, H T = none → g (.ref T) σ (upd H T (.tup [vn i, x])) fun σ2 H2 => tb { D with nx := Pv (i + 1), ct := Pv (i + 1), bk := D.nx } σ2 H2) (hd : ∀ σ H, Pv xs.length σ H → D.nx σ H) :
    ∃ W : Nat → Nat → L2.St → Hp → Prop, (∃ m, W 0 m σ H) ∧ ∀ i m σ H, W i m σ H →
      ((Ite K a).stop i H ∧ D.nx σ H) ∨ ((Ite K a).go i H ∧ ∃ N : L2.St → Hp → Prop, (∀ σ' H', N σ' H' → ∃ m', m' < m ∧ W (i + 1) m' σ' H') ∧ ∀ x H', (Ite K a).yld i H x H' → g x σ H' fun σ2 H2 => tb { D with nx := N, ct := N, bk := D.nx } σ2 H2) := by
  refine ⟨fun i m σ H => m = xs.length - i ∧ i ≤ xs.length ∧ Pv i σ H, ⟨_, rfl, Nat.zero_le _, h0⟩, fun i m σ H w => ?_⟩
  obtain ⟨rfl, hi, p⟩ := w
  have sq := hl i σ H hi p
  rcases Nat.lt_or_ge i xs.length with lt | ge
  · have at_ : xs[i]? = some xs[i] := by simp [lt]
    refine .inr ⟨⟨xs, xs[i], sq, at_⟩, Pv (i + 1), fun σ' H' p' => ⟨_, (by omega : xs.length - (i + 1) < xs.length - i), rfl, lt, p'⟩, fun x H' y => ?_⟩
    obtain ⟨T, x', rfl, hT, rfl, hx⟩ := y
    exact hs i x' σ H (hx xs sq) p T hT
  · obtain rfl : i = xs.length := by omega
    exact .inl ⟨⟨xs, sq, Nat.le_refl _⟩, hd σ H p⟩
/-- an item of a log -/
def Itm (x : V) : Prop := x = .non ∨ ∃ i : Int, x = .int i
theorem itm_disp {m : Nat} {tk cl : List Nat} {t : Nat} : dispV m tk cl t = .non ∨ ∃ n : Nat, dispV m tk cl t = vn n := by
  unfold dispV
  by_cases h : cal tk cl (t + 1) = 0
  · rw [if_pos h]
    exact .inl rfl
  · rw [if_neg h]
    exact .inr ⟨_, rfl⟩
theorem disp_itm {m : Nat} {tk cl : List Nat} {t : Nat} : Itm (dispV m tk cl t) := by
  rcases itm_disp (m := m) (tk := tk) (cl := cl) (t := t) with h | ⟨n, h⟩
  · exact .inl h
  · exact .inr ⟨_, h⟩
def spTells : Sp := fun vs H Q _ => ∃ x y : V, vs = [x, y] ∧ Itm x ∧ (y = .non ∨ ∃ n : Nat, y = vn n) ∧ Q (.bl (decide (x = y))) H
/-- what first_error answers -/
inductive ErrV (m : Nat) (tk cl : List Nat) (xs : List V) : V → Prop where
  | no (h : ∀ (i : Nat) x, xs[i]? = some x → x = dispV m tk cl i) : ErrV m tk cl xs .non
  | at_ (i : Nat) (x : V) (hx : xs[i]? = some x) (hn : x ≠ dispV m tk cl i) (h : ∀ (j : Nat) y, j < i → xs[j]? = some y → y = dispV m tk cl j) : ErrV m tk cl xs (vn i)
def spErr (C : Addr) : Sp := fun vs H Q _ => ∃ (h lp l : Addr) (m lt : Nat) (tk cl : List Nat) (xs : List V), vs = [.ref h, .ref l] ∧ HallAt C H h m tk cl lt lp ∧ H l = some (.lst xs) ∧ xs.length ≤ 100000 ∧ (∀ x ∈ xs, Itm x) ∧ ∀ v H', Same H H' → ErrV m tk cl xs v → Q v H'
section
variable {P : Program} {w : World} {K : PySem.W.Frag} {mg : Str → Option Value} {base : Heap}
end
namespace Rd
variable {K : PySem.W.Frag} {H : Hp} {Q : VK} {E : XK} {C h lp : Addr} {m lt : Nat} {tk cl : List Nat}
theorem h_disp {n : Nat} (hn : n ≤ 1000000000000000000) (hA : HallAt C H h m tk cl lt lp) (k : Q (dispV m tk cl n) H) : spDisplay C [.ref h, .int (n : Int)] H Q E := ⟨h, lp, n, m, lt, tk, cl, rfl, hn, hA, k⟩
theorem h_err {l : Addr} {xs : List V} (hA : HallAt C H h m tk cl lt lp) (hl : H l = some (.lst xs)) (hn : xs.length ≤ 100000) (hi : ∀ x ∈ xs, Itm x) (k : ∀ v H', Same H H' → ErrV m tk cl xs v → Q v H') : spErr C [.ref h, .ref l] H Q E := ⟨h, lp, l, m, lt, tk, cl, xs, rfl, hA, hl, hn, hi, k⟩
end Rd
end Tk

section
local macro_rules | `(tactic| walk_at "hp") => `(tactic| first
  | assumption
  | with_reducible exact L2.upd_same
  | ((with_reducible refine' Tk.Same.get ?k0 ?k1); (case k0 => assumption); (case k1 => walk_at "hp"))
  | fail "hp")
local macro_rules | `(tactic| walk_at "same") => `(tactic| first
  | assumption
  | exact L2.Same.refl _
  | ((with_reducible refine' Tk.Same.nw ?k0 ?k1); (case k0 => assumption); (case k1 => walk_at "same"))
  | ((with_reducible refine' Tk.Same.tr ?k0 ?k1); (case k0 => assumption); (case k1 => walk_at "same")))
local macro_rules | `(tactic| walk_at "sql") => `(tactic| first
  | assumption
  | ((with_reducible refine' L2.SqL.of ?k0); (case k0 => walk_at "hp"))
  | ((with_reducible refine' L2.Same.seq ?k0 ?k1); (case k0 => assumption); (case k1 => walk_at "sql")))
local macro_rules | `(tactic| walk_at "sqt") => `(tactic| first
  | assumption
  | ((with_reducible refine' L2.SqT.of ?k0); (case k0 => walk_at "hp"))
  | ((with_reducible refine' Tk.sqt_sm ?k0 ?k1); (case k0 => assumption); (case k1 => walk_at "sqt")))
local macro_rules | `(tactic| walk_at "sz") => `(tactic| first
  | (show (_ : Nat) ≤ 1000; decide)
  | (simp; done)
  | (simp; omega))
local macro_rules | `(tactic| walk_at "szb") => `(tactic| first
  | assumption
  | (show (_ : Nat) ≤ 100000; decide)
  | (simp; done)
  | (simp; omega))
local macro_rules | `(tactic| walk_at "dp") => `(tactic| first
  | assumption
  | with_reducible exact L2.Dp.non
  | with_reducible exact L2.Dp.int _
  | with_reducible exact L2.Dp.str _
  | with_reducible exact L2.Dp.bl _
  | ((with_reducible refine' L2.Dp.lst ?k0 ?k1); (case k0 => walk_at "sql"); (case k1 => walk_at "dpa"))
  | ((with_reducible refine' L2.Dp.tup ?k0 ?k1); (case k0 => walk_at "sqt"); (case k1 => walk_at "dpa"))
  | ((with_reducible refine' Tk.dp_sm ?k0 ?k1); (case k0 => assumption); (case k1 => walk_at "dp"))
  | fail "dp")
local macro_rules | `(tactic| walk_at "dpa") => `(tactic| first
  | assumption
  | with_reducible exact L2.DpAll.nil
  | ((with_reducible refine' L2.DpAll.cons ?k0 ?k1); (case k0 => walk_at "dp"); (case k1 => walk_at "dpa"))
  | with_reducible exact Tk.dp_nats _
  | ((with_reducible refine' Tk.dpA_sm ?k0 ?k1); (case k0 => assumption); (case k1 => walk_at "dpa"))
  | fail "dpa")
local macro_rules | `(tactic| walk_at "ci") => `(tactic| first
  | exact .inl ⟨by decide, by decide⟩
  | exact .inr ⟨by decide, by decide⟩
  | exact .inl ⟨by omega, by omega⟩
  | exact .inr ⟨by omega, by omega⟩
  | exact ⟨by decide, by decide⟩
  | exact ⟨by omega, by omega⟩
  | (show (0 : Int) < _; decide)
  | (show (0 : Int) < _; omega))
local macro_rules | `(tactic| walk_at "rd1") => `(tactic| first
  | with_reducible refine Tk.Rd.seq ?_
  | with_reducible refine Tk.Rd.star ?_
  | with_reducible refine Tk.Rd.int1_i ?_
  | with_reducible refine Tk.Rd.int1_b ?_
  | with_reducible refine Tk.Rd.tlc2 ?_
  | with_reducible refine Tk.Rd.lrg3 ?_
  | with_reducible refine Tk.Rd.lrg ?_
  | with_reducible refine Tk.Rd.rg1 ?_
  | with_reducible refine Tk.Rd.rg1K_i ?_
  | with_reducible refine Tk.Rd.rg2 ?_
  | with_reducible refine Tk.Rd.rg2K_i ?_
  | ((with_reducible refine' Tk.Rd.catL ?k0 ?k1 ?k2 fun p H' np S hp => ?_); (case k0 => walk_at "hp"); (case k1 => walk_at "hp"); (case k2 => walk_at "szb"))
  | ((with_reducible refine' Tk.Rd.starK_t ?k0 ?_); (case k0 => walk_at "sqt"))
  | ((with_reducible refine' Tk.Rd.starK_l ?k0 ?_); (case k0 => walk_at "sql"))
  | ((with_reducible refine' Tk.Rd.var ?k0 ?_); (case k0 => exact rfl))
  | with_reducible refine Tk.Rd.c ?_
  | with_reducible refine Tk.Rd.op ?_
  | with_reducible refine Tk.Rd.i0 ?_
  | with_reducible refine Tk.Rd.asg ?_
  | with_reducible refine Tk.Rd.name ?_
  | with_reducible refine Tk.Rd.cons ?_
  | with_reducible refine Tk.Rd.nil ?_
  | with_reducible refine Tk.Rd.call ?_
  | with_reducible refine Tk.Rd.callK_i ?_
  | with_reducible refine Tk.Rd.tst ?_
  | with_reducible refine Tk.Rd.bv ?_
  | with_reducible refine Tk.Rd.toB_i ?_
  | with_reducible refine Tk.Rd.ift ?_
  | with_reducible refine Tk.Rd.iff ?_
  | with_reducible refine Tk.Rd.ifnt ?_
  | with_reducible refine Tk.Rd.ifnf ?_
  | with_reducible refine Tk.Rd.not ?_
  | with_reducible refine Tk.Rd.and ?_
  | with_reducible refine Tk.Rd.or ?_
  | with_reducible refine Tk.Rd.andV ?_
  | with_reducible refine Tk.Rd.andK_i ?_
  | with_reducible refine Tk.Rd.orV ?_
  | with_reducible refine Tk.Rd.orK_i ?_
  | with_reducible refine Tk.Rd.notV ?_
  | with_reducible refine Tk.Rd.notK_i ?_
  | with_reducible refine Tk.Rd.tif ?_
  | with_reducible refine Tk.Rd.yes ?_
  | with_reducible refine Tk.Rd.tfor ?_
  | with_reducible refine Tk.Rd.tlc ?_
  | with_reducible refine Tk.Rd.rng ?_
  | ((with_reducible refine' Tk.Rd.rngK_n ?k0 ?_); (case k0 => first | decide | omega))
  | ((with_reducible refine' Tk.Rd.rngK_lit ?k0 ?_); (case k0 => decide))
  | with_reducible refine Tk.Rd.rng2 ?_
  | with_reducible refine Tk.Rd.rng3 ?_
  | with_reducible refine Tk.Rd.ilist ?_
  | with_reducible refine Tk.Rd.zip ?_
  | with_reducible refine Tk.Rd.itup ?_
  | ((with_reducible refine' Tk.Rd.listK_i ?k0 ?_); (case k0 => walk_at "sql"))
  | ((with_reducible refine' Tk.Rd.ituK_i ?k0 ?_); (case k0 => walk_at "sqt"))
  | with_reducible refine Tk.Rd.chain ?_
  | with_reducible refine Tk.Rd.chainL_i ?_
  | with_reducible refine Tk.Rd.un ?_
  | with_reducible refine Tk.Rd.u1 ?_
  | ((with_reducible refine' Tk.Rd.i1 ?k0 ?_); (case k0 => walk_at "ci"))
  | ((with_reducible refine' Tk.Rd.eq ?k0 ?_); (case k0 => exact rfl))
  | ((with_reducible refine' Tk.Rd.ne ?k0 ?_); (case k0 => exact rfl))
  | with_reducible refine Tk.Rd.isN ?_
  | with_reducible refine Tk.Rd.notN ?_
  | with_reducible refine Tk.Rd.fld ?_
  | with_reducible refine Tk.Rd.meth ?_
  | with_reducible refine Tk.Rd.prop ?_
  | with_reducible refine Tk.Rd.cb ?_
  | with_reducible refine Tk.Rd.bm ?_
  | with_reducible refine Tk.Rd.m0 ?_
  | with_reducible refine Tk.Rd.m0K_i ?_
  | with_reducible refine Tk.Rd.m1 ?_
  | with_reducible refine Tk.Rd.m1K_i ?_
  | with_reducible refine Tk.Rd.tup ?_
  | ((with_reducible refine' Tk.Rd.tupK_i ?k0 fun p H' np S hp => ?_); (case k0 => walk_at "sz"))
  | with_reducible refine Tk.Rd.lst ?_
  | ((with_reducible refine' Tk.Rd.lstK_i ?k0 fun p H' np S hp => ?_); (case k0 => walk_at "sz"))
  | ((with_reducible refine' Tk.Rd.ixF ?k0 ?k1 ?_); (case k0 => walk_at "hp"); (case k1 => omega))
  | ((with_reducible refine' Tk.Rd.ixF1 ?k0 ?k1 ?_); (case k0 => walk_at "hp"); (case k1 => omega))
  | ((with_reducible refine' Tk.Rd.ixT ?k0 ?k1 ?_); (case k0 => walk_at "sqt"); (case k1 => exact rfl))
  | ((with_reducible refine' Tk.Rd.ixL ?k0 ?k1 ?_); (case k0 => walk_at "sql"); (case k1 => exact rfl))
  | ((with_reducible refine' Tk.Rd.lenL ?k0 ?_); (case k0 => walk_at "sql"))
  | ((with_reducible refine' Tk.Rd.lenT ?k0 ?_); (case k0 => walk_at "sqt"))
  | ((with_reducible refine' Tk.Rd.lenS ?k0 ?_); (case k0 => first | assumption | omega | (simp; omega)))
  | ((with_reducible refine' Tk.Rd.slTr ?k0 fun p H' S hp => ?_); (case k0 => walk_at "hp"))
  | ((with_reducible refine' Tk.Rd.slT ?k0 fun p H' S hq => ?_); (case k0 => walk_at "sqt"))
  | ((with_reducible refine' Tk.Rd.catTr ?k0 ?k1 ?k2 fun p H' S hp => ?_); (case k0 => walk_at "hp"); (case k1 => walk_at "hp"); (case k2 => walk_at "sz"))
  | ((with_reducible refine' Tk.Rd.catA ?k0 ?k1 ?k2 ?k3 ?k4 fun p H' np S hp => ?_); (case k0 => walk_at "sqt"); (case k1 => walk_at "sqt"); (case k2 => simp); (case k3 => simp); (case k4 => first | (simp; done) | (simp; omega)))
  | with_reducible refine Tk.Rd.make ?_
  | ((with_reducible refine' Tk.Rd.tplL ?k0 fun q H' nq S hq => ?_); (case k0 => walk_at "sql"))
  | ((with_reducible refine' Tk.Rd.lstL ?k0 fun q H' nq S hq => ?_); (case k0 => walk_at "sql"))
  | ((with_reducible refine' Tk.Rd.lstT ?k0 fun q H' nq S hq => ?_); (case k0 => walk_at "sqt"))
  | ((with_reducible refine' Tk.Rd.join ?k0 ?k1 ?_); (case k0 => walk_at "sql"); (case k1 => first | assumption | omega))
  | with_reducible refine Tk.Rd.mx ?_
  | with_reducible refine Tk.Rd.mn ?_
  | with_reducible refine Tk.Rd.noPart ?_
  | with_reducible refine Tk.Rd.part ?_
  | with_reducible refine Tk.Rd.partK_i ?_
  | with_reducible refine Tk.Rd.slc ?_
  | ((with_reducible refine' Tk.Rd.gtup ?k0 ?k1 ?_); (case k0 => walk_at "sqt"); (case k1 => exact rfl))
  | ((with_reducible refine' Tk.Rd.glst ?k0 ?k1 ?_); (case k0 => walk_at "sql"); (case k1 => exact rfl))
  | with_reducible refine Tk.Rd.gcons ?_
  | with_reducible refine Tk.Rd.gnil ?_
  | with_reducible refine Tk.Rd.next ?_
  | with_reducible refine Tk.Rd.drop ?_
  | with_reducible refine Tk.Rd.ret ?_
  | with_reducible refine Tk.Rd.retN ?_
  | with_reducible refine Tk.Rd.par ?_
  | with_reducible refine Tk.Rd.parK_i ?_
  | with_reducible refine Tk.Rd.par3 ?_
  | with_reducible refine Tk.Rd.par3K_i ?_
  | ((with_reducible refine' Tk.Rd.aug ?k0 ?_); (case k0 => exact rfl))
  | with_reducible refine Tk.Rd.ip ?_
  | ((with_reducible refine' Tk.Rd.bmK_l ?k0 ?_); (case k0 => walk_at "sql"))
  | ((with_reducible refine' Tk.Rd.addS ?k0 ?_); (case k0 => walk_at "sz"))
  | fail "rd1")
local macro_rules | `(tactic| walk_at "rd1i") => `(tactic| first
  | walk_at "rd1"
  | with_reducible refine Tk.Rd.ifS ?_
  | fail "rd1i")
local macro_rules | `(tactic| walk_at "rd") => `(tactic| (repeat' walk_at "rd1i"))
local macro_rules | `(tactic| walk_at "rs") => `(tactic| ((repeat' walk_at "rd1"); (try dsimp only)))
local macro_rules | `(tactic| walk_at "hall") => `(tactic| first
  | assumption
  | ((with_reducible refine' Tk.HallAt.sm ?k0 ?k1); (case k0 => assumption); (case k1 => walk_at "hall"))
  | fail "hall")
local macro_rules | `(tactic| walk_at "parts") => `(tactic| first
  | assumption
  | ((with_reducible refine' Tk.PartsAt.sm ?k0 ?k1); (case k0 => assumption); (case k1 => walk_at "parts"))
  | fail "parts")
local macro_rules | `(tactic| walk_at "sm") => `(tactic| first
  | assumption
  | exact Tk.Sm.int rfl
  | exact Tk.Sm.flat1 rfl
  | ((with_reducible refine' Tk.Sm.sm ?k0 ?k1); (case k0 => assumption); (case k1 => walk_at "sm"))
  | fail "sm")
local macro_rules | `(tactic| walk_at "rd1") => `(tactic| first
  | ((with_reducible refine' Tk.Rd.f_modulus ?k0 ?k1 ?_); (case k0 => assumption); (case k1 => walk_at "hall"))
  | ((with_reducible refine' Tk.Rd.f_lateness ?k0 ?k1 ?_); (case k0 => assumption); (case k1 => walk_at "hall"))
  | ((with_reducible refine' Tk.Rd.f_takes ?k0 ?k1 fun tp htp => ?_); (case k0 => assumption); (case k1 => walk_at "hall"))
  | ((with_reducible refine' Tk.Rd.f_calls ?k0 ?k1 fun cp hcp => ?_); (case k0 => assumption); (case k1 => walk_at "hall"))
  | ((with_reducible refine' Tk.Rd.h_meth ?k0 ?k1 ?_); (case k0 => walk_at "hall"); (case k1 => decide +kernel))
  | ((with_reducible refine' Tk.Rd.h_prop ?k0 ?_); (case k0 => walk_at "hall"))
  | ((with_reducible refine' Tk.Rd.h_taken0 ?k0 fun H' S => ?_); (case k0 => walk_at "hall"))
  | ((with_reducible refine' Tk.Rd.h_taken1 ?k0 fun H' S => ?_); (case k0 => walk_at "hall"))
  | ((with_reducible refine' Tk.Rd.h_takenL ?k0 fun H' S => ?_); (case k0 => walk_at "hall"))
  | ((with_reducible refine' Tk.Rd.h_called0 ?k0 ?_); (case k0 => walk_at "hall"))
  | ((with_reducible refine' Tk.Rd.h_called1 ?k0 ?_); (case k0 => walk_at "hall"))
  | ((with_reducible refine' Tk.Rd.h_calledL ?k0 ?_); (case k0 => walk_at "hall"))
  | ((with_reducible refine' Tk.Rd.h_waiting ?k0 ?k1 fun H' S => ?_); (case k0 => walk_at "hall"); (case k1 => omega))
  | ((with_reducible refine' Tk.Rd.h_growth ?k0 fun H' S => ?_); (case k0 => walk_at "hall"))
  | ((with_reducible refine' Tk.Rd.h_period ?k0 ?_); (case k0 => walk_at "hall"))
  | ((with_reducible refine' Tk.Rd.h_lhall ?k0 fun h lp H' nh nl S hA => ?_); (case k0 => walk_at "parts"))
  | ((with_reducible refine' Tk.Rd.h_length ?k0 ?_); (case k0 => walk_at "parts"))
  | ((with_reducible refine' Tk.Rd.h_counts ?k0 ?k1 fun r a b H' nr na nb nab S hr ha hb => ?_); (case k0 => walk_at "parts"); (case k1 => omega))
  | ((with_reducible refine' Tk.Rd.h_countsL ?k0 ?k1 fun r a b H' nr na nb nab S hr ha hb => ?_); (case k0 => walk_at "parts"); (case k1 => decide))
  | ((with_reducible refine' Tk.Rd.h_make ?k0 ?k1 ?k2 fun h lp H' nh nl S hA => ?_); (case k0 => assumption); (case k1 => walk_at "hp"); (case k2 => walk_at "hp"))
  | ((with_reducible refine' Tk.Rd.p_0 ?k0 ?_); (case k0 => walk_at "parts"))
  | ((with_reducible refine' Tk.Rd.p_1 ?k0 fun htp => ?_); (case k0 => walk_at "parts"))
  | ((with_reducible refine' Tk.Rd.p_2 ?k0 fun hcp => ?_); (case k0 => walk_at "parts"))
  | ((with_reducible refine' Tk.Rd.p_3 ?k0 ?_); (case k0 => walk_at "parts"))
  | fail "rd1")
local macro_rules | `(tactic| walk_at "sqt") => `(tactic| first | ((with_reducible refine' Tk.PartsAt.sq ?k0); (case k0 => walk_at "parts")) | fail "sqt")
local macro_rules | `(tactic| walk_at "free") => `(tactic| first
  | assumption
  | ((with_reducible refine' Tk.Same.fr ?k0 ?k1); (case k0 => assumption); (case k1 => walk_at "free")))
local macro_rules | `(tactic| walk_at "hp") => `(tactic| first
  | ((with_reducible refine' Tk.But.gt ?k0 ?k1 ?k2); (case k0 => assumption); (case k1 => assumption); (case k2 => walk_at "hp"))
  | ((with_reducible refine' Tk.But.gl ?k0 ?k1 ?k2); (case k0 => assumption); (case k1 => assumption); (case k2 => walk_at "hp"))
  | fail "hp")
local macro_rules | `(tactic| walk_at "hall") => `(tactic| first | ((with_reducible refine' Tk.HallAt.bt ?k0 ?k1 ?k2 ?k3); (case k0 => assumption); (case k1 => assumption); (case k2 => assumption); (case k3 => walk_at "hall")) | fail "hall")
local macro_rules | `(tactic| walk_at "parts") => `(tactic| first | ((with_reducible refine' Tk.PartsAt.bt ?k0 ?k1 ?k2); (case k0 => assumption); (case k1 => assumption); (case k2 => walk_at "parts")) | fail "parts")
local macro_rules | `(tactic| walk_at "rd1") => `(tactic| first
  | ((with_reducible refine' Tk.Rd.h_below ?k0 ?k1 ?k2 ?k3 fun r H' cs hr B hd hcs => ?_); (case k0 => walk_at "hp"); (case k1 => assumption); (case k2 => first | decide | omega); (case k3 => first | decide | omega))
  | ((with_reducible refine' Tk.Rd.h_parts ?k0 ?k1 ?k2 ?k3 fun t tp cp m lt tk cl H' cs nt B hd hcs hP l1 l2 => ?_); (case k0 => walk_at "hp"); (case k1 => assumption); (case k2 => first | decide | omega); (case k3 => first | decide | omega))
  | ((with_reducible refine' Tk.Rd.h_partsL ?k0 ?k1 ?k2 ?k3 fun t tp cp m lt tk cl H' cs nt B hd hcs hP l1 l2 => ?_); (case k0 => walk_at "hp"); (case k1 => assumption); (case k2 => first | decide | omega); (case k3 => first | decide | omega))
  | ((with_reducible refine' Tk.Rd.h_small ?k0 ?k1 fun t tp cp m lt tk cl H' cs nt B hd hcs hP m1 l1 l2 l3 => ?_); (case k0 => walk_at "hp"); (case k1 => assumption))
  | ((with_reducible refine' Tk.Rd.h_tick ?k0 ?k1 fun t H' cs ht B hd hcs => ?_); (case k0 => walk_at "hp"); (case k1 => assumption))
  | ((with_reducible refine' Tk.Rd.h_mo ?k0 fun v H' S hv => ?_); (case k0 => walk_at "hall"))
  | ((with_reducible refine' Tk.Rd.h_lc ?k0 fun v H' S hv => ?_); (case k0 => walk_at "hall"))
  | ((with_reducible refine' Tk.Rd.h_lm ?k0 fun v H' S hv => ?_); (case k0 => walk_at "hall"))
  | ((with_reducible refine' Tk.Rd.h_gl ?k0 fun v H' S hv => ?_); (case k0 => walk_at "hall"))
  | ((with_reducible refine' Tk.Rd.h_ot ?k0 ?k1 fun r H' nr S hr => ?_); (case k0 => walk_at "hall"); (case k1 => first | assumption | omega))
  | ((with_reducible refine' Tk.Rd.h_most2 ?k0 fun v H' S hv => ?_); (case k0 => walk_at "parts"))
  | ((with_reducible refine' Tk.Rd.h_opens2L ?k0 ?k1 fun l ys H' nl S hl hlen hR => ?_); (case k0 => walk_at "parts"); (case k1 => decide))
  | ((with_reducible refine' Tk.Rd.h_opens2 ?k0 ?k1 fun l ys H' nl S hl hlen hR => ?_); (case k0 => walk_at "parts"); (case k1 => first | decide | omega))
  | fail "rd1")
local macro_rules | `(tactic| walk_at "ok") => `(tactic| first
  | assumption
  | ((with_reducible refine' Tk.HallAt.ok ?k0); (case k0 => walk_at "hall"))
  | ((with_reducible refine' Tk.PartsAt.ok ?k0); (case k0 => walk_at "parts"))
  | fail "ok")
local macro_rules | `(tactic| walk_at "sml") => `(tactic| first
  | exact Tk.Sml.ints (by walk_at "szb")
  | exact Tk.Sml.intsT (by walk_at "szb")
  | trivial
  | (simp [Tk.Sml]; done)
  | (simp [Tk.Sml]; omega)
  | fail "sml")
local macro_rules | `(tactic| walk_at "rd1") => `(tactic| first
  | ((with_reducible refine' Tk.Rd.nT ?k0 ?_); (case k0 => with_reducible exact rfl))
  | ((with_reducible refine' Tk.Rd.dT ?k0 ?_); (case k0 => with_reducible exact rfl))
  | with_reducible refine Tk.Rd.nF Tk.Rd.int_non ?_
  | with_reducible refine Tk.Rd.nF Tk.Rd.ref_non ?_
  | with_reducible refine Tk.Rd.dF Tk.Rd.int_non ?_
  | with_reducible refine Tk.Rd.dF Tk.Rd.ref_non ?_
  | ((with_reducible refine' Tk.Rd.h_disp ?k0 ?k1 ?_); (case k0 => first | assumption | omega); (case k1 => walk_at "hall"))
  | ((with_reducible refine' Tk.Rd.h_hold ?k0 ?k1 ?k2 ?k3 fun l H' nl S hl => ?_); (case k0 => walk_at "hall"); (case k1 => first | assumption | omega); (case k2 => first | assumption | omega); (case k3 => first | assumption | omega))
  | ((with_reducible refine' Tk.Rd.h_mis ?k0 ?k1 ?k2 fun l ys H' nl S hl hd => ?_); (case k0 => walk_at "hall"); (case k1 => first | assumption | omega); (case k2 => first | assumption | omega))
  | ((with_reducible refine' Tk.Rd.h_enc ?k0 fun l H' nl S hl => ?_); (case k0 => walk_at "hall"))
  | ((with_reducible refine' Tk.Rd.h_dec ?k0 ?k1 fun h lp H' nh nl S hA => ?_); (case k0 => walk_at "hp"); (case k1 => walk_at "ok"))
  | ((with_reducible refine' Tk.Rd.h_text ?k0 fun H' S => ?_); (case k0 => walk_at "hall"))
  | ((with_reducible refine' Tk.Rd.h_eqd ?k0 ?k1 ?k2 fun H' S => ?_); (case k0 => walk_at "dp"); (case k1 => walk_at "dp"); (case k2 => walk_at "sml"))
  | ((with_reducible refine' Tk.Rd.eqd ?k0 ?k1 ?k2 ?k3 ?_); (case k0 => walk_at "dp"); (case k1 => walk_at "dp"); (case k2 => walk_at "sml"); (case k3 => walk_at "sml"))
  | ((with_reducible refine' Tk.Rd.ned ?k0 ?k1 ?k2 ?k3 ?_); (case k0 => walk_at "dp"); (case k1 => walk_at "dp"); (case k2 => walk_at "sml"); (case k3 => walk_at "sml"))
  | fail "rd1")
/-! ### The bench: contracts where nothing is raised -/
namespace Tk
open PySem PySem.Spec PyProof.Rows L2 Mm
namespace Bn
abbrev Pq := Nat × List Nat × List Nat × Nat
abbrev HallP (C : Addr) (H : Hp) (h : Addr) (p : Pq) (lp : Addr) : Prop := HallAt C H h p.1 p.2.1 p.2.2.1 p.2.2.2 lp
/-- a part's new value -/
inductive PV (H : Hp) : Str → V → Pq → Pq → Prop
  | m {m m' : Nat} {tk cl : List Nat} {lt : Nat} : 2 ≤ m' → m' ≤ 10000 → PV H "modulus" (vn m') (m, tk, cl, lt) (m', tk, cl, lt)
  | t {m : Nat} {tk tk' cl : List Nat} {lt : Nat} {r : Addr} : H r = some (.tup (tk'.map vn)) → Pat tk' → PV H "takes" (.ref r) (m, tk, cl, lt) (m, tk', cl, lt)
  | c {m : Nat} {tk cl cl' : List Nat} {lt : Nat} {r : Addr} : H r = some (.tup (cl'.map vn)) → Pat cl' → PV H "calls" (.ref r) (m, tk, cl, lt) (m, tk, cl', lt)
  | l {m : Nat} {tk cl : List Nat} {lt lt' : Nat} : lt' ≤ 99 → PV H "lateness" (vn lt') (m, tk, cl, lt) (m, tk, cl, lt')
theorem PV.same {H H' : Hp} {w : Str} {v : V} {p q : Pq} (h : PV H w v p q) (S : Same H H') : PV H' w v p q := by
  cases h with
  | m a b => exact .m a b
  | t a b => exact .t (S _ _ a) b
  | c a b => exact .c (S _ _ a) b
  | l a => exact .l a
def spWp (C : Addr) : Sp := fun vs H Q _ => ∃ (h lp : Addr) (w : Str) (v : V) (p q : Pq), vs = [.ref h, .str w, v] ∧ HallP C H h p lp ∧ PV H w v p q ∧ ∀ h' lp' H', H h' = none → Same H H' → HallP C H' h' q lp' → Q (.ref h') H'
def kvs4 (a b c d : V) : List (L2.Key × V) := [(.inr "modulus", a), (.inr "takes", b), (.inr "calls", c), (.inr "lateness", d)]
theorem s01 : ¬ (("modulus" : Str) = "takes") := by decide +kernel
theorem s02 : ¬ (("modulus" : Str) = "calls") := by decide +kernel
theorem s03 : ¬ (("modulus" : Str) = "lateness") := by decide +kernel
theorem s10 : ¬ (("takes" : Str) = "modulus") := by decide +kernel
theorem s12 : ¬ (("takes" : Str) = "calls") := by decide +kernel
theorem s13 : ¬ (("takes" : Str) = "lateness") := by decide +kernel
theorem s20 : ¬ (("calls" : Str) = "modulus") := by decide +kernel
theorem s21 : ¬ (("calls" : Str) = "takes") := by decide +kernel
theorem s23 : ¬ (("calls" : Str) = "lateness") := by decide +kernel
theorem s30 : ¬ (("lateness" : Str) = "modulus") := by decide +kernel
theorem s31 : ¬ (("lateness" : Str) = "takes") := by decide +kernel
theorem s32 : ¬ (("lateness" : Str) = "calls") := by decide +kernel
theorem disp4 {a b c d : V} : mergeK [] (kvs4 a b c d) = kvs4 a b c d := by
  unfold kvs4 mergeK
  simp [putK, s01, s02, s03, s10, s12, s13, s20, s21, s23, s30, s31, s32]
theorem put4 {a b c d v : V} : putK (kvs4 a b c d) (.inr "modulus") v = kvs4 v b c d ∧ putK (kvs4 a b c d) (.inr "takes") v = kvs4 a v c d ∧ putK (kvs4 a b c d) (.inr "calls") v = kvs4 a b v d ∧ putK (kvs4 a b c d) (.inr "lateness") v = kvs4 a b c v := by
  unfold kvs4
  simp [putK, s01, s02, s03, s10, s12, s13, s20, s21, s23, s30, s31, s32]
theorem val4 {a b c d : V} : valV (kvs4 a b c d) (.inr "modulus") = some a ∧ valV (kvs4 a b c d) (.inr "takes") = some b ∧ valV (kvs4 a b c d) (.inr "calls") = some c ∧ valV (kvs4 a b c d) (.inr "lateness") = some d := by
  unfold kvs4
  simp [valV, s01, s02, s03, s10, s12, s13, s20, s21, s23, s30, s31, s32]
theorem f01 : ¬ (("_halls" : Str) = "_words") := by decide +kernel
theorem f02 : ¬ (("_halls" : Str) = "_done") := by decide +kernel
theorem f03 : ¬ (("_halls" : Str) = "_snapshots") := by decide +kernel
theorem f10 : ¬ (("_words" : Str) = "_halls") := by decide +kernel
theorem f12 : ¬ (("_words" : Str) = "_done") := by decide +kernel
theorem f13 : ¬ (("_words" : Str) = "_snapshots") := by decide +kernel
theorem f20 : ¬ (("_done" : Str) = "_halls") := by decide +kernel
theorem f21 : ¬ (("_done" : Str) = "_words") := by decide +kernel
theorem f23 : ¬ (("_done" : Str) = "_snapshots") := by decide +kernel
theorem f30 : ¬ (("_snapshots" : Str) = "_halls") := by decide +kernel
theorem f31 : ¬ (("_snapshots" : Str) = "_words") := by decide +kernel
theorem f32 : ¬ (("_snapshots" : Str) = "_done") := by decide +kernel
/-! the bench's object -/
def fs4 (hl wl : Addr) (n : Nat) (sn : Addr) : List (Str × V) := [("_halls", .ref hl), ("_words", .ref wl), ("_done", vn n), ("_snapshots", .ref sn)]
theorem lk4 {hl wl sn : Addr} {n : Nat} : (fs4 hl wl n sn).lookup ("_halls" : Str) = some (V.ref hl) ∧ (fs4 hl wl n sn).lookup ("_words" : Str) = some (V.ref wl) ∧ (fs4 hl wl n sn).lookup ("_done" : Str) = some (vn n) ∧ (fs4 hl wl n sn).lookup ("_snapshots" : Str) = some (V.ref sn) := by
  unfold fs4
  simp [List.lookup_cons, beq_eq_false_iff_ne.mpr f01, beq_eq_false_iff_ne.mpr f02, beq_eq_false_iff_ne.mpr f03, beq_eq_false_iff_ne.mpr f10, beq_eq_false_iff_ne.mpr f12, beq_eq_false_iff_ne.mpr f13, beq_eq_false_iff_ne.mpr f20, beq_eq_false_iff_ne.mpr f21, beq_eq_false_iff_ne.mpr f23, beq_eq_false_iff_ne.mpr f30, beq_eq_false_iff_ne.mpr f31, beq_eq_false_iff_ne.mpr f32]
theorem pf4 {hl wl sn x : Addr} {n k : Nat} : putF "_halls" (.ref x) (fs4 hl wl n sn) = fs4 x wl n sn ∧ putF "_words" (.ref x) (fs4 hl wl n sn) = fs4 hl x n sn ∧ putF "_done" (vn k) (fs4 hl wl n sn) = fs4 hl wl k sn := by
  unfold fs4
  simp [putF, f01, f02, f03, f10, f12, f13, f20, f21, f23, f30, f31, f32]
theorem pf0 {hl wl sn : Addr} : putF "_snapshots" (.ref sn) (putF "_done" (.int 0) (putF "_words" (.ref wl) (putF "_halls" (.ref hl) []))) = fs4 hl wl 0 sn := by
  unfold fs4
  simp [putF, f01, f02, f03, f10, f12, f13, f20, f21, f23, f30, f31, f32]
theorem HallAt.butG {C CB b h lp dx : Addr} {fs : List (Str × V)} {H H' : Hp} {m lt : Nat} {tk cl : List Nat} (p : HallAt C H h m tk cl lt lp) (B : But b H H') (hb : H b = some (.ins CB dx fs)) (hm : fs.lookup ("modulus" : Str) = none) : HallAt C H' h m tk cl lt lp := by
  obtain ⟨dx2, tp, cp, h1, h2, h3⟩ := p.ex
  refine ⟨⟨dx2, tp, cp, B _ _ (fun e => ?_) h1, B _ _ (ne_of h2 hb (fun q => by cases q)) h2, B _ _ (ne_of h3 hb (fun q => by cases q)) h3⟩, B _ _ (ne_of p.lst hb (fun q => by cases q)) p.lst, p.ok⟩
  rw [e, hb] at h1
  injection h1 with h1
  injection h1 with _ _ h1
  rw [h1, hfs_modulus] at hm
  cases hm
theorem lk4m {hl wl sn : Addr} {n : Nat} : (fs4 hl wl n sn).lookup ("modulus" : Str) = none := by
  have g0 : (("modulus" : Str) == "_halls") = false := by decide +kernel
  have g1 : (("modulus" : Str) == "_words") = false := by decide +kernel
  have g2 : (("modulus" : Str) == "_done") = false := by decide +kernel
  have g3 : (("modulus" : Str) == "_snapshots") = false := by decide +kernel
  unfold fs4
  simp [List.lookup_cons, g0, g1, g2, g3]
theorem lk4x {hl wl sn : Addr} {n : Nat} {m : Str} (h : (["_halls", "_words", "_done", "_snapshots"] : List Str).contains m = false) : (fs4 hl wl n sn).lookup m = none := by
  have e : ∀ x : Str, x ∈ (["_halls", "_words", "_done", "_snapshots"] : List Str) → (m == x) = false := fun x hx => beq_eq_false_iff_ne.mpr (fun q => by rw [q, List.contains_iff_mem.mpr hx] at h; cases h)
  have g0 := e "_halls" (by simp)
  have g1 := e "_words" (by simp)
  have g2 := e "_done" (by simp)
  have g3 := e "_snapshots" (by simp)
  unfold fs4
  simp [List.lookup_cons, g0, g1, g2, g3]
theorem HallAt.butI {C CB b h lp hl wl sn dx : Addr} {H H' : Hp} {m lt n : Nat} {tk cl : List Nat} (p : HallAt C H h m tk cl lt lp) (B : But b H H') (hb : H b = some (.ins CB dx (fs4 hl wl n sn))) : HallAt C H' h m tk cl lt lp := HallAt.butG p B hb lk4m
inductive HA (C : Addr) (H : Hp) : List V → List Pq → Prop
  | nil : HA C H [] []
  | cons {h lp : Addr} {vs : List V} {p : Pq} {ps : List Pq} : HallP C H h p lp → HA C H vs ps → HA C H (.ref h :: vs) (p :: ps)
theorem HA.same {C : Addr} {H H' : Hp} {vs : List V} {ps : List Pq} (h : HA C H vs ps) (S : Same H H') : HA C H' vs ps := by
  induction h with
  | nil => exact .nil
  | cons a _ ih => exact .cons (HallAt.same a S) ih
theorem HA.butI {C CB b hl wl sn dx : Addr} {n : Nat} {H H' : Hp} {vs : List V} {ps : List Pq} (h : HA C H vs ps) (B : But b H H') (hb : H b = some (.ins CB dx (fs4 hl wl n sn))) : HA C H' vs ps := by
  induction h with
  | nil => exact .nil
  | cons a _ ih => exact .cons (HallAt.butI a B hb) ih
theorem HA.len {C : Addr} {H : Hp} {vs : List V} {ps : List Pq} (h : HA C H vs ps) : vs.length = ps.length := by
  induction h with
  | nil => rfl
  | cons _ _ ih => rw [List.length_cons, List.length_cons, ih]
theorem HA.get {C : Addr} {H : Hp} {vs : List V} {ps : List Pq} (h : HA C H vs ps) {i : Nat} {p : Pq} (hp : ps[i]? = some p) : ∃ h lp, vs[i]? = some (.ref h) ∧ HallP C H h p lp := by
  induction h generalizing i with
  | nil => cases hp
  | cons a _ ih =>
    cases i with
    | zero => cases hp; exact ⟨_, _, rfl, a⟩
    | succ i => exact ih hp
theorem HA.app {C : Addr} {H : Hp} {vs us : List V} {ps qs : List Pq} (h : HA C H vs ps) (g : HA C H us qs) : HA C H (vs ++ us) (ps ++ qs) := by
  induction h with
  | nil => exact g
  | cons a _ ih => exact .cons a ih
theorem HA.take {C : Addr} {H : Hp} {vs : List V} {ps : List Pq} (h : HA C H vs ps) (n : Nat) : HA C H (vs.take n) (ps.take n) := by
  induction h generalizing n with
  | nil => rw [List.take_nil, List.take_nil]; exact .nil
  | cons a _ ih =>
    cases n with
    | zero => exact .nil
    | succ n => exact .cons a (ih n)
theorem HA.butL {C D : Addr} {H H' : Hp} {vs : List V} {ps : List Pq} (h : HA C H vs ps) (B : But D H H') (hd : H D = some (.lst [])) : HA C H' vs ps := by
  induction h with
  | nil => exact .nil
  | cons a _ ih =>
    refine .cons (HallAt.but a B hd fun e => ?_) ih
    have g := a.lst
    rw [e, hd] at g
    injection g with g
    injection g with g
    have := congrArg List.length g
    rw [calV_len] at this
    cases this
structure BAt (CB C : Addr) (H : Hp) (b hl wl sn : Addr) (hs : List V) (ws : List Str) (n : Nat) (ps : List Pq) : Prop where
  ex : ∃ dx, H b = some (.ins CB dx (fs4 hl wl n sn))
  hh : H hl = some (.lst hs)
  ww : H wl = some (.lst (ws.map V.str))
  hn : n ≤ ws.length
  hl : ps.length = ws.length + 1
  ha : HA C H hs ps
theorem BAt.same {CB C b hl wl sn : Addr} {H H' : Hp} {hs : List V} {ws : List Str} {n : Nat} {ps : List Pq} (x : BAt CB C H b hl wl sn hs ws n ps) (S : Same H H') : BAt CB C H' b hl wl sn hs ws n ps :=
  ⟨x.ex.elim fun dx z => ⟨dx, S _ _ z⟩, S _ _ x.hh, S _ _ x.ww, x.hn, x.hl, x.ha.same S⟩
theorem BAt.butL {CB C b hl wl sn D : Addr} {H H' : Hp} {hs : List V} {ws : List Str} {n : Nat} {ps : List Pq} (x : BAt CB C H b hl wl sn hs ws n ps) (B : But D H H') (hd : H D = some (.lst [])) (hw : ws ≠ []) : BAt CB C H' b hl wl sn hs ws n ps := by
  have c2 := x.ha.len
  have c3 := x.hl
  refine ⟨x.ex.elim fun dx z => ⟨dx, B _ _ (ne_of z hd (fun q => by cases q)) z⟩, B _ _ (fun e => ?_) x.hh, B _ _ (fun e => ?_) x.ww, x.hn, x.hl, x.ha.butL B hd⟩
  · have g := x.hh
    rw [e, hd] at g
    injection g with g
    injection g with g
    rw [← g] at c2
    rw [← c2] at c3
    cases c3
  · have g := x.ww
    rw [e, hd] at g
    injection g with g
    injection g with g
    exact hw (List.map_eq_nil_iff.mp g.symm)
def words4 : List Str := ["modulus", "takes", "calls", "lateness"]
theorem PV.word {H : Hp} {w : Str} {v : V} {p q : Pq} (h : PV H w v p q) : w ∈ words4 := by
  cases h <;> simp [words4]
def spIop (K : PySem.W.Frag) : Sp := fun vs H Q _ => ∃ (r : Addr) (w : Str) (v : V), vs = [.ref r] ∧ H r = some (.tup [.str w, v]) ∧ w ∈ words4 ∧ Q (.bl true) H
def spCl : Sp := fun vs H Q _ => ∃ (l : Addr) (xs : List V), vs = [.ref l] ∧ H l = some (.lst xs) ∧ Q .non H
def spCe (K : PySem.W.Frag) : Sp := fun vs H Q _ => ∃ (r : Addr) (i : V) (w : Str) (v : V), vs = [.ref r, i] ∧ H r = some (.tup [.str w, v]) ∧ w ∈ words4 ∧ Q .non H
def spBi (CB C : Addr) : Sp := fun vs H Q _ => ∃ (b dx h lp : Addr) (p : Pq), vs = [.ref b, .ref h] ∧ H b = some (.ins CB dx []) ∧ HallP C H h p lp ∧ ∀ H' hl wl sn, But b H H' → BAt CB C H' b hl wl sn [.ref h] [] 0 [p] → Q .non H'
def spRp (CB C : Addr) : Sp := fun vs H Q _ => ∃ (b hl wl sn : Addr) (hs : List V) (ws : List Str) (n : Nat) (ps : List Pq) (w : Str) (v : V) (p q : Pq), vs = [.ref b, .str w, v] ∧ BAt CB C H b hl wl sn hs ws n ps ∧ ps[n]? = some p ∧ PV H w v p q ∧ n ≤ 500 ∧
  ∀ v' H' hl' wl' h', But b H H' → BAt CB C H' b hl' wl' sn (hs.take (n + 1) ++ [.ref h']) (ws.take n ++ [w]) (n + 1) (ps.take (n + 1) ++ [q]) → MostV q.2.1 q.2.2.1 q.2.2.2 v' → Q v' H'
def spExR (CB C : Addr) : Sp := fun vs H Q _ => ∃ (b hl wl sn r : Addr) (hs : List V) (ws : List Str) (n : Nat) (ps : List Pq) (w : Str) (v : V) (p q : Pq), vs = [.ref b, .ref r] ∧ H r = some (.tup [.str w, v]) ∧ BAt CB C H b hl wl sn hs ws n ps ∧ ps[n]? = some p ∧ PV H w v p q ∧ n ≤ 500 ∧
  ∀ v' H' hl' wl' h', But b H H' → BAt CB C H' b hl' wl' sn (hs.take (n + 1) ++ [.ref h']) (ws.take n ++ [w]) (n + 1) (ps.take (n + 1) ++ [q]) → MostV q.2.1 q.2.2.1 q.2.2.2 v' → Q v' H'
def spUn (CB C : Addr) : Sp := fun vs H Q _ => ∃ (b hl wl sn : Addr) (hs : List V) (ws : List Str) (n : Nat) (ps : List Pq), vs = [.ref b] ∧ BAt CB C H b hl wl sn hs ws n ps ∧ (n = 0 → Q (.bl false) H) ∧ (0 < n → ∀ H', But b H H' → BAt CB C H' b hl wl sn hs ws (n - 1) ps → Q (.bl true) H')
def spBt (CB C : Addr) : Sp := fun vs H Q _ => ∃ (b hl wl sn : Addr) (hs : List V) (ws : List Str) (n : Nat) (ps : List Pq) (p : Pq), vs = [.ref b] ∧ BAt CB C H b hl wl sn hs ws n ps ∧ ps[n]? = some p ∧ ∀ H', Same H H' → Q (.str (Tx.txt p.1 p.2.1 p.2.2.1 p.2.2.2)) H'
def spSt (CB C : Addr) : Sp := fun vs H Q _ => ∃ (b hl wl sn : Addr) (hs : List V) (ws : List Str) (n : Nat) (ps : List Pq), vs = [.ref b] ∧ BAt CB C H b hl wl sn hs ws n ps ∧ ∀ t H', H t = none → Same H H' → H' t = some (.tup [.ref hl, .ref wl, vn n]) → Q (.ref t) H'
end Bn
namespace Rd
variable {K : PySem.W.Frag} {σ : L2.St} {H : Hp} {Q : VK}
theorem pcons {tk tv : TE} {r : List (TE × TE)} {R : List (V × V) → Hp → Prop} (k : tk σ H fun x H1 => tv σ H1 fun y H2 => tPairs r σ H2 fun ps H3 => R ((x, y) :: ps) H3) : tPairs ((tk, tv) :: r) σ H R := k
theorem dgetS {i : Nat} {d : Addr} {kvs : List (L2.Key × V)} {w : Str} {v : V} (hi : σ[i]? = some (some (.ref d))) (hd : H d = some (.dK kvs)) (hv : valV kvs (.inr w) = some v) (k : Q v H) : tDGet (tVar i) (tC (.str w)) σ H Q :=
  ⟨.ref d, hi, d, v, rfl, by rw [← hv]; exact DGet.k (k := .inr w) hd, k⟩
theorem sfld {ta tv : TE} {f : Str} {D : Ends} (k : tv σ H fun y H1 => ta σ H1 fun x H2 => ∃ a C dx fs, x = .ref a ∧ H2 a = some (.ins C dx fs) ∧ Cls K C ∧ NoAttr K C f ∧ fs.length < 1000 ∧ D.nx σ (upd H2 a (.ins C dx (putF f y fs)))) : sFld K ta tv f D σ H := k
theorem new0 {Q : VK} (k : ∀ p H', H p = none → Same H H' → H' p = some (.dK []) → Q (.ref p) H') : tDNewK σ H Q := fun p np => k p _ np (Same.nw np (Same.refl H)) upd_same
theorem pnil {R : List (V × V) → Hp → Prop} (k : R [] H) : tPairs [] σ H R := k
end Rd
namespace Rd
variable {K : PySem.W.Frag} {σ : L2.St} {H : Hp} {Q : VK} {te : TE}
/-- [e for x in a list of one] -/
theorem lc_one {a : Addr} {x0 : V} {i1 : Nat} {vs : List Nat} (Pf : Addr → Hp → Prop) (ha : SqL K H a [x0]) (hw1 : ∀ v : V, wipe ((wipe σ vs).set i1 (some v)) vs = wipe σ vs)
    (h0 : ∀ D, H D = none → ∀ Q' : VK, (∀ y H3, H3 D = some (.lst []) → SqL K (upd H3 D (.lst [y])) a [x0] → Pf D (upd H3 D (.lst [y])) → Q' y H3) → te ((wipe σ vs).set i1 (some x0)) (upd H D (.lst [])) Q')
    (k : ∀ D H', H D = none → Pf D H' → Q (.ref D) H') : lcK (gName i1) tYes te vs σ Q (Itl K a) H := fun D hD => by
  refine lc_list (K := K) (a := a) (xs := [x0]) (fun i H2 => (i = 0 ∧ H2 = upd H D (.lst [])) ∨ (i = 1 ∧ SqL K H2 a [x0] ∧ Pf D H2)) (.inl ⟨rfl, rfl⟩) ?_ ?_ ?_
  · rintro i H2 _ (⟨rfl, rfl⟩ | ⟨rfl, h, _⟩)
    · exact (Same.nw hD (Same.refl H)).seq ha
    · exact h
  · rintro i x H2 hx (⟨rfl, rfl⟩ | ⟨rfl, _⟩)
    · obtain rfl : x0 = x := Option.some.inj hx
      exact ⟨hw1 _, yes (ift (h0 D hD _ fun y H3 h1 h2 h3 => ⟨[], h1, by decide, .inr ⟨rfl, h2, h3⟩⟩))⟩
    · cases hx
  · rintro H2 (⟨q, _⟩ | ⟨_, _, h⟩)
    · cases q
    · exact k D H2 hD h
end Rd
namespace Rd
open Bn
variable {K : PySem.W.Frag} {H : Hp} {Q : VK} {mg : Str → Option Value} {b hl wl sn : Addr} {n : Nat}
theorem b_halls (T : Txt K mg) (x : ∃ dx, H b = some (.ins (He.ga K "Bench") dx (fs4 hl wl n sn))) (k : Q (.ref hl) H) : fldK K "_halls" Q (.ref b) H := x.elim fun dx z => ⟨b, _, dx, _, _, rfl, z, T.cl_Bench, T.n_Bench__halls, lk4.1, k⟩
theorem b_words (T : Txt K mg) (x : ∃ dx, H b = some (.ins (He.ga K "Bench") dx (fs4 hl wl n sn))) (k : Q (.ref wl) H) : fldK K "_words" Q (.ref b) H := x.elim fun dx z => ⟨b, _, dx, _, _, rfl, z, T.cl_Bench, T.n_Bench__words, lk4.2.1, k⟩
theorem b_done (T : Txt K mg) (x : ∃ dx, H b = some (.ins (He.ga K "Bench") dx (fs4 hl wl n sn))) (k : Q (vn n) H) : fldK K "_done" Q (.ref b) H := x.elim fun dx z => ⟨b, _, dx, _, _, rfl, z, T.cl_Bench, T.n_Bench__done, lk4.2.2.1, k⟩
end Rd
section
variable {P : Program} {w : World} {K : PySem.W.Frag} {mg : Str → Option Value} {base : Heap}
open Bn
theorem ok_with_part (T : Txt K mg) : OkF P w K mg base 7 (He.ga K "with_part") ["hall", "part", "value"] (spWp (He.ga K "Hall")) := by
  have G_init : OkF P w K mg base 5 (He.ma K (He.ga K "Hall") "__init__") ["self", "modulus", "takes", "calls", "lateness"] (spInit (He.ga K "Hall")) := ok_init T
  refine FnP.okF T.f_with_part sc_with_part (fun _ _ _ _ _ _ us hl => match us, hl with | [_, _, _], _ => rfl) (fun vs H Q E h => ?_) (fun cdv A outer s H vs Q E hr h => ?_)
  · obtain ⟨h, lp, w, v, p, q, rfl, _⟩ := h
    rfl
  obtain ⟨h, lp, w, v, ⟨m, tk, cl, lt⟩, q, rfl, hA, hv, k⟩ := h
  have hA : HallAt (He.ga K "Hall") H h m tk cl lt lp := hA
  refine ⟨_, (pss_cons (ps_set (i := 3) sc_with_part.nd rfl (Or.inl rfl) (pe_disp (pps_cons pe_str (pe_fld (pv 0) rfl) (pps_cons pe_str (pe_fld (pv 0) rfl) (pps_cons pe_str (pe_fld (pv 0) rfl) (pps_cons pe_str (pe_fld (pv 0) rfl) pps_nil)))) (by rfl) (by rfl) (fun z => by cases z) (by decide)))
    (pss_cons (ps_dput (hu_of hr) (pv 3) (pv 1) (pv 2) rfl)
    (pss_one (ps_ret (pe_make T.mk_Hall G_init.one (hr.mono (by decide)) (by rfl) T.g_Hall G_init.two .nil passL (pa_cons (pe_dget (hu_of hr) (pv 3) pe_str (fun _ _ => rfl)) (pa_cons (pe_dget (hu_of hr) (pv 3) pe_str (fun _ _ => rfl)) (pa_cons (pe_dget (hu_of hr) (pv 3) pe_str (fun _ _ => rfl)) (pa_cons (pe_dget (hu_of hr) (pv 3) pe_str (fun _ _ => rfl)) pa_nil))))))))), ?_⟩
  walk_at "rd"
  refine fun d nd => ?_
  have S1 : Same H (upd H d (.dK [])) := Same.nw nd (Same.refl H)
  have hd : upd H d (.dK []) d = some (.dK []) := upd_same
  have hA1 := hA.same S1
  generalize upd H d (.dK []) = H1 at S1 hd hA1
  refine Rd.pcons ?_
  walk_at "rd"
  refine Rd.pcons ?_
  walk_at "rd"
  refine Rd.pcons ?_
  walk_at "rd"
  refine Rd.pcons ?_
  walk_at "rd"
  rename_i tp htp cp hcp
  refine Rd.pnil ?_
  refine ⟨hd, kvs4 (vn m) (.ref tp) (.ref cp) (vn lt), rfl, (by show 4 ≤ 15; decide), ?_⟩
  rw [disp4]
  have S2 : Same H (upd H1 d (.dK (kvs4 (vn m) (.ref tp) (.ref cp) (vn lt)))) := fun b o e => by
    rw [upd_ne (ne_of_none e nd)]
    exact S1 _ _ e
  have hd2 : upd H1 d (.dK (kvs4 (vn m) (.ref tp) (.ref cp) (vn lt))) d = some (.dK (kvs4 (vn m) (.ref tp) (.ref cp) (vn lt))) := upd_same
  have htp2 : upd H1 d (.dK (kvs4 (vn m) (.ref tp) (.ref cp) (vn lt))) tp = some (.tup (tk.map vn)) := by rw [upd_ne (ne_of htp hd (fun q => by cases q))]; exact htp
  have hcp2 : upd H1 d (.dK (kvs4 (vn m) (.ref tp) (.ref cp) (vn lt))) cp = some (.tup (cl.map vn)) := by rw [upd_ne (ne_of hcp hd (fun q => by cases q))]; exact hcp
  generalize upd H1 d (.dK (kvs4 (vn m) (.ref tp) (.ref cp) (vn lt))) = H2 at S2 hd2 htp2 hcp2
  walk_at "rd"
  refine ⟨v, rfl, .ref d, rfl, .str w, rfl, d, _, rfl, DPut.k (k := .inr w) hd2 (by show 4 < sizeLine; decide), ?_⟩
  obtain ⟨m', tp', tk', cp', cl', lt', e, eq, htp', hcp', hP'⟩ : ∃ m' tp' tk' cp' cl' lt', putK (kvs4 (vn m) (.ref tp) (.ref cp) (vn lt)) (.inr w) v = kvs4 (vn m') (.ref tp') (.ref cp') (vn lt') ∧ q = (m', tk', cl', lt') ∧ H2 tp' = some (.tup (tk'.map vn)) ∧ H2 cp' = some (.tup (cl'.map vn)) ∧ Parts m' tk' cl' lt' := by
    have ok := hA.ok
    cases hv with
    | m a b => exact ⟨_, tp, _, cp, _, _, put4.1, rfl, htp2, hcp2, ⟨a, b, ok.tkP, ok.clP, ok.l99⟩⟩
    | t a b => exact ⟨_, _, _, cp, _, _, put4.2.1, rfl, S2 _ _ a, hcp2, ⟨ok.m2, ok.m4, b, ok.clP, ok.l99⟩⟩
    | c a b => exact ⟨_, tp, _, _, _, _, put4.2.2.1, rfl, htp2, S2 _ _ a, ⟨ok.m2, ok.m4, ok.tkP, b, ok.l99⟩⟩
    | l a => exact ⟨_, tp, _, cp, _, _, put4.2.2.2, rfl, htp2, hcp2, ⟨ok.m2, ok.m4, ok.tkP, ok.clP, a⟩⟩
  rw [e]
  subst eq
  have S3 : Same H (upd H2 d (.dK (kvs4 (vn m') (.ref tp') (.ref cp') (vn lt')))) := fun b o e => by
    rw [upd_ne (ne_of_none e nd)]
    exact S2 _ _ e
  have hd3 : upd H2 d (.dK (kvs4 (vn m') (.ref tp') (.ref cp') (vn lt'))) d = some (.dK (kvs4 (vn m') (.ref tp') (.ref cp') (vn lt'))) := upd_same
  have htp3 : upd H2 d (.dK (kvs4 (vn m') (.ref tp') (.ref cp') (vn lt'))) tp' = some (.tup (tk'.map vn)) := by rw [upd_ne (ne_of htp' hd2 (fun q => by cases q))]; exact htp'
  have hcp3 : upd H2 d (.dK (kvs4 (vn m') (.ref tp') (.ref cp') (vn lt'))) cp' = some (.tup (cl'.map vn)) := by rw [upd_ne (ne_of hcp' hd2 (fun q => by cases q))]; exact hcp'
  generalize upd H2 d (.dK (kvs4 (vn m') (.ref tp') (.ref cp') (vn lt'))) = H3 at S3 hd3 htp3 hcp3
  walk_at "rd"
  refine Rd.dgetS rfl hd3 val4.1 ?_
  walk_at "rd"
  refine Rd.dgetS rfl hd3 val4.2.1 ?_
  walk_at "rd"
  refine Rd.dgetS rfl hd3 val4.2.2.1 ?_
  walk_at "rd"
  refine Rd.dgetS rfl hd3 val4.2.2.2 ?_
  walk_at "rd"
  rename_i h' lp' H4 nh nl S4 hA4
  exact k h' lp' H4 (Same.fr S3 nh) (S3.trans S4) hA4
theorem ok_is_operation (T : Txt K mg) : OkF P w K mg base 1 (He.ga K "is_operation") ["entry"] (spIop K) := by
  refine FnP.okF T.f_is_operation sc_is_operation (fun _ _ _ _ _ _ us hl => match us, hl with | [_], _ => rfl) (fun vs H Q E h => ?_) (fun cdv A outer s H vs Q E hr h => ?_)
  · obtain ⟨r, w, v, rfl, _⟩ := h
    rfl
  obtain ⟨r, w, v, rfl, hr2, hw, k⟩ := h
  refine ⟨_, (pss_cons (ps_if (PW.pt (pw_or (pt_not (pt_val (pe_callB (isiK (K := K)) (by rfl) T.g_isinstance (by decide +kernel) (pa_cons (pv 0) (pa_cons (pe_bltn (v := .ty "tuple") (by rfl) T.g_tuple boot_ty_tuple rfl) pa_nil))))) (pw_or1 (pt_cmpR op_eq (pe_callB (lenK (K := K)) (by rfl) T.g_len (by decide +kernel) (pa_cons (pv 0) pa_nil)) pe_int (nomark _))))) (pss_one (ps_ret pe_bl)) pss_nil)
    (pss_cons (ps_if (pt_cmpR (inK (K := K)) (pe_ix (ixTK (K := K)) (pv 0) pe_int (fun _ _ => rfl)) (pe_glob (v := .ref (He.ga K "HALL_WORDS")) (by rfl) T.g_HALL_WORDS rfl) (by rfl)) (pss_one (ps_ret (pe_cmpR op_eq (pe_callB (lenK (K := K)) (by rfl) T.g_len (by decide +kernel) (pa_cons (pv 0) pa_nil)) pe_int (nomark _)))) pss_nil)
    (pss_one (ps_ret (pe_and (pe_cmpR (inK (K := K)) (pe_ix (ixTK (K := K)) (pv 0) pe_int (fun _ _ => rfl)) (pe_glob (v := .ref (He.ga K "BARE_WORDS")) (by rfl) T.g_BARE_WORDS rfl) (by rfl)) (pe_one (pe_cmpR op_eq (pe_callB (lenK (K := K)) (by rfl) T.g_len (by decide +kernel) (pa_cons (pv 0) pa_nil)) pe_int (nomark _)))))))), ?_⟩
  walk_at "rd"
  refine ⟨_, .ty "tuple", _, _, true, rfl, .ty "tuple", .base (.tup hr2), kit_at (by decide +kernel), ?_⟩
  walk_at "rd"
  refine Rd.dF (by simp) ?_
  walk_at "rd"
  refine ⟨_, _, rfl, .inr (T.t_HALL_WORDS _), rfl, rfl, ?_⟩
  have hin : inV (.str w) (([("modulus" : Str), "takes", "calls", "lateness"] : List Str).map V.str) = true := by
    simp only [words4, List.mem_cons, List.not_mem_nil, or_false] at hw
    rcases hw with rfl | rfl | rfl | rfl <;> decide +kernel
  rw [show (if false = true then !inV (.str w) (([("modulus" : Str), "takes", "calls", "lateness"] : List Str).map V.str) else inV (.str w) (([("modulus" : Str), "takes", "calls", "lateness"] : List Str).map V.str)) = true from hin]
  walk_at "rd"
  exact k
theorem ok_check_list (T : Txt K mg) : OkF P w K mg base 1 (He.ga K "check_list") ["operations"] spCl := by
  refine FnP.okF T.f_check_list sc_check_list (fun _ _ _ _ _ _ us hl => match us, hl with | [_], _ => rfl) (fun vs H Q E h => ?_) (fun cdv A outer s H vs Q E hr h => ?_)
  · obtain ⟨l, xs, rfl, _⟩ := h
    rfl
  obtain ⟨l, xs, rfl, hl, k⟩ := h
  refine ⟨_, (pss_one (ps_if (pt_not (pt_val (pe_callB (isiK (K := K)) (by rfl) T.g_isinstance (by decide +kernel) (pa_cons (pv 0) (pa_cons (pe_bltn (v := .ty "list") (by rfl) T.g_list boot_ty_list rfl) pa_nil))))) (pss_one ps_never) pss_nil)), ?_⟩
  walk_at "rd"
  refine ⟨_, .ty "list", _, _, true, rfl, .ty "list", .base (.lst hl), kit_at (by decide +kernel), ?_⟩
  walk_at "rd"
  exact k
theorem ok_check_entry (T : Txt K mg) : OkF P w K mg base 2 (He.ga K "check_entry") ["entry", "place"] (spCe K) := by
  have G_is_operation : OkF P w K mg base 1 (He.ga K "is_operation") ["entry"] (spIop K) := ok_is_operation T
  refine FnP.okF T.f_check_entry sc_check_entry (fun _ _ _ _ _ _ us hl => match us, hl with | [_, _], _ => rfl) (fun vs H Q E h => ?_) (fun cdv A outer s H vs Q E hr h => ?_)
  · obtain ⟨r, i, w, v, rfl, _⟩ := h
    rfl
  obtain ⟨r, i, w, v, rfl, hr2, hw, k⟩ := h
  refine ⟨_, (pss_one (ps_if (pt_not (pt_val (pe_call G_is_operation.one (hr.mono (by decide)) (by rfl) T.g_is_operation G_is_operation.kp G_is_operation.two .nil passL (pa_cons (pv 0) pa_nil)))) (pss_one ps_never) pss_nil)), ?_⟩
  walk_at "rd"
  refine ⟨r, w, v, rfl, hr2, hw, ?_⟩
  walk_at "rd"
  exact k
theorem ok_Bench_init (T : Txt K mg) : OkF P w K mg base 1 (He.ma K (He.ga K "Bench") "__init__") ["self", "hall"] (spBi (He.ga K "Bench") (He.ga K "Hall")) := by
  refine FnP.okF T.f_Bench_init sc_Bench_init (fun _ _ _ _ _ _ us hl => match us, hl with | [_, _], _ => rfl) (fun vs H Q E h => ?_) (fun cdv A outer s H vs Q E hr h => ?_)
  · obtain ⟨b, dx, h, lp, p, rfl, _⟩ := h
    rfl
  obtain ⟨b, dx, h, lp, p, rfl, hb, hA, k⟩ := h
  refine ⟨_, (pss_cons (ps_fld (pv 0) (pe_lst (pa_cons (pv 1) pa_nil)) rfl)
    (pss_cons (ps_fld (pv 0) (pe_lst pa_nil) rfl)
    (pss_cons (ps_fld (pv 0) pe_int rfl)
    (pss_one (ps_fld (pv 0) pe_dnewK rfl))))), ?_⟩
  walk_at "rd"
  refine Rd.sfld ?_
  walk_at "rd"
  rename_i l1 H1 n1 S1 h1
  have l1b : l1 ≠ b := fun e => by rw [e, hb] at n1; cases n1
  have len1 : ∀ (f : Str) (v : V) (fs : List (Str × V)) (n : Nat), fs.length ≤ n → (putF f v fs).length ≤ n + 1 := fun f v fs n h => Nat.le_trans (length_putF f v fs) (Nat.succ_le_succ h)
  refine ⟨b, _, dx, _, rfl, S1 _ _ hb, T.cl_Bench, T.n_Bench__halls, by decide, ?_⟩
  have B2 : But b H (upd H1 b (.ins (He.ga K "Bench") dx (putF "_halls" (.ref l1) []))) := (But.same S1).trans But.at_d
  have hb2 : upd H1 b (.ins (He.ga K "Bench") dx (putF "_halls" (.ref l1) [])) b = some (.ins (He.ga K "Bench") dx (putF "_halls" (.ref l1) [])) := upd_same
  have h12 : upd H1 b (.ins (He.ga K "Bench") dx (putF "_halls" (.ref l1) [])) l1 = some (.lst [.ref h]) := by rw [upd_ne l1b]; exact h1
  generalize upd H1 b (.ins (He.ga K "Bench") dx (putF "_halls" (.ref l1) [])) = H2 at B2 hb2 h12
  walk_at "rd"
  refine Rd.sfld ?_
  walk_at "rd"
  rename_i l3 H3 n3 S3 h3
  have l3b : l3 ≠ b := fun e => by rw [e, hb2] at n3; cases n3
  refine ⟨b, _, dx, _, rfl, S3 _ _ hb2, T.cl_Bench, T.n_Bench__words, Nat.lt_of_le_of_lt (len1 _ _ _ 0 (Nat.le_refl 0)) (by decide), ?_⟩
  have B4 : But b H (upd H3 b (.ins (He.ga K "Bench") dx (putF "_words" (.ref l3) (putF "_halls" (.ref l1) [])))) := (B2.trans (But.same S3)).trans But.at_d
  have hb4 : upd H3 b (.ins (He.ga K "Bench") dx (putF "_words" (.ref l3) (putF "_halls" (.ref l1) []))) b = some (.ins (He.ga K "Bench") dx (putF "_words" (.ref l3) (putF "_halls" (.ref l1) []))) := upd_same
  have h14 : upd H3 b (.ins (He.ga K "Bench") dx (putF "_words" (.ref l3) (putF "_halls" (.ref l1) []))) l1 = some (.lst [.ref h]) := by rw [upd_ne l1b]; exact S3 _ _ h12
  have h34 : upd H3 b (.ins (He.ga K "Bench") dx (putF "_words" (.ref l3) (putF "_halls" (.ref l1) []))) l3 = some (.lst []) := by rw [upd_ne l3b]; exact h3
  generalize upd H3 b (.ins (He.ga K "Bench") dx (putF "_words" (.ref l3) (putF "_halls" (.ref l1) []))) = H4 at B4 hb4 h14 h34
  walk_at "rd"
  refine Rd.sfld ?_
  walk_at "rd"
  refine ⟨b, _, dx, _, rfl, hb4, T.cl_Bench, T.n_Bench__done, Nat.lt_of_le_of_lt (len1 _ _ _ 1 (len1 _ _ _ 0 (Nat.le_refl 0))) (by decide), ?_⟩
  have B5 : But b H (upd H4 b (.ins (He.ga K "Bench") dx (putF "_done" (.int 0) (putF "_words" (.ref l3) (putF "_halls" (.ref l1) []))))) := B4.trans But.at_d
  have hb5 : upd H4 b (.ins (He.ga K "Bench") dx (putF "_done" (.int 0) (putF "_words" (.ref l3) (putF "_halls" (.ref l1) [])))) b = some (.ins (He.ga K "Bench") dx (putF "_done" (.int 0) (putF "_words" (.ref l3) (putF "_halls" (.ref l1) [])))) := upd_same
  have h15 : upd H4 b (.ins (He.ga K "Bench") dx (putF "_done" (.int 0) (putF "_words" (.ref l3) (putF "_halls" (.ref l1) [])))) l1 = some (.lst [.ref h]) := by rw [upd_ne l1b]; exact h14
  have h35 : upd H4 b (.ins (He.ga K "Bench") dx (putF "_done" (.int 0) (putF "_words" (.ref l3) (putF "_halls" (.ref l1) [])))) l3 = some (.lst []) := by rw [upd_ne l3b]; exact h34
  generalize upd H4 b (.ins (He.ga K "Bench") dx (putF "_done" (.int 0) (putF "_words" (.ref l3) (putF "_halls" (.ref l1) [])))) = H5 at B5 hb5 h15 h35
  walk_at "rd"
  refine Rd.sfld (Rd.new0 fun sn H6 n6 S6 h6 => ?_)
  walk_at "rd"
  refine ⟨b, _, dx, _, rfl, S6 _ _ hb5, T.cl_Bench, T.n_Bench__snapshots, Nat.lt_of_le_of_lt (len1 _ _ _ 2 (len1 _ _ _ 1 (len1 _ _ _ 0 (Nat.le_refl 0)))) (by decide), ?_⟩
  rw [pf0]
  have B7 : But b H (upd H6 b (.ins (He.ga K "Bench") dx (fs4 l1 l3 0 sn))) := (B5.trans (But.same S6)).trans But.at_d
  walk_at "rd"
  refine k _ l1 l3 sn B7 ⟨⟨dx, upd_same⟩, by rw [upd_ne l1b]; exact S6 _ _ h15, by rw [upd_ne l3b]; exact S6 _ _ h35, Nat.le_refl _, rfl, .cons (lp := lp) ?_ .nil⟩
  exact HallAt.butG hA B7 hb rfl
theorem ok_Bench__replace (T : Txt K mg) : OkF P w K mg base 9 (He.ma K (He.ga K "Bench") "_replace") ["self", "part", "value"] (spRp (He.ga K "Bench") (He.ga K "Hall")) := by
  have G_with_part : OkF P w K mg base 7 (He.ga K "with_part") ["hall", "part", "value"] (spWp (He.ga K "Hall")) := ok_with_part T
  have G_most_open : OkF P w K mg base 8 (He.ga K "most_open") ["hall"] (spMo (He.ga K "Hall")) := ok_most_open T
  refine FnP.okF T.f_Bench__replace sc_Bench__replace (fun _ _ _ _ _ _ us hl => match us, hl with | [_, _, _], _ => rfl) (fun vs H Q E h => ?_) (fun cdv A outer s H vs Q E hr h => ?_)
  · obtain ⟨b, hl, wl, sn, hs, ws, n, ps, w, v, p, q, rfl, _⟩ := h
    rfl
  obtain ⟨b, hl, wl, sn, hs, ws, n, ps, w, v, p, q, rfl, hB, hp, hv, hn, k⟩ := h
  obtain ⟨h, lp, hh, hA⟩ := hB.ha.get hp
  obtain ⟨dx, hb⟩ := hB.ex
  have lhs := hB.ha.len
  refine ⟨_, (pss_cons (ps_set (i := 3) sc_Bench__replace.nd rfl (Or.inl rfl) (pe_call G_with_part.one (hr.mono (by decide)) (by rfl) T.g_with_part G_with_part.kp G_with_part.two .nil passL (pa_cons (pe_ix (ixLK (K := K)) (pe_fld (pv 0) rfl) (pe_fld (pv 0) rfl) (fun _ _ => rfl)) (pa_cons (pv 1) (pa_cons (pv 2) pa_nil)))))
    (pss_cons (ps_fld (pv 0) (pe_op op_cat (pe_slice (slLK (K := K)) (pe_fld (pv 0) rfl) po_none (po_some (pe_op op_add (pe_fld (pv 0) rfl) pe_int))) (pe_lst (pa_cons (pv 3) pa_nil))) rfl)
    (pss_cons (ps_fld (pv 0) (pe_op op_cat (pe_slice (slLK (K := K)) (pe_fld (pv 0) rfl) po_none (po_some (pe_fld (pv 0) rfl))) (pe_lst (pa_cons (pv 1) pa_nil))) rfl)
    (pss_cons (ps_fldaug (pv 0) pe_int in_add)
    (pss_one (ps_ret (pe_call G_most_open.one (hr.mono (by decide)) (by rfl) T.g_most_open G_most_open.kp G_most_open.two .nil passL (pa_cons (pv 3) pa_nil)))))))), ?_⟩
  walk_at "rd"
  refine Rd.b_halls T ⟨dx, hb⟩ ?_
  walk_at "rd"
  refine Rd.b_done T ⟨dx, hb⟩ ?_
  walk_at "rd"
  refine Rd.ixL (SqL.of hB.hh) (atn hh) ?_
  walk_at "rd"
  refine ⟨h, lp, w, v, p, q, rfl, hA, hv, fun h' lp' H1 nh S1 hA1 => ?_⟩
  have hb1 := S1 _ _ hb
  have hh1 := S1 _ _ hB.hh
  walk_at "rd"
  refine Rd.sfld ?_
  walk_at "rd"
  refine Rd.b_halls T ⟨dx, hb1⟩ ?_
  walk_at "rd"
  refine Rd.b_done T ⟨dx, hb1⟩ ?_
  walk_at "rd"
  refine Rd.slL (SqL.of hh1) fun p2 H2 n2 S2 h2 => ?_
  rw [cut_preI _ (n := n + 1) (by omega)] at h2
  walk_at "rd"
  rename_i p3 H3 n3 S3 h3 p4 H4 n4 S4 h4
  have S14 := (S2.trans S3).trans S4
  have hb4 := S14 _ _ hb1
  refine ⟨b, _, dx, _, rfl, hb4, T.cl_Bench, T.n_Bench__halls, by show 4 < 1000; decide, ?_⟩
  rw [(pf4 (x := p4) (k := 0)).1]
  have p4b : p4 ≠ b := ne_of h4 hb4 (fun q => by cases q)
  have hw4 := S14 _ _ (S1 _ _ hB.ww)
  have wb : wl ≠ b := ne_of hw4 hb4 (fun q => by cases q)
  have B5 : But b H4 (upd H4 b (.ins (He.ga K "Bench") dx (fs4 p4 wl n sn))) := But.at_d
  have hA5 := HallAt.butI (hA1.same S14) B5 hb4
  have hH5 := (hB.ha.same (S1.trans S14)).butI B5 hb4
  have h45 := B5 _ _ p4b h4
  have hw5 := B5 _ _ wb hw4
  have B05 := (But.same (d := b) (S1.trans S14)).trans B5
  have hb5 : upd H4 b (.ins (He.ga K "Bench") dx (fs4 p4 wl n sn)) b = some (.ins (He.ga K "Bench") dx (fs4 p4 wl n sn)) := upd_same
  generalize upd H4 b (.ins (He.ga K "Bench") dx (fs4 p4 wl n sn)) = H5 at B5 hA5 hH5 h45 hw5 B05 hb5
  clear hw4 h4 n4 h3 n3 h2 n2 hh1 hb1 hb4 S14 S4 S3 S2 hA1 nh S1 B5 H1 H2 H3 H4
  walk_at "rd"
  refine Rd.sfld ?_
  walk_at "rd"
  refine Rd.b_words T ⟨dx, hb5⟩ ?_
  walk_at "rd"
  refine Rd.b_done T ⟨dx, hb5⟩ ?_
  walk_at "rd"
  refine Rd.slL (SqL.of hw5) fun p2 H6 n2 S2 h2 => ?_
  rw [cut_preI _ (n := n) rfl] at h2
  walk_at "rd"
  rename_i p3 H7 n3 S3 h3 p8 H8 n8 S8 h8
  have S58 := (S2.trans S3).trans S8
  have hb8 := S58 _ _ hb5
  refine ⟨b, _, dx, _, rfl, hb8, T.cl_Bench, T.n_Bench__words, by show 4 < 1000; decide, ?_⟩
  rw [(pf4 (x := p8) (k := 0)).2.1]
  have p8b : p8 ≠ b := ne_of h8 hb8 (fun q => by cases q)
  have B9 : But b H8 (upd H8 b (.ins (He.ga K "Bench") dx (fs4 p4 p8 n sn))) := But.at_d
  have hA9 := HallAt.butI (hA5.same S58) B9 hb8
  have hH9 := (hH5.same S58).butI B9 hb8
  have h49 := B9 _ _ p4b (S58 _ _ h45)
  have h89 := B9 _ _ p8b h8
  have B09 := (B05.trans (But.same S58)).trans B9
  have hb9 : upd H8 b (.ins (He.ga K "Bench") dx (fs4 p4 p8 n sn)) b = some (.ins (He.ga K "Bench") dx (fs4 p4 p8 n sn)) := upd_same
  generalize upd H8 b (.ins (He.ga K "Bench") dx (fs4 p4 p8 n sn)) = H9 at B9 hA9 hH9 h49 h89 B09 hb9
  clear h8 n8 h3 n3 h2 n2 hb8 S58 S8 S3 S2 B9 hA5 hH5 h45 hw5 B05 hb5 H5 H6 H7 H8
  walk_at "rd"
  refine ⟨.ref b, rfl, b, _, dx, _, _, rfl, hb9, T.cl_Bench, T.n_Bench__done, lk4.2.2.1, n, 1, rfl, rfl, dx, _, hb9, by show 4 < 1000; decide, ?_⟩
  rw [show V.int ((n : Int) + 1) = vn (n + 1) from vn_int (by omega), (pf4 (x := b) (k := n + 1)).2.2]
  have B10 : But b H9 (upd H9 b (.ins (He.ga K "Bench") dx (fs4 p4 p8 (n + 1) sn))) := But.at_d
  have hA10 := HallAt.butI hA9 B10 hb9
  have hH10 := hH9.butI B10 hb9
  have h410 := B10 _ _ p4b h49
  have h810 := B10 _ _ p8b h89
  have B010 := B09.trans B10
  have hb10 : upd H9 b (.ins (He.ga K "Bench") dx (fs4 p4 p8 (n + 1) sn)) b = some (.ins (He.ga K "Bench") dx (fs4 p4 p8 (n + 1) sn)) := upd_same
  generalize upd H9 b (.ins (He.ga K "Bench") dx (fs4 p4 p8 (n + 1) sn)) = H10 at B10 hA10 hH10 h410 h810 B010 hb10
  walk_at "rd"
  rename_i v' H11 S11 hv'
  have e2 : (ws.map V.str).take n ++ [V.str w] = (ws.take n ++ [w]).map V.str := by rw [List.map_append, List.map_take]; rfl
  rw [e2] at h810
  refine k v' H11 p4 p8 h' (B010.trans (But.same S11)) ⟨⟨dx, S11 _ _ hb10⟩, S11 _ _ h410, S11 _ _ h810, ?_, ?_, ((hH10.take (n + 1)).app (.cons hA10 .nil)).same S11⟩ hv'
  · have := hB.hn
    simp
    omega
  · have := hB.hn
    have := hB.hl
    simp
    omega
theorem ok_Bench_undo (T : Txt K mg) : OkF P w K mg base 1 (He.ma K (He.ga K "Bench") "undo") ["self"] (spUn (He.ga K "Bench") (He.ga K "Hall")) := by
  refine FnP.okF T.f_Bench_undo sc_Bench_undo (fun _ _ _ _ _ _ us hl => match us, hl with | [_], _ => rfl) (fun vs H Q E h => ?_) (fun cdv A outer s H vs Q E hr h => ?_)
  · obtain ⟨b, hl, wl, sn, hs, ws, n, ps, rfl, _⟩ := h
    rfl
  obtain ⟨b, hl, wl, sn, hs, ws, n, ps, rfl, hB, k0, k1⟩ := h
  obtain ⟨dx, hb⟩ := hB.ex
  refine ⟨_, (pss_cons (ps_if (pt_cmpR op_eq (pe_fld (pv 0) rfl) pe_int (nomark _)) (pss_one (ps_ret pe_bl)) pss_nil)
    (pss_cons (ps_fldaug (pv 0) pe_int in_sub)
    (pss_one (ps_ret pe_bl)))), ?_⟩
  walk_at "rd"
  refine Rd.b_done T ⟨dx, hb⟩ ?_
  walk_at "rd"
  by_cases h0 : n = 0
  · refine Rd.dT (by rw [h0]; rfl) ?_
    walk_at "rd"
    exact k0 h0
  · refine Rd.dF (by intro e; have e : V.int (n : Int) = V.int 0 := e; injection e with e; omega) ?_
    walk_at "rd"
    refine ⟨.ref b, rfl, b, _, dx, _, _, rfl, hb, T.cl_Bench, T.n_Bench__done, lk4.2.2.1, n, 1, rfl, rfl, dx, _, hb, by show 4 < 1000; decide, ?_⟩
    rw [show V.int ((n : Int) - 1) = vn (n - 1) from vn_int (by omega), (pf4 (x := b) (k := n - 1)).2.2]
    have B : But b H (upd H b (.ins (He.ga K "Bench") dx (fs4 hl wl (n - 1) sn))) := But.at_d
    walk_at "rd"
    refine k1 (by omega) _ B ⟨⟨dx, upd_same⟩, B _ _ (ne_of hB.hh hb (fun q => by cases q)) hB.hh, B _ _ (ne_of hB.ww hb (fun q => by cases q)) hB.ww, ?_, hB.hl, hB.ha.butI B hb⟩
    have := hB.hn
    omega
theorem ok_Bench_text (T : Txt K mg) : OkF P w K mg base 4 (getAt K (He.ga K "Bench") "text") ["self"] (spBt (He.ga K "Bench") (He.ga K "Hall")) := by
  have G_text : OkF P w K mg base 2 (getAt K (He.ga K "Hall") "text") ["self"] (spText (He.ga K "Hall")) := ok_text T
  refine FnP.okF T.f_Bench_text sc_Bench_text (fun _ _ _ _ _ _ us hl => match us, hl with | [_], _ => rfl) (fun vs H Q E h => ?_) (fun cdv A outer s H vs Q E hr h => ?_)
  · obtain ⟨b, hl, wl, sn, hs, ws, n, ps, p, rfl, _⟩ := h
    rfl
  obtain ⟨b, hl, wl, sn, hs, ws, n, ps, p, rfl, hB, hp, k⟩ := h
  obtain ⟨dx, hb⟩ := hB.ex
  obtain ⟨h, lp, hh, hA⟩ := hB.ha.get hp
  refine ⟨_, (pss_one (ps_ret (pe_prop (pe_ix (ixLK (K := K)) (pe_fld (pv 0) rfl) (pe_fld (pv 0) rfl) (fun _ _ => rfl)) T.cl_Hall T.p_text G_text.one (hr.mono (by decide)) G_text.two .nil passL (by rfl)))), ?_⟩
  walk_at "rd"
  refine Rd.b_halls T ⟨dx, hb⟩ ?_
  walk_at "rd"
  refine Rd.b_done T ⟨dx, hb⟩ ?_
  walk_at "rd"
  refine Rd.ixL (SqL.of hB.hh) (atn hh) ?_
  walk_at "rd"
  rename_i H1 S1
  exact k H1 S1
theorem ok_Bench__state (T : Txt K mg) : OkF P w K mg base 1 (He.ma K (He.ga K "Bench") "_state") ["self"] (spSt (He.ga K "Bench") (He.ga K "Hall")) := by
  refine FnP.okF T.f_Bench__state sc_Bench__state (fun _ _ _ _ _ _ us hl => match us, hl with | [_], _ => rfl) (fun vs H Q E h => ?_) (fun cdv A outer s H vs Q E hr h => ?_)
  · obtain ⟨b, hl, wl, sn, hs, ws, n, ps, rfl, _⟩ := h
    rfl
  obtain ⟨b, hl, wl, sn, hs, ws, n, ps, rfl, hB, k⟩ := h
  obtain ⟨dx, hb⟩ := hB.ex
  refine ⟨_, (pss_one (ps_ret (pe_tup (pa_cons (pe_fld (pv 0) rfl) (pa_cons (pe_fld (pv 0) rfl) (pa_cons (pe_fld (pv 0) rfl) pa_nil)))))), ?_⟩
  walk_at "rd"
  refine Rd.b_halls T ⟨dx, hb⟩ ?_
  walk_at "rd"
  refine Rd.b_words T ⟨dx, hb⟩ ?_
  walk_at "rd"
  refine Rd.b_done T ⟨dx, hb⟩ ?_
  walk_at "rd"
  rename_i t H1 n1 S1 h1
  exact k t H1 n1 S1 h1
theorem ok_Bench_redo0 (T : Txt K mg) : OkF P w K mg base 1 (He.ma K (He.ga K "Bench") "redo") ["self"] (fun vs _ _ _ => vs.length = 1 ∧ False) := by
  refine FnP.okF T.f_Bench_redo sc_Bench_redo (fun _ _ _ _ _ _ us hl => match us, hl with | [_], _ => rfl) (fun vs H Q E h => h.1) (fun cdv A outer s H vs Q E hr h => h.2.elim)
theorem ok_Bench__execute (T : Txt K mg) : OkF P w K mg base 10 (He.ma K (He.ga K "Bench") "_execute") ["self", "operation"] (spExR (He.ga K "Bench") (He.ga K "Hall")) := by
  have G_Bench_undo : OkF P w K mg base 1 (He.ma K (He.ga K "Bench") "undo") ["self"] (spUn (He.ga K "Bench") (He.ga K "Hall")) := ok_Bench_undo T
  have G_Bench__replace : OkF P w K mg base 9 (He.ma K (He.ga K "Bench") "_replace") ["self", "part", "value"] (spRp (He.ga K "Bench") (He.ga K "Hall")) := ok_Bench__replace T
  have G_Bench_redo : OkF P w K mg base 1 (He.ma K (He.ga K "Bench") "redo") ["self"] (fun vs _ _ _ => vs.length = 1 ∧ False) := ok_Bench_redo0 T
  refine FnP.okF T.f_Bench__execute sc_Bench__execute (fun _ _ _ _ _ _ us hl => match us, hl with | [_, _], _ => rfl) (fun vs H Q E h => ?_) (fun cdv A outer s H vs Q E hr h => ?_)
  · obtain ⟨b, hl, wl, sn, r, hs, ws, n, ps, w, v, p, q, rfl, _⟩ := h
    rfl
  obtain ⟨b, hl, wl, sn, r, hs, ws, n, ps, w, v, p, q, rfl, hr2, hB, hp, hv, hn, k⟩ := h
  have nw : ¬ (w = ("undo" : Str)) ∧ ¬ (w = ("redo" : Str)) := by
    cases hv <;> exact ⟨by decide +kernel, by decide +kernel⟩
  obtain ⟨dx, hb⟩ := hB.ex
  refine ⟨_, (pss_cons (ps_if (pt_cmpR op_eq (pe_ix (ixTK (K := K)) (pv 1) pe_int (fun _ _ => rfl)) pe_str (nomark _)) (pss_one (ps_ret (pe_meth0 (pv 0) T.cl_Bench T.m_Bench_undo G_Bench_undo.one (hr.mono (by decide)) G_Bench_undo.two .nil passL))) pss_nil)
    (pss_cons (ps_if (pt_cmpR op_eq (pe_ix (ixTK (K := K)) (pv 1) pe_int (fun _ _ => rfl)) pe_str (nomark _)) (pss_one (ps_ret (pe_meth0 (pv 0) T.cl_Bench T.m_Bench_redo G_Bench_redo.one (hr.mono (by decide)) G_Bench_redo.two .nil passL))) pss_nil)
    (pss_one (ps_ret (pe_meth (pv 0) T.cl_Bench T.m_Bench__replace G_Bench__replace.one (hr.mono (by decide)) G_Bench__replace.two .nil passL (pa_cons (pe_ix (ixTK (K := K)) (pv 1) pe_int (fun _ _ => rfl)) (pa_cons (pe_ix (ixTK (K := K)) (pv 1) pe_int (fun _ _ => rfl)) pa_nil))))))), ?_⟩
  walk_at "rd"
  refine Rd.dF (fun e => nw.1 (by injection e)) ?_
  walk_at "rd"
  refine Rd.dF (fun e => nw.2 (by injection e)) ?_
  walk_at "rd"
  refine ⟨b, dx, _, rfl, hb, lk4x (by decide +kernel), ?_⟩
  walk_at "rd"
  exact ⟨b, hl, wl, sn, hs, ws, n, ps, w, v, p, q, rfl, ⟨⟨dx, hb⟩, hB.hh, hB.ww, hB.hn, hB.hl, hB.ha⟩, hp, hv, hn, k⟩
/-- a batch of one operation -/
def spB1 (CB C : Addr) : Sp := fun vs H Q _ => ∃ (b hl wl sn l r : Addr) (hs : List V) (ws : List Str) (n : Nat) (ps : List Pq) (w : Str) (v : V) (p q : Pq), vs = [.ref b, .ref l] ∧ H l = some (.lst [.ref r]) ∧ H r = some (.tup [.str w, v]) ∧ BAt CB C H b hl wl sn hs ws n ps ∧ ps[n]? = some p ∧ PV H w v p q ∧ n ≤ 500 ∧
  ∀ v' o H' hl' wl' h', But b H H' → BAt CB C H' b hl' wl' sn (hs.take (n + 1) ++ [.ref h']) (ws.take n ++ [w]) (n + 1) (ps.take (n + 1) ++ [q]) → MostV q.2.1 q.2.2.1 q.2.2.2 v' → H o = none → H' o = some (.lst [v']) → Q (.ref o) H'
theorem ok_Bench_batch (T : Txt K mg) : OkF P w K mg base 11 (He.ma K (He.ga K "Bench") "batch") ["self", "operations"] (spB1 (He.ga K "Bench") (He.ga K "Hall")) := by
  have G_check_list : OkF P w K mg base 1 (He.ga K "check_list") ["operations"] spCl := ok_check_list T
  have G_check_entry : OkF P w K mg base 2 (He.ga K "check_entry") ["entry", "place"] (spCe K) := ok_check_entry T
  have G_Bench__state : OkF P w K mg base 1 (He.ma K (He.ga K "Bench") "_state") ["self"] (spSt (He.ga K "Bench") (He.ga K "Hall")) := ok_Bench__state T
  have G_Bench__execute : OkF P w K mg base 10 (He.ma K (He.ga K "Bench") "_execute") ["self", "operation"] (spExR (He.ga K "Bench") (He.ga K "Hall")) := ok_Bench__execute T
  refine FnP.okF T.f_Bench_batch sc_Bench_batch (fun _ _ _ _ _ _ us hl => match us, hl with | [_, _], _ => rfl) (fun vs H Q E h => ?_) (fun cdv A outer s H vs Q E hr h => ?_)
  · obtain ⟨b, hl, wl, sn, l, r, hs, ws, n, ps, w, v, p, q, rfl, _⟩ := h
    rfl
  obtain ⟨b, hl, wl, sn, l, r, hs, ws, n, ps, w, v, p, q, rfl, hlst, hr2, hB, hp, hv, hn, k⟩ := h
  obtain ⟨dx, hb⟩ := hB.ex
  refine ⟨_, (pss_cons (ps_expr (pe_call G_check_list.one (hr.mono (by decide)) (by rfl) T.g_check_list G_check_list.kp G_check_list.two .nil passL (pa_cons (pv 1) pa_nil)))
    (pss_cons (ps_for own_cx rfl (pi_enum (by rfl) T.g_enumerate (pa_cons (pv 1) pa_nil)) (pg_tup rfl (pgs_cons (pg_name (i := 2) sc_Bench_batch.nd rfl (Or.inl rfl)) (pgs_cons (pg_name (i := 3) sc_Bench_batch.nd rfl (Or.inl rfl)) pgs_nil)))
      (pss_one (ps_expr (pe_call G_check_entry.one (hr.mono (by decide)) (by rfl) T.g_check_entry G_check_entry.kp G_check_entry.two .nil passL (pa_cons (pv 3) (pa_cons (pv 2) pa_nil))))))
    (pss_cons (ps_set (i := 4) sc_Bench_batch.nd rfl (Or.inl rfl) (pe_meth0 (pv 0) T.cl_Bench T.m_Bench__state G_Bench__state.one (hr.mono (by decide)) G_Bench__state.two .nil passL))
    (pss_one (ps_try_thru0 (pss_one (ps_ret (pe_lc (own := [("operation", 5)]) (g := gName 5) (tt := tYes) (by rfl) sc_Bench_batch.nd (pi_listK (K := K) (pv 1)) (blkOk_by (own := [("operation", 5)]) (N := N_Bench_batch) (sc := (defScope s_Bench_batch)) (by decide +kernel)) (fun _ _ _ _ _ => pg_name (i := 5) sc_Bench_batch.nd rfl (Or.inl rfl)) (fun _ _ _ _ _ => pts_nil) (fun _ _ _ _ _ => (pe_meth (pv 0) T.cl_Bench T.m_Bench__execute G_Bench__execute.one (hr.mono (by decide)) G_Bench__execute.two .nil passL (pa_cons (pv 5) pa_nil))))))))))), ?_⟩
  walk_at "rd"
  refine ⟨l, _, rfl, hlst, ?_⟩
  walk_at "rd"
  refine ⟨_, rfl, l, [.ref r], rfl, SqL.of hlst, ?_⟩
  refine for_enumL (K := K) (a := l) (xs := [V.ref r]) (fun i σ H2 => ∃ u2 u3 u4 u5, σ = [some (.ref b), some (.ref l), u2, u3, u4, u5] ∧ Same H H2) ⟨_, _, _, _, rfl, Same.refl H⟩ (fun i σ H2 _ ⟨_, _, _, _, _, S⟩ => SqL.of (S _ _ hlst)) ?_ ?_
  · rintro i x σ H2 hx ⟨u2, u3, u4, u5, rfl, S2⟩ Tp hT
    have S3 : Same H2 (upd H2 Tp (.tup [vn i, x])) := Same.new hT
    have hTp : upd H2 Tp (.tup [vn i, x]) Tp = some (.tup [vn i, x]) := upd_same
    generalize upd H2 Tp (.tup [vn i, x]) = H3 at S3 hTp
    have S := S2.trans S3
    obtain rfl : V.ref r = x := by
      cases i with
      | zero => exact Option.some.inj hx
      | succ i => cases hx
    walk_at "rd"
    refine ⟨r, _, w, v, rfl, S _ _ hr2, hv.word, ?_⟩
    walk_at "rd"
    exact ⟨_, _, _, _, rfl, S⟩
  · rintro σ H2 ⟨u2, u3, u4, u5, rfl, S2⟩
    walk_at "rd"
    have hB2 := hB.same S2
    have hv2 := hv.same S2
    obtain ⟨dx, hb⟩ := hB2.ex
    refine ⟨b, dx, _, rfl, hb, lk4x (by decide +kernel), ?_⟩
    walk_at "rd"
    refine ⟨b, hl, wl, sn, hs, ws, n, ps, rfl, hB2, fun t H3 nt S3 ht => ?_⟩
    have S23 := S2.trans S3
    have hB3 := hB2.same S3
    have hv3 := hv2.same S3
    obtain ⟨dx, hb3⟩ := hB3.ex
    walk_at "rd"
    refine Rd.lc_one (fun D H' => ∃ v' hl' wl' h', But b H3 H' ∧ BAt (He.ga K "Bench") (He.ga K "Hall") H' b hl' wl' sn (hs.take (n + 1) ++ [.ref h']) (ws.take n ++ [w]) (n + 1) (ps.take (n + 1) ++ [q]) ∧ MostV q.2.1 q.2.2.1 q.2.2.2 v' ∧ H' D = some (.lst [v'])) (SqL.of (S23 _ _ hlst)) (fun _ => rfl) (fun D nD Q' k' => ?_) fun D H' nD ⟨v', hl', wl', h', B, hB', hm, hD⟩ => ?_
    · have S4 : Same H3 (upd H3 D (.lst [])) := Same.nw nD (Same.refl H3)
      have hD4 : upd H3 D (.lst []) D = some (.lst []) := upd_same
      generalize upd H3 D (.lst []) = H4 at S4 hD4
      have hB4 := hB3.same S4
      have hv4 := hv3.same S4
      obtain ⟨dx, hb4⟩ := hB4.ex
      have hr4 := S4 _ _ (S23 _ _ hr2)
      walk_at "rd"
      refine ⟨b, dx, _, rfl, hb4, lk4x (by decide +kernel), ?_⟩
      walk_at "rd"
      refine ⟨b, hl, wl, sn, r, hs, ws, n, ps, w, v, p, q, rfl, hr4, hB4, hp, hv4, hn, fun v' H5 hl' wl' h' B5 hB5 hm => ?_⟩
      have Db : D ≠ b := ne_of hD4 hb4 (fun q => by cases q)
      have hD5 := B5 _ _ Db hD4
      have B6 : But D H5 (upd H5 D (.lst [v'])) := But.at_d
      have lb : l ≠ b := ne_of (S4 _ _ (S23 _ _ hlst)) hb4 (fun q => by cases q)
      have lD : l ≠ D := fun e => by
        have z := S23 _ _ hlst
        rw [e, nD] at z
        cases z
      refine k' _ _ hD5 (SqL.of (B6 _ _ lD (B5 _ _ lb (S4 _ _ (S23 _ _ hlst))))) ⟨v', hl', wl', h', fun c o cb e => ?_, hB5.butL B6 hD5 (by simp), hm, upd_same⟩
      refine B6 _ _ (fun e2 => ?_) (B5 _ _ cb (S4 _ _ e))
      rw [e2, nD] at e
      cases e
    · exact k v' D H' hl' wl' h' ((But.same S23).trans B) hB' hm (Same.free1 S23 nD) hD
end
end Tk

end

/-! ### max of a tuple of ints -/
namespace Tk
open PySem PySem.Spec PyProof.Rows L2 Mm
section
variable {prog : Program} {w : World} {A : Around} {E : Value → Shared → Prop} {s : Shared} {l : Addr}
theorem max_intTup {xs : Array (Int × Tok)} {Q : Value → Shared → Prop} (hh : A.handled = none) (hl : s.heap.IsTuple l (intItems xs)) (hne : 0 < xs.size)
    (h : ∀ v h' tk, (intItems xs)[argBest (fun i j => decide (numAt xs i > numAt xs j)) (xs.size - 1)]? = some v → (∀ b o, s.heap.get? b = some o → h'.get? b = some o) → Q v { s with heap := h', toks := tk }) :
    wpAny (model prog w) A (call (.builtin "max") [.ref l]) Q E s := by
  have hlt : l < s.heap.objs.size := by obtain ⟨_, e, _⟩ := hl; exact Heap.lt_size e
  refine call_max_walk (wpAny_pyIter_tuple hl ?_)
  refine ⟨_, [s.heap.objs.size, l], [s.heap.objs.size], _, _, _, _, rfl, Walks.tuple (A := A.in1) hh _ l (Nat.ne_of_lt hlt) (intItems xs), ⟨⟨_, Heap.get?_push_size _ rfl, rfl, rfl⟩, hl.push _⟩, fun c hc => ?_, by simpa [intItems] using hne, CmpOf.ints_gt (numAt xs) (fun _ _ => intItems_at), fun v h' tk hP hk => ?_⟩
  · show c < (s.heap.push _).objs.size
    rw [Heap.size_push]
    rcases List.mem_cons.mp hc with rfl | hc
    · exact Nat.lt_succ_self _
    · rcases List.mem_cons.mp hc with rfl | hc
      · exact Nat.lt_succ_of_lt hlt
      · cases hc
  · refine h v h' tk (by simpa [intItems] using hP) fun b o e => hk b o (fun hm => ?_) (Heap.get?_push_of_some _ e)
    rcases List.mem_cons.mp hm with e1 | hm
    · exact absurd (e1 ▸ Heap.lt_size e) (Nat.lt_irrefl _)
    · cases hm
theorem max_rawT {its : List Value} {ns : List Int} {Q : Value → Shared → Prop} (hh : A.handled = none) (hl : s.heap.IsTuple l its.toArray) (hi : IntsAre its ns) (hne : 0 < ns.length)
    (h : ∀ h' tk M t', (∀ b o, s.heap.get? b = some o → h'.get? b = some o) → M ∈ ns → (∀ a, a ∈ ns → a ≤ M) → Q (.int M t') { s with heap := h', toks := tk }) : wpAny (model prog w) A (call (.builtin "max") [.ref l]) Q E s := by
  obtain ⟨xs, e⟩ := hi.allInts.items
  have hn : numsOf (intItems xs).toList = ns := by rw [← e]; exact hi.numsOf
  rw [nums_intItems] at hn
  subst hn
  rw [e] at hl
  have hsz : 0 < xs.size := by simpa using hne
  refine max_intTup hh hl hsz fun v h' tk hv hk => ?_
  obtain ⟨t, rfl⟩ := intItems_at hv
  obtain ⟨h1, h2⟩ := argBest_gt (numAt xs) (xs.size - 1)
  refine h h' tk _ t hk ?_ fun a ha => ?_
  · rw [numAt_eq]; exact PySem.getD_mem (by rw [List.length_map, Array.length_toList]; omega)
  · obtain ⟨j, hj, rfl⟩ := mem_getD ha
    rw [List.length_map, Array.length_toList] at hj
    rw [← numAt_eq]; exact h2 j (by omega)
end
section
variable {X : Cx}
def rMaxT (K : PySem.W.Frag) : List V → Hp → VK → Prop := fun vs H Q => ∃ (a : Addr) (ns : List Nat), vs = [V.ref a] ∧ SqT K H a (ns.map vn) ∧ 0 < ns.length ∧ ∀ m, m ∈ ns → (∀ y, y ∈ ns → y ≤ m) → Q (vn m) H
theorem cr_maxT (hc : X.calm = true) : CallR X (.builtin "max") (rMaxT X.K) := by
  intro pins s σ H vs us Q I r h
  obtain ⟨a, ns, rfl, hs, hne, q⟩ := h
  rw [show ns.map vn = (ns.map fun n : Nat => (n : Int)).map V.int by rw [List.map_map]; rfl] at hs
  obtain ⟨its, rv, hl, _⟩ := I.tuple hs
  rw [Vals.ref1 r]
  refine max_rawT (I.ok.hd hc) (istup_old hl) rv.ints (by rw [List.length_map]; exact hne) fun h' tk m t' hk h1 h2 => ?_
  obtain ⟨n, hn, rfl⟩ := List.mem_map.mp h1
  refine ⟨.int _, H, I.kept hk, ⟨_, rfl⟩, q n hn fun y hy => ?_⟩
  have := h2 _ (List.mem_map.mpr ⟨y, hy, rfl⟩)
  omega
theorem maxTK {K : PySem.W.Frag} (hc : X.calm = true := by rfl) (hK : X.K = K := by rfl) : CallR X (.builtin "max") (rMaxT K) := hK ▸ cr_maxT hc
end
end Tk

section
local macro_rules | `(tactic| walk_at "hp") => `(tactic| first
  | assumption
  | with_reducible exact L2.upd_same
  | ((with_reducible refine' Tk.Same.get ?k0 ?k1); (case k0 => assumption); (case k1 => walk_at "hp"))
  | fail "hp")
local macro_rules | `(tactic| walk_at "same") => `(tactic| first
  | assumption
  | exact L2.Same.refl _
  | ((with_reducible refine' Tk.Same.nw ?k0 ?k1); (case k0 => assumption); (case k1 => walk_at "same"))
  | ((with_reducible refine' Tk.Same.tr ?k0 ?k1); (case k0 => assumption); (case k1 => walk_at "same")))
local macro_rules | `(tactic| walk_at "sql") => `(tactic| first
  | assumption
  | ((with_reducible refine' L2.SqL.of ?k0); (case k0 => walk_at "hp"))
  | ((with_reducible refine' L2.Same.seq ?k0 ?k1); (case k0 => assumption); (case k1 => walk_at "sql")))
local macro_rules | `(tactic| walk_at "sqt") => `(tactic| first
  | assumption
  | ((with_reducible refine' L2.SqT.of ?k0); (case k0 => walk_at "hp"))
  | ((with_reducible refine' Tk.sqt_sm ?k0 ?k1); (case k0 => assumption); (case k1 => walk_at "sqt")))
local macro_rules | `(tactic| walk_at "sz") => `(tactic| first
  | (show (_ : Nat) ≤ 1000; decide)
  | (simp; done)
  | (simp; omega))
local macro_rules | `(tactic| walk_at "szb") => `(tactic| first
  | assumption
  | (show (_ : Nat) ≤ 100000; decide)
  | (simp; done)
  | (simp; omega))
local macro_rules | `(tactic| walk_at "dp") => `(tactic| first
  | assumption
  | with_reducible exact L2.Dp.non
  | with_reducible exact L2.Dp.int _
  | with_reducible exact L2.Dp.str _
  | with_reducible exact L2.Dp.bl _
  | ((with_reducible refine' L2.Dp.lst ?k0 ?k1); (case k0 => walk_at "sql"); (case k1 => walk_at "dpa"))
  | ((with_reducible refine' L2.Dp.tup ?k0 ?k1); (case k0 => walk_at "sqt"); (case k1 => walk_at "dpa"))
  | ((with_reducible refine' Tk.dp_sm ?k0 ?k1); (case k0 => assumption); (case k1 => walk_at "dp"))
  | fail "dp")
local macro_rules | `(tactic| walk_at "dpa") => `(tactic| first
  | assumption
  | with_reducible exact L2.DpAll.nil
  | ((with_reducible refine' L2.DpAll.cons ?k0 ?k1); (case k0 => walk_at "dp"); (case k1 => walk_at "dpa"))
  | with_reducible exact Tk.dp_nats _
  | ((with_reducible refine' Tk.dpA_sm ?k0 ?k1); (case k0 => assumption); (case k1 => walk_at "dpa"))
  | fail "dpa")
local macro_rules | `(tactic| walk_at "ci") => `(tactic| first
  | exact .inl ⟨by decide, by decide⟩
  | exact .inr ⟨by decide, by decide⟩
  | exact .inl ⟨by omega, by omega⟩
  | exact .inr ⟨by omega, by omega⟩
  | exact ⟨by decide, by decide⟩
  | exact ⟨by omega, by omega⟩
  | (show (0 : Int) < _; decide)
  | (show (0 : Int) < _; omega))
local macro_rules | `(tactic| walk_at "rd1") => `(tactic| first
  | with_reducible refine Tk.Rd.seq ?_
  | with_reducible refine Tk.Rd.star ?_
  | with_reducible refine Tk.Rd.int1_i ?_
  | with_reducible refine Tk.Rd.int1_b ?_
  | with_reducible refine Tk.Rd.tlc2 ?_
  | with_reducible refine Tk.Rd.lrg3 ?_
  | with_reducible refine Tk.Rd.lrg ?_
  | with_reducible refine Tk.Rd.rg1 ?_
  | with_reducible refine Tk.Rd.rg1K_i ?_
  | with_reducible refine Tk.Rd.rg2 ?_
  | with_reducible refine Tk.Rd.rg2K_i ?_
  | ((with_reducible refine' Tk.Rd.catL ?k0 ?k1 ?k2 fun p H' np S hp => ?_); (case k0 => walk_at "hp"); (case k1 => walk_at "hp"); (case k2 => walk_at "szb"))
  | ((with_reducible refine' Tk.Rd.starK_t ?k0 ?_); (case k0 => walk_at "sqt"))
  | ((with_reducible refine' Tk.Rd.starK_l ?k0 ?_); (case k0 => walk_at "sql"))
  | ((with_reducible refine' Tk.Rd.var ?k0 ?_); (case k0 => exact rfl))
  | with_reducible refine Tk.Rd.c ?_
  | with_reducible refine Tk.Rd.op ?_
  | with_reducible refine Tk.Rd.i0 ?_
  | with_reducible refine Tk.Rd.asg ?_
  | with_reducible refine Tk.Rd.name ?_
  | with_reducible refine Tk.Rd.cons ?_
  | with_reducible refine Tk.Rd.nil ?_
  | with_reducible refine Tk.Rd.call ?_
  | with_reducible refine Tk.Rd.callK_i ?_
  | with_reducible refine Tk.Rd.tst ?_
  | with_reducible refine Tk.Rd.bv ?_
  | with_reducible refine Tk.Rd.toB_i ?_
  | with_reducible refine Tk.Rd.ift ?_
  | with_reducible refine Tk.Rd.iff ?_
  | with_reducible refine Tk.Rd.ifnt ?_
  | with_reducible refine Tk.Rd.ifnf ?_
  | with_reducible refine Tk.Rd.not ?_
  | with_reducible refine Tk.Rd.and ?_
  | with_reducible refine Tk.Rd.or ?_
  | with_reducible refine Tk.Rd.andV ?_
  | with_reducible refine Tk.Rd.andK_i ?_
  | with_reducible refine Tk.Rd.orV ?_
  | with_reducible refine Tk.Rd.orK_i ?_
  | with_reducible refine Tk.Rd.notV ?_
  | with_reducible refine Tk.Rd.notK_i ?_
  | with_reducible refine Tk.Rd.tif ?_
  | with_reducible refine Tk.Rd.yes ?_
  | with_reducible refine Tk.Rd.tfor ?_
  | with_reducible refine Tk.Rd.tlc ?_
  | with_reducible refine Tk.Rd.rng ?_
  | ((with_reducible refine' Tk.Rd.rngK_n ?k0 ?_); (case k0 => first | decide | omega))
  | ((with_reducible refine' Tk.Rd.rngK_lit ?k0 ?_); (case k0 => decide))
  | with_reducible refine Tk.Rd.rng2 ?_
  | with_reducible refine Tk.Rd.rng3 ?_
  | with_reducible refine Tk.Rd.ilist ?_
  | with_reducible refine Tk.Rd.zip ?_
  | with_reducible refine Tk.Rd.itup ?_
  | ((with_reducible refine' Tk.Rd.listK_i ?k0 ?_); (case k0 => walk_at "sql"))
  | ((with_reducible refine' Tk.Rd.ituK_i ?k0 ?_); (case k0 => walk_at "sqt"))
  | with_reducible refine Tk.Rd.chain ?_
  | with_reducible refine Tk.Rd.chainL_i ?_
  | with_reducible refine Tk.Rd.un ?_
  | with_reducible refine Tk.Rd.u1 ?_
  | ((with_reducible refine' Tk.Rd.i1 ?k0 ?_); (case k0 => walk_at "ci"))
  | ((with_reducible refine' Tk.Rd.eq ?k0 ?_); (case k0 => exact rfl))
  | ((with_reducible refine' Tk.Rd.ne ?k0 ?_); (case k0 => exact rfl))
  | with_reducible refine Tk.Rd.isN ?_
  | with_reducible refine Tk.Rd.notN ?_
  | with_reducible refine Tk.Rd.fld ?_
  | with_reducible refine Tk.Rd.meth ?_
  | with_reducible refine Tk.Rd.prop ?_
  | with_reducible refine Tk.Rd.cb ?_
  | with_reducible refine Tk.Rd.bm ?_
  | with_reducible refine Tk.Rd.m0 ?_
  | with_reducible refine Tk.Rd.m0K_i ?_
  | with_reducible refine Tk.Rd.m1 ?_
  | with_reducible refine Tk.Rd.m1K_i ?_
  | with_reducible refine Tk.Rd.tup ?_
  | ((with_reducible refine' Tk.Rd.tupK_i ?k0 fun p H' np S hp => ?_); (case k0 => walk_at "sz"))
  | with_reducible refine Tk.Rd.lst ?_
  | ((with_reducible refine' Tk.Rd.lstK_i ?k0 fun p H' np S hp => ?_); (case k0 => walk_at "sz"))
  | ((with_reducible refine' Tk.Rd.ixF ?k0 ?k1 ?_); (case k0 => walk_at "hp"); (case k1 => omega))
  | ((with_reducible refine' Tk.Rd.ixF1 ?k0 ?k1 ?_); (case k0 => walk_at "hp"); (case k1 => omega))
  | ((with_reducible refine' Tk.Rd.ixT ?k0 ?k1 ?_); (case k0 => walk_at "sqt"); (case k1 => exact rfl))
  | ((with_reducible refine' Tk.Rd.ixL ?k0 ?k1 ?_); (case k0 => walk_at "sql"); (case k1 => exact rfl))
  | ((with_reducible refine' Tk.Rd.lenL ?k0 ?_); (case k0 => walk_at "sql"))
  | ((with_reducible refine' Tk.Rd.lenT ?k0 ?_); (case k0 => walk_at "sqt"))
  | ((with_reducible refine' Tk.Rd.lenS ?k0 ?_); (case k0 => first | assumption | omega | (simp; omega)))
  | ((with_reducible refine' Tk.Rd.slTr ?k0 fun p H' S hp => ?_); (case k0 => walk_at "hp"))
  | ((with_reducible refine' Tk.Rd.slT ?k0 fun p H' S hq => ?_); (case k0 => walk_at "sqt"))
  | ((with_reducible refine' Tk.Rd.catTr ?k0 ?k1 ?k2 fun p H' S hp => ?_); (case k0 => walk_at "hp"); (case k1 => walk_at "hp"); (case k2 => walk_at "sz"))
  | ((with_reducible refine' Tk.Rd.catA ?k0 ?k1 ?k2 ?k3 ?k4 fun p H' np S hp => ?_); (case k0 => walk_at "sqt"); (case k1 => walk_at "sqt"); (case k2 => simp); (case k3 => simp); (case k4 => first | (simp; done) | (simp; omega)))
  | with_reducible refine Tk.Rd.make ?_
  | ((with_reducible refine' Tk.Rd.tplL ?k0 fun q H' nq S hq => ?_); (case k0 => walk_at "sql"))
  | ((with_reducible refine' Tk.Rd.lstL ?k0 fun q H' nq S hq => ?_); (case k0 => walk_at "sql"))
  | ((with_reducible refine' Tk.Rd.lstT ?k0 fun q H' nq S hq => ?_); (case k0 => walk_at "sqt"))
  | ((with_reducible refine' Tk.Rd.join ?k0 ?k1 ?_); (case k0 => walk_at "sql"); (case k1 => first | assumption | omega))
  | with_reducible refine Tk.Rd.mx ?_
  | with_reducible refine Tk.Rd.mn ?_
  | with_reducible refine Tk.Rd.noPart ?_
  | with_reducible refine Tk.Rd.part ?_
  | with_reducible refine Tk.Rd.partK_i ?_
  | with_reducible refine Tk.Rd.slc ?_
  | ((with_reducible refine' Tk.Rd.gtup ?k0 ?k1 ?_); (case k0 => walk_at "sqt"); (case k1 => exact rfl))
  | ((with_reducible refine' Tk.Rd.glst ?k0 ?k1 ?_); (case k0 => walk_at "sql"); (case k1 => exact rfl))
  | with_reducible refine Tk.Rd.gcons ?_
  | with_reducible refine Tk.Rd.gnil ?_
  | with_reducible refine Tk.Rd.next ?_
  | with_reducible refine Tk.Rd.drop ?_
  | with_reducible refine Tk.Rd.ret ?_
  | with_reducible refine Tk.Rd.retN ?_
  | with_reducible refine Tk.Rd.par ?_
  | with_reducible refine Tk.Rd.parK_i ?_
  | with_reducible refine Tk.Rd.par3 ?_
  | with_reducible refine Tk.Rd.par3K_i ?_
  | ((with_reducible refine' Tk.Rd.aug ?k0 ?_); (case k0 => exact rfl))
  | with_reducible refine Tk.Rd.ip ?_
  | ((with_reducible refine' Tk.Rd.bmK_l ?k0 ?_); (case k0 => walk_at "sql"))
  | ((with_reducible refine' Tk.Rd.addS ?k0 ?_); (case k0 => walk_at "sz"))
  | fail "rd1")
local macro_rules | `(tactic| walk_at "rd1i") => `(tactic| first
  | walk_at "rd1"
  | with_reducible refine Tk.Rd.ifS ?_
  | fail "rd1i")
local macro_rules | `(tactic| walk_at "rd") => `(tactic| (repeat' walk_at "rd1i"))
local macro_rules | `(tactic| walk_at "rs") => `(tactic| ((repeat' walk_at "rd1"); (try dsimp only)))
local macro_rules | `(tactic| walk_at "hall") => `(tactic| first
  | assumption
  | ((with_reducible refine' Tk.HallAt.sm ?k0 ?k1); (case k0 => assumption); (case k1 => walk_at "hall"))
  | fail "hall")
local macro_rules | `(tactic| walk_at "parts") => `(tactic| first
  | assumption
  | ((with_reducible refine' Tk.PartsAt.sm ?k0 ?k1); (case k0 => assumption); (case k1 => walk_at "parts"))
  | fail "parts")
local macro_rules | `(tactic| walk_at "sm") => `(tactic| first
  | assumption
  | exact Tk.Sm.int rfl
  | exact Tk.Sm.flat1 rfl
  | ((with_reducible refine' Tk.Sm.sm ?k0 ?k1); (case k0 => assumption); (case k1 => walk_at "sm"))
  | fail "sm")
local macro_rules | `(tactic| walk_at "rd1") => `(tactic| first
  | ((with_reducible refine' Tk.Rd.f_modulus ?k0 ?k1 ?_); (case k0 => assumption); (case k1 => walk_at "hall"))
  | ((with_reducible refine' Tk.Rd.f_lateness ?k0 ?k1 ?_); (case k0 => assumption); (case k1 => walk_at "hall"))
  | ((with_reducible refine' Tk.Rd.f_takes ?k0 ?k1 fun tp htp => ?_); (case k0 => assumption); (case k1 => walk_at "hall"))
  | ((with_reducible refine' Tk.Rd.f_calls ?k0 ?k1 fun cp hcp => ?_); (case k0 => assumption); (case k1 => walk_at "hall"))
  | ((with_reducible refine' Tk.Rd.h_meth ?k0 ?k1 ?_); (case k0 => walk_at "hall"); (case k1 => decide +kernel))
  | ((with_reducible refine' Tk.Rd.h_prop ?k0 ?_); (case k0 => walk_at "hall"))
  | ((with_reducible refine' Tk.Rd.h_taken0 ?k0 fun H' S => ?_); (case k0 => walk_at "hall"))
  | ((with_reducible refine' Tk.Rd.h_taken1 ?k0 fun H' S => ?_); (case k0 => walk_at "hall"))
  | ((with_reducible refine' Tk.Rd.h_takenL ?k0 fun H' S => ?_); (case k0 => walk_at "hall"))
  | ((with_reducible refine' Tk.Rd.h_called0 ?k0 ?_); (case k0 => walk_at "hall"))
  | ((with_reducible refine' Tk.Rd.h_called1 ?k0 ?_); (case k0 => walk_at "hall"))
  | ((with_reducible refine' Tk.Rd.h_calledL ?k0 ?_); (case k0 => walk_at "hall"))
  | ((with_reducible refine' Tk.Rd.h_waiting ?k0 ?k1 fun H' S => ?_); (case k0 => walk_at "hall"); (case k1 => omega))
  | ((with_reducible refine' Tk.Rd.h_growth ?k0 fun H' S => ?_); (case k0 => walk_at "hall"))
  | ((with_reducible refine' Tk.Rd.h_period ?k0 ?_); (case k0 => walk_at "hall"))
  | ((with_reducible refine' Tk.Rd.h_lhall ?k0 fun h lp H' nh nl S hA => ?_); (case k0 => walk_at "parts"))
  | ((with_reducible refine' Tk.Rd.h_length ?k0 ?_); (case k0 => walk_at "parts"))
  | ((with_reducible refine' Tk.Rd.h_counts ?k0 ?k1 fun r a b H' nr na nb nab S hr ha hb => ?_); (case k0 => walk_at "parts"); (case k1 => omega))
  | ((with_reducible refine' Tk.Rd.h_countsL ?k0 ?k1 fun r a b H' nr na nb nab S hr ha hb => ?_); (case k0 => walk_at "parts"); (case k1 => decide))
  | ((with_reducible refine' Tk.Rd.h_make ?k0 ?k1 ?k2 fun h lp H' nh nl S hA => ?_); (case k0 => assumption); (case k1 => walk_at "hp"); (case k2 => walk_at "hp"))
  | ((with_reducible refine' Tk.Rd.p_0 ?k0 ?_); (case k0 => walk_at "parts"))
  | ((with_reducible refine' Tk.Rd.p_1 ?k0 fun htp => ?_); (case k0 => walk_at "parts"))
  | ((with_reducible refine' Tk.Rd.p_2 ?k0 fun hcp => ?_); (case k0 => walk_at "parts"))
  | ((with_reducible refine' Tk.Rd.p_3 ?k0 ?_); (case k0 => walk_at "parts"))
  | fail "rd1")
local macro_rules | `(tactic| walk_at "sqt") => `(tactic| first | ((with_reducible refine' Tk.PartsAt.sq ?k0); (case k0 => walk_at "parts")) | fail "sqt")
local macro_rules | `(tactic| walk_at "free") => `(tactic| first
  | assumption
  | ((with_reducible refine' Tk.Same.fr ?k0 ?k1); (case k0 => assumption); (case k1 => walk_at "free")))
local macro_rules | `(tactic| walk_at "hp") => `(tactic| first
  | ((with_reducible refine' Tk.But.gt ?k0 ?k1 ?k2); (case k0 => assumption); (case k1 => assumption); (case k2 => walk_at "hp"))
  | ((with_reducible refine' Tk.But.gl ?k0 ?k1 ?k2); (case k0 => assumption); (case k1 => assumption); (case k2 => walk_at "hp"))
  | fail "hp")
local macro_rules | `(tactic| walk_at "hall") => `(tactic| first | ((with_reducible refine' Tk.HallAt.bt ?k0 ?k1 ?k2 ?k3); (case k0 => assumption); (case k1 => assumption); (case k2 => assumption); (case k3 => walk_at "hall")) | fail "hall")
local macro_rules | `(tactic| walk_at "parts") => `(tactic| first | ((with_reducible refine' Tk.PartsAt.bt ?k0 ?k1 ?k2); (case k0 => assumption); (case k1 => assumption); (case k2 => walk_at "parts")) | fail "parts")
local macro_rules | `(tactic| walk_at "rd1") => `(tactic| first
  | ((with_reducible refine' Tk.Rd.h_below ?k0 ?k1 ?k2 ?k3 fun r H' cs hr B hd hcs => ?_); (case k0 => walk_at "hp"); (case k1 => assumption); (case k2 => first | decide | omega); (case k3 => first | decide | omega))
  | ((with_reducible refine' Tk.Rd.h_parts ?k0 ?k1 ?k2 ?k3 fun t tp cp m lt tk cl H' cs nt B hd hcs hP l1 l2 => ?_); (case k0 => walk_at "hp"); (case k1 => assumption); (case k2 => first | decide | omega); (case k3 => first | decide | omega))
  | ((with_reducible refine' Tk.Rd.h_partsL ?k0 ?k1 ?k2 ?k3 fun t tp cp m lt tk cl H' cs nt B hd hcs hP l1 l2 => ?_); (case k0 => walk_at "hp"); (case k1 => assumption); (case k2 => first | decide | omega); (case k3 => first | decide | omega))
  | ((with_reducible refine' Tk.Rd.h_small ?k0 ?k1 fun t tp cp m lt tk cl H' cs nt B hd hcs hP m1 l1 l2 l3 => ?_); (case k0 => walk_at "hp"); (case k1 => assumption))
  | ((with_reducible refine' Tk.Rd.h_tick ?k0 ?k1 fun t H' cs ht B hd hcs => ?_); (case k0 => walk_at "hp"); (case k1 => assumption))
  | ((with_reducible refine' Tk.Rd.h_mo ?k0 fun v H' S hv => ?_); (case k0 => walk_at "hall"))
  | ((with_reducible refine' Tk.Rd.h_lc ?k0 fun v H' S hv => ?_); (case k0 => walk_at "hall"))
  | ((with_reducible refine' Tk.Rd.h_lm ?k0 fun v H' S hv => ?_); (case k0 => walk_at "hall"))
  | ((with_reducible refine' Tk.Rd.h_gl ?k0 fun v H' S hv => ?_); (case k0 => walk_at "hall"))
  | ((with_reducible refine' Tk.Rd.h_ot ?k0 ?k1 fun r H' nr S hr => ?_); (case k0 => walk_at "hall"); (case k1 => first | assumption | omega))
  | ((with_reducible refine' Tk.Rd.h_most2 ?k0 fun v H' S hv => ?_); (case k0 => walk_at "parts"))
  | ((with_reducible refine' Tk.Rd.h_opens2L ?k0 ?k1 fun l ys H' nl S hl hlen hR => ?_); (case k0 => walk_at "parts"); (case k1 => decide))
  | ((with_reducible refine' Tk.Rd.h_opens2 ?k0 ?k1 fun l ys H' nl S hl hlen hR => ?_); (case k0 => walk_at "parts"); (case k1 => first | decide | omega))
  | fail "rd1")
local macro_rules | `(tactic| walk_at "ok") => `(tactic| first
  | assumption
  | ((with_reducible refine' Tk.HallAt.ok ?k0); (case k0 => walk_at "hall"))
  | ((with_reducible refine' Tk.PartsAt.ok ?k0); (case k0 => walk_at "parts"))
  | fail "ok")
local macro_rules | `(tactic| walk_at "sml") => `(tactic| first
  | exact Tk.Sml.ints (by walk_at "szb")
  | exact Tk.Sml.intsT (by walk_at "szb")
  | trivial
  | (simp [Tk.Sml]; done)
  | (simp [Tk.Sml]; omega)
  | fail "sml")
local macro_rules | `(tactic| walk_at "rd1") => `(tactic| first
  | ((with_reducible refine' Tk.Rd.nT ?k0 ?_); (case k0 => with_reducible exact rfl))
  | ((with_reducible refine' Tk.Rd.dT ?k0 ?_); (case k0 => with_reducible exact rfl))
  | with_reducible refine Tk.Rd.nF Tk.Rd.int_non ?_
  | with_reducible refine Tk.Rd.nF Tk.Rd.ref_non ?_
  | with_reducible refine Tk.Rd.dF Tk.Rd.int_non ?_
  | with_reducible refine Tk.Rd.dF Tk.Rd.ref_non ?_
  | ((with_reducible refine' Tk.Rd.h_disp ?k0 ?k1 ?_); (case k0 => first | assumption | omega); (case k1 => walk_at "hall"))
  | ((with_reducible refine' Tk.Rd.h_hold ?k0 ?k1 ?k2 ?k3 fun l H' nl S hl => ?_); (case k0 => walk_at "hall"); (case k1 => first | assumption | omega); (case k2 => first | assumption | omega); (case k3 => first | assumption | omega))
  | ((with_reducible refine' Tk.Rd.h_mis ?k0 ?k1 ?k2 fun l ys H' nl S hl hd => ?_); (case k0 => walk_at "hall"); (case k1 => first | assumption | omega); (case k2 => first | assumption | omega))
  | ((with_reducible refine' Tk.Rd.h_enc ?k0 fun l H' nl S hl => ?_); (case k0 => walk_at "hall"))
  | ((with_reducible refine' Tk.Rd.h_dec ?k0 ?k1 fun h lp H' nh nl S hA => ?_); (case k0 => walk_at "hp"); (case k1 => walk_at "ok"))
  | ((with_reducible refine' Tk.Rd.h_text ?k0 fun H' S => ?_); (case k0 => walk_at "hall"))
  | ((with_reducible refine' Tk.Rd.h_eqd ?k0 ?k1 ?k2 fun H' S => ?_); (case k0 => walk_at "dp"); (case k1 => walk_at "dp"); (case k2 => walk_at "sml"))
  | ((with_reducible refine' Tk.Rd.eqd ?k0 ?k1 ?k2 ?k3 ?_); (case k0 => walk_at "dp"); (case k1 => walk_at "dp"); (case k2 => walk_at "sml"); (case k3 => walk_at "sml"))
  | ((with_reducible refine' Tk.Rd.ned ?k0 ?k1 ?k2 ?k3 ?_); (case k0 => walk_at "dp"); (case k1 => walk_at "dp"); (case k2 => walk_at "sml"); (case k3 => walk_at "sml"))
  | fail "rd1")
namespace Tk
open PySem PySem.Spec PyProof.Rows L2 Mm Pn LamX Bn
/-- what holds all along -/
structure E44 (K : PySem.W.Frag) (H : Hp) (h lp : Addr) (m : Nat) (tp : Addr) (tk : List Nat) (cp : Addr) (cl : List Nat) (lt : Nat) : Prop where
  hal : HallAt (He.ga K "Hall") H h m tk cl lt lp
  tkA : H tp = some (.tup (tk.map vn))
  clA : H cp = some (.tup (cl.map vn))
  tb : Tabs (TT K) H
section
variable {K : PySem.W.Frag} {H H' : Hp} {h lp tp cp : Addr} {m lt : Nat} {tk cl : List Nat}
theorem E44.ext (e : E44 K H h lp m tp tk cp cl lt) (X : Ext K H H') : E44 K H' h lp m tp tk cp cl lt := ⟨e.hal.ext X, X.tup e.tkA, X.tup e.clA, X.2⟩
theorem E44.same (e : E44 K H h lp m tp tk cp cl lt) (S : Same H H') : E44 K H' h lp m tp tk cp cl lt := ⟨e.hal.same S, S _ _ e.tkA, S _ _ e.clA, e.tb.ext S⟩
end
theorem HA.ext {K : PySem.W.Frag} {C : Addr} {H H' : Hp} {vs : List V} {ps : List Pq} (h : HA C H vs ps) (X : Ext K H H') : HA C H' vs ps := by
  induction h with
  | nil => exact .nil
  | cons a _ ih => exact .cons (HallAt.ext a X) ih
theorem BAt.ext {K : PySem.W.Frag} {CB C b hl wl sn : Addr} {H H' : Hp} {hs : List V} {ws : List Str} {n : Nat} {ps : List Pq} (x : BAt CB C H b hl wl sn hs ws n ps) (X : Ext K H H') : BAt CB C H' b hl wl sn hs ws n ps :=
  ⟨x.ex.elim fun dx z => ⟨dx, X.ins z⟩, X.lst x.hh, X.lst x.ww, x.hn, x.hl, HA.ext x.ha X⟩
theorem tabs_butI {b C dx : Addr} {fs : List (Str × V)} {T : List (Addr × Str)} {H H1 : Hp} (t : Tabs T H) (hb : H b = some (.ins C dx fs)) (B : But b H H1) : Tabs T H1 := fun p hp => by
  obtain ⟨ps, h1, h2, h3⟩ := t p hp
  refine ⟨ps, B _ _ (fun z => by rw [z, hb] at h1; cases h1) h1, h2, fun pos cv hc => ?_⟩
  obtain ⟨c, e1, e2⟩ := h3 pos cv hc
  refine ⟨c, e1, B _ _ (fun z => ?_) e2⟩
  rw [z, hb] at e2
  have := Option.some.inj e2
  unfold CodeO at this
  cases this
section
variable {P : Program} {w : World} {K : PySem.W.Frag} {mg : Str → Option Value} {base : Heap}
theorem ok_law (T : Txt K mg) (B : Tbs K mg base) {fd : FuncData} (F : FnP K "law" "law" s_law (He.ga K "law") fd) : FnOk P w K mg base CX0 13 (He.ga K "law") fd ["_law_script"] (spLawT K (TT K)) := by
  have G__law_random : OkF P w K mg base 1 (He.ga K "_law_random") ["_law_script", "_law_salt"] (spRandom K) := ok__law_random T
  have G__law_small : OkF P w K mg base 3 (He.ga K "_law_small") ["_law_d"] spSmall := ok__law_small T
  have G__law_equal : OkF P w K mg base 5 (He.ga K "_law_equal") ["_law_actual", "_law_expected"] (spEqOf (Sm K 4)) := ok__law_equal T 4
  have G_init : OkF P w K mg base 5 (He.ma K (He.ga K "Hall") "__init__") ["self", "modulus", "takes", "calls", "lateness"] (spInit (He.ga K "Hall")) := ok_init T
  have G_Bench_init : OkF P w K mg base 1 (He.ma K (He.ga K "Bench") "__init__") ["self", "hall"] (spBi (He.ga K "Bench") (He.ga K "Hall")) := ok_Bench_init T
  have G_first_clash : OkF P w K mg base 12 (He.ga K "first_clash") ["hall"] (spFc K (He.ga K "Hall")) := ok_first_clash T B
  have G_plan_calls : OkF P w K mg base 10 (He.ga K "plan_calls") ["hall", "limit"] (spPc K (He.ga K "Hall")) := ok_plan_calls T
  have G_most_open : OkF P w K mg base 8 (He.ga K "most_open") ["hall"] (spMo (He.ga K "Hall")) := ok_most_open T
  have G_least_colors : OkF P w K mg base 9 (He.ga K "least_colors") ["hall"] (spLc (He.ga K "Hall")) := ok_least_colors T
  have G_Bench_batch : OkF P w K mg base 11 (He.ma K (He.ga K "Bench") "batch") ["self", "operations"] (spB1 (He.ga K "Bench") (He.ga K "Hall")) := ok_Bench_batch T
  have G_Bench_text : OkF P w K mg base 4 (getAt K (He.ga K "Bench") "text") ["self"] (spBt (He.ga K "Bench") (He.ga K "Hall")) := ok_Bench_text T
  have G_Bench_undo : OkF P w K mg base 1 (He.ma K (He.ga K "Bench") "undo") ["self"] (spUn (He.ga K "Bench") (He.ga K "Hall")) := ok_Bench_undo T
  have G_text : OkF P w K mg base 2 (getAt K (He.ga K "Hall") "text") ["self"] (spText (He.ga K "Hall")) := ok_text T
  refine okLaw F sc_law (fun vs H Q E h => ?_) (fun cdv A outer s H vs Q E hr h => ?_)
  · obtain ⟨a, ns, rfl, _⟩ := h
    rfl
  obtain ⟨a, ns, rfl, hS, hlen, hT, k⟩ := h
  refine ⟨_, (pss_cons (ps_set (i := 1) sc_law.nd rfl (Or.inl rfl) (pe_call G__law_random.one (hr.mono (by decide)) (by rfl) T.g__law_random G__law_random.kp G__law_random.two .nil passL (pa_cons (pv 0) (pa_cons pe_int pa_nil))))
    (pss_cons (ps_asg (pe_call G__law_small.one (hr.mono (by decide)) (by rfl) T.g__law_small G__law_small.kp G__law_small.two .nil passL (pa_cons (pv 1) pa_nil)) (pg_tup rfl (pgs_cons (pg_name (i := 2) sc_law.nd rfl (Or.inl rfl)) (pgs_cons (pg_name (i := 3) sc_law.nd rfl (Or.inl rfl)) (pgs_cons (pg_name (i := 4) sc_law.nd rfl (Or.inr rfl)) (pgs_cons (pg_name (i := 5) sc_law.nd rfl (Or.inl rfl)) pgs_nil))))))
    (pss_cons (ps_par3 (i := 6) (j := 7) (l := 8) (by rfl) sc_law.nd rfl rfl rfl (by decide) (by decide) (by decide) rfl rfl rfl (pa_cons (pe_make T.mk_Hall G_init.one (hr.mono (by decide)) (by rfl) T.g_Hall G_init.two .nil passL (pa_cons (pv 2) (pa_cons (pv 3) (pa_cons (pv 4) (pa_cons (pv 5) pa_nil))))) (pa_cons pe_non (pa_cons (pe_lst (pa_cons (Cn.pe_tupF pa_nil) pa_nil)) pa_nil))) (by rfl))
    (pss_cons (ps_for PassesOwn.never rfl (pi_range1 (by rfl) T.g_range (pa_cons pe_int pa_nil)) (pg_name (i := 9) sc_law.nd rfl (Or.inl rfl))
      (pss_cons (ps_for PassesOwn.never rfl (pi_listK (K := K) (pv 8)) (pg_name (i := 10) sc_law.nd rfl (Or.inr rfl))
      (pss_cons (ps_set (i := 11) sc_law.nd rfl (Or.inl rfl) (pe_callTy (tplK (K := K)) (by rfl) T.g_tuple (by decide +kernel) (pa_cons (pe_lc (own := [("_law_k", 17)]) (g := gName 17) (tt := tYes) (by rfl) sc_law.nd (pi_range1 (by rfl) T.g_range (pa_cons (pe_callB (lenK (K := K)) (by rfl) T.g_len (by decide +kernel) (pa_cons (pv 4) pa_nil)) pa_nil)) (blkOk_by (own := [("_law_k", 17)]) (N := N_law) (sc := (defScope s_law)) (by decide +kernel)) (fun _ _ _ _ _ => pg_name (i := 17) sc_law.nd rfl (Or.inl rfl)) (fun _ _ _ _ _ => pts_nil) (fun _ _ _ _ _ => (pe_op op_add (pe_ix (ixTK (K := K)) (pv 4) (pv 17) (fun _ _ => rfl)) (Cn.pe_cntF (K := K) (pv 10) (pa_cons (pv 17) pa_nil))))) pa_nil)))
    (pss_one (ps_if (PW.pt (pw_and (pt_cmpR (show OpR _ (compareOp .Is) Rd.rIsN from op_isN) (pv 7) pe_non (nomark _)) (pw_and (pt_cmpR op_le (pe_callB (maxTK (K := K)) (by rfl) T.g_max (by decide +kernel) (pa_cons (pv 11) pa_nil)) pe_int (nomark _)) (pw_and1 (pt_cmpR (show OpR _ (compareOp .Is) Rd.rIsN from op_isN) (pe_call G_first_clash.one (hr.mono (by decide)) (by rfl) T.g_first_clash G_first_clash.kp G_first_clash.two .nil passL (pa_cons (pe_make T.mk_Hall G_init.one (hr.mono (by decide)) (by rfl) T.g_Hall G_init.two .nil passL (pa_cons (pv 2) (pa_cons (pv 3) (pa_cons (pv 11) (pa_cons (pv 5) pa_nil))))) pa_nil)) pe_non (nomark _)))))) (pss_one (ps_set (i := 7) sc_law.nd rfl (Or.inl rfl) (pv 10))) pss_nil))))
    (pss_cons (ps_set (i := 12) sc_law.nd rfl (Or.inl rfl) (pe_lst pa_nil))
    (pss_cons (ps_for PassesOwn.never rfl (pi_listK (K := K) (pv 8)) (pg_name (i := 10) sc_law.nd rfl (Or.inr rfl))
      (pss_one (ps_set (i := 12) sc_law.nd rfl (Or.inl rfl) (pe_op op_cat (pv 12) (pe_lc (own := [("_law_k", 17)]) (g := gName 17) (tt := tYes) (by rfl) sc_law.nd (pi_range2 (by rfl) T.g_range (pa_cons (pe_ifExp (pt_cmpR (neDK (K := K) hr.units) (pv 10) (Cn.pe_tupF pa_nil) (nomark _)) (pe_ix (ixTK (K := K)) (pv 10) (pe_un un_neg pe_int) (fun _ _ => rfl)) pe_int) (pa_cons (pe_callB (lenK (K := K)) (by rfl) T.g_len (by decide +kernel) (pa_cons (pv 4) pa_nil)) pa_nil))) (blkOk_by (own := [("_law_k", 17)]) (N := N_law) (sc := (defScope s_law)) (by decide +kernel)) (fun _ _ _ _ _ => pg_name (i := 17) sc_law.nd rfl (Or.inl rfl)) (fun _ _ _ _ _ => pts_nil) (fun _ _ _ _ _ => (pe_op (Cn.op_catF (K := K)) (pv 10) (Cn.pe_tupF (pa_cons (pv 17) pa_nil)))))))))
    (pss_one (ps_set (i := 8) sc_law.nd rfl (Or.inl rfl) (pv 12)))))))
    (pss_cons (ps_for PassesOwn.never rfl (pi_range1 (by rfl) T.g_range (pa_cons pe_int pa_nil)) (pg_name (i := 13) sc_law.nd rfl (Or.inl rfl))
      (pss_one (ps_if (pt_not (pt_val (pe_call G__law_equal.one (hr.mono (by decide)) (by rfl) T.g__law_equal G__law_equal.kp G__law_equal.two .nil passL (pa_cons (pe_call G_plan_calls.one (hr.mono (by decide)) (by rfl) T.g_plan_calls G_plan_calls.kp G_plan_calls.two .nil passL (pa_cons (pv 6) (pa_cons (pv 13) pa_nil))) (pa_cons (pe_ifExp (PW.pt (pw_and (pt_cmpR (show OpR _ (compareOp .IsNot) Rd.rNotN from op_notN) (pv 7) pe_non (nomark _)) (pw_and1 (pt_cmpR op_le (pe_callB (lenK (K := K)) (by rfl) T.g_len (by decide +kernel) (pa_cons (pv 7) pa_nil)) (pv 13) (nomark _))))) (pv 7) pe_non) pa_nil))))) (pss_one (ps_ret pe_bl)) pss_nil)))
    (pss_cons (ps_set (i := 14) sc_law.nd rfl (Or.inr rfl) (pe_call G_plan_calls.one (hr.mono (by decide)) (by rfl) T.g_plan_calls G_plan_calls.kp G_plan_calls.two .nil passL (pa_cons (pv 6) (pa_cons pe_int pa_nil))))
    (pss_cons (ps_if (PW.pt (pw_or (PW.pt (pw_and (pt_cmpR (show OpR _ (compareOp .IsNot) Rd.rNotN from op_notN) (pv 7) pe_non (nomark _)) (pw_and1 (pt_cmpR (neDK (K := K) hr.units) (pv 14) (pv 7) (nomark _))))) (pw_or1 (PW.pt (pw_and (pt_cmpR (show OpR _ (compareOp .IsNot) Rd.rNotN from op_notN) (pv 14) pe_non (nomark _)) (pw_and (pt_cmpR (show OpR _ (compareOp .Is) Rd.rIsN from op_isN) (pv 7) pe_non (nomark _)) (pw_and1 (pt_cmpR op_lt (pe_callB (lenK (K := K)) (by rfl) T.g_len (by decide +kernel) (pa_cons (pv 14) pa_nil)) pe_int (nomark _))))))))) (pss_one (ps_ret pe_bl)) pss_nil)
    (pss_cons (ps_if (pt_cmpR (show OpR _ (compareOp .Is) Rd.rIsN from op_isN) (pv 14) pe_non (nomark _)) (pss_one (ps_ret (pe_cmpR (show OpR _ (compareOp .IsNot) Rd.rNotN from op_notN) (pe_call G_first_clash.one (hr.mono (by decide)) (by rfl) T.g_first_clash G_first_clash.kp G_first_clash.two .nil passL (pa_cons (pv 6) pa_nil)) pe_non (nomark _)))) pss_nil)
    (pss_cons (ps_set (i := 11) sc_law.nd rfl (Or.inl rfl) (pe_callTy (tplK (K := K)) (by rfl) T.g_tuple (by decide +kernel) (pa_cons (pe_lc (own := [("_law_k", 17)]) (g := gName 17) (tt := tYes) (by rfl) sc_law.nd (pi_range1 (by rfl) T.g_range (pa_cons (pe_callB (lenK (K := K)) (by rfl) T.g_len (by decide +kernel) (pa_cons (pv 4) pa_nil)) pa_nil)) (blkOk_by (own := [("_law_k", 17)]) (N := N_law) (sc := (defScope s_law)) (by decide +kernel)) (fun _ _ _ _ _ => pg_name (i := 17) sc_law.nd rfl (Or.inl rfl)) (fun _ _ _ _ _ => pts_nil) (fun _ _ _ _ _ => (pe_op op_add (pe_ix (ixTK (K := K)) (pv 4) (pv 17) (fun _ _ => rfl)) (Cn.pe_cntF (K := K) (pv 14) (pa_cons (pv 17) pa_nil))))) pa_nil)))
    (pss_cons (ps_set (i := 15) sc_law.nd rfl (Or.inl rfl) (pe_make T.mk_Hall G_init.one (hr.mono (by decide)) (by rfl) T.g_Hall G_init.two .nil passL (pa_cons (pv 2) (pa_cons (pv 3) (pa_cons (pv 11) (pa_cons (pv 5) pa_nil))))))
    (pss_cons (ps_if (PW.pt (pw_or (pt_cmpR (neDK (K := K) hr.units) (pe_call G_plan_calls.one (hr.mono (by decide)) (by rfl) T.g_plan_calls G_plan_calls.kp G_plan_calls.two .nil passL (pa_cons (pv 15) (pa_cons pe_int pa_nil))) (Cn.pe_tupF pa_nil) (nomark _)) (pw_or (pt_cmpR op_gt (pe_call G_most_open.one (hr.mono (by decide)) (by rfl) T.g_most_open G_most_open.kp G_most_open.two .nil passL (pa_cons (pv 15) pa_nil)) (pv 2) (nomark _)) (pw_or1 (pt_cmpR op_ne (pe_call G_least_colors.one (hr.mono (by decide)) (by rfl) T.g_least_colors G_least_colors.kp G_least_colors.two .nil passL (pa_cons (pv 15) pa_nil)) pe_int (nomark _)))))) (pss_one (ps_ret pe_bl)) pss_nil)
    (pss_cons (ps_set (i := 16) sc_law.nd rfl (Or.inl rfl) (pe_make T.mk_Bench G_Bench_init.one (hr.mono (by decide)) (by rfl) T.g_Bench G_Bench_init.two .nil passL (pa_cons (pv 6) pa_nil)))
    (pss_cons (ps_if (PW.pt (pw_or (pt_cmpR (neDK (K := K) hr.units) (pe_meth (pv 16) T.cl_Bench T.m_Bench_batch G_Bench_batch.one (hr.mono (by decide)) G_Bench_batch.two .nil passL (pa_cons (pe_lst (pa_cons (pe_tup (pa_cons pe_str (pa_cons (pv 11) pa_nil))) pa_nil)) pa_nil)) (pe_lst (pa_cons (pe_call G_most_open.one (hr.mono (by decide)) (by rfl) T.g_most_open G_most_open.kp G_most_open.two .nil passL (pa_cons (pv 15) pa_nil)) pa_nil)) (nomark _)) (pw_or1 (pt_cmpR op_ne (pe_prop (pv 16) T.cl_Bench T.p_Bench_text G_Bench_text.one (hr.mono (by decide)) G_Bench_text.two .nil passL (by rfl)) (pe_prop (pv 15) T.cl_Hall T.p_text G_text.one (hr.mono (by decide)) G_text.two .nil passL (by rfl)) (nomark _))))) (pss_one (ps_ret pe_bl)) pss_nil)
    (pss_one (ps_ret (pe_and (pe_cmpR op_eq (pe_cmpR (eqDK (K := K) hr.units) (pv 14) (Cn.pe_tupF pa_nil) (nomark _)) (pe_cmpR (show OpR _ (compareOp .Is) Rd.rIsN from op_isN) (pe_call G_first_clash.one (hr.mono (by decide)) (by rfl) T.g_first_clash G_first_clash.kp G_first_clash.two .nil passL (pa_cons (pv 6) pa_nil)) pe_non (nomark _)) (nomark _)) (pe_and (pe_meth0 (pv 16) T.cl_Bench T.m_Bench_undo G_Bench_undo.one (hr.mono (by decide)) G_Bench_undo.two .nil passL) (pe_one (pe_cmpR op_eq (pe_prop (pv 16) T.cl_Bench T.p_Bench_text G_Bench_text.one (hr.mono (by decide)) G_Bench_text.two .nil passL (by rfl)) (pe_prop (pv 6) T.cl_Hall T.p_text G_text.one (hr.mono (by decide)) G_text.two .nil passL (by rfl)) (nomark _)))))))))))))))))))), ?_⟩
  refine ⟨_, rfl, a, ns, 44, rfl, hS, hlen, by decide, by decide, fun d cs H1 hd0 S1 hd hcs => ?_⟩
  have hT1 := hT.ext S1
  clear hT S1 hd0 hS
  walk_at "rd"
  rename_i t tp cp m lt tk cl H3 c3 nt B3 hd3 hc3 hP m1 l1 l2 l3
  have hT3 := tabs_but hT1 hd B3
  refine Rd.h_make hP.ok hP.tkA hP.clA fun hh lp H4 nh nl S4 hA => ?_
  have hE4 : E44 K H4 hh lp m tp tk cp cl lt := ⟨hA, S4 _ _ hP.tkA, S4 _ _ hP.clA, hT3.ext S4⟩
  have hPk := hP.ok.tkP
  have hPc := hP.ok.clP
  have m2 := hP.ok.m2
  have m4 := hP.ok.m4
  have l99 := hP.ok.l99
  clear hd hcs nt B3 hd3 hc3 hP hT1 hT3 nh nl S4 hA H1 H3
  walk_at "rd"
  refine Rd.tup0F fun p0 H5 n0 S5 h0 => ?_
  walk_at "rd"
  rename_i L H6 nL S6 hL
  have hE6 := hE4.same (S5.trans S6)
  have h06 := h0.same S6
  clear hE4 S5 n0 nL S6 h0 H4 H5
  refine Rd.for_rng (n := 3) (fun i σ H2 => ∃ e7 L xs v9 v10 v11 v12 v13 v14 v15 v16 v17, σ = [some (.ref a), some (.ref d), some (vn m), some (.ref tp), some (.ref cp), some (vn lt), some (.ref hh), some e7, some (.ref L), v9, v10, v11, v12, v13, v14, v15, v16, v17] ∧ E44 K H2 hh lp m tp tk cp cl lt ∧ H2 L = some (.lst xs) ∧ PlA H2 xs (full cl.length i) ∧ PlO H2 e7 (upto (pst m tk cl lt) cl.length i))
    ⟨_, _, _, _, _, _, _, _, _, _, _, _, rfl, hE6, hL, .cons ⟨p0, rfl, h06⟩ .nil, rfl⟩ ?_ ?_
  · clear hE6 hL h06 H6 L p0
    rintro j σ H2 hj ⟨e7, L, xs, v9, v10, v11, v12, v13, v14, v15, v16, v17, rfl, hE, hL, hxs, hO⟩
    have xl := plA_len hxs
    walk_at "rd"
    refine Rd.for_lst (xs := xs) (fun b σ H4 => ∃ e7 v9 v10 v11 v12 v13 v14 v15 v16 v17, σ = [some (.ref a), some (.ref d), some (vn m), some (.ref tp), some (.ref cp), some (vn lt), some (.ref hh), some e7, some (.ref L), v9, v10, v11, v12, v13, v14, v15, v16, v17] ∧ Ext K H2 H4 ∧ PlO H4 e7 (((List.range j).flatMap (full cl.length) ++ (full cl.length j).take b).find? (pst m tk cl lt)))
      ⟨_, _, _, _, _, _, _, _, _, _, rfl, Ext.of hE.tb (Same.refl _), by rw [List.take_zero, List.append_nil]; exact hO⟩ (fun b σ H4 _ ⟨_, _, _, _, _, _, _, _, _, _, _, X4, _⟩ => SqL.of (X4.lst hL)) ?_ ?_
    · clear hO e7 v9 v10 v11 v12 v13 v14 v15 v16 v17
      rintro b x σ H4 hxb ⟨e7, v9, v10, v11, v12, v13, v14, v15, v16, v17, rfl, X4, hO⟩
      obtain ⟨r, pl, hpl, rfl, hr⟩ := plA_get (PlA.ext hxs X4) hxb
      have hE4 := hE.ext X4
      have hclA := hE4.clA
      rw [find_step hpl]
      walk_at "rd"
      refine Rd.rngK_n (n := (cl.map vn).length) (by rw [List.length_map]; omega) ?_
      refine Rd.lc_rng (fun i => vn (cl.getD i 0 + pl.count i)) (by rw [List.length_map]; omega) (fun i hi => Rd.turn1 rfl fun H' S Q' q => ?_) fun D H7 nD S7 h7 => ?_
      · rw [List.length_map] at hi
        have hcp' := S _ _ hclA
        walk_at "rd"
        refine Rd.ixT (SqT.of hcp') (i := (i : Int)) (atn (by rw [List.getElem?_map, List.getElem?_eq_getElem hi]; rfl)) ?_
        walk_at "rd"
        refine Rd.cntF (n := i) rfl rfl (hr.same S) ?_
        walk_at "rd"
        rw [show V.int ((cl[i] : Int) + ((pl.count i : Nat) : Int)) = vn (cl.getD i 0 + pl.count i) from vn_int (by rw [List.getD_eq_getElem?_getD, List.getElem?_eq_getElem hi]; show _ = (((cl[i] : Nat) + pl.count i : Nat) : Int); omega)]
        exact q _ (Same.refl _)
      have e7_ : (List.range (cl.map vn).length).map (fun i => vn (cl.getD i 0 + pl.count i)) = (addAt cl pl).map vn := by
        unfold addAt
        rw [List.length_map, List.map_map]
        rfl
      rw [e7_] at h7
      have hE7 := hE4.same S7
      have hr7 := hr.same S7
      have hO7 := hO.same S7
      have c0 := hPc.pos
      have X7 := X4.same S7
      clear hE4 hr hO X4 hclA hxb S7 nD H4
      walk_at "rd"
      rename_i q8 H8 nq8 S8 hq8
      have hE8 := hE7.same S8
      have hr8 := hr7.same S8
      have hO8 := hO7.same S8
      have X8 := X7.same S8
      have h78 := S8 _ _ h7
      clear hE7 hr7 hO7 X7 h7 S8 nq8 H7
      have keep : ∀ H', Ext K H8 H' → pst m tk cl lt pl = false → PlO H' e7 ((((List.range j).flatMap (full cl.length) ++ (full cl.length j).take b).find? (pst m tk cl lt)).or (if pst m tk cl lt pl = true then some pl else none)) := fun H' X e => by
        rw [if_neg (by rw [e]; decide), Option.or_none]
        exact PlO.ext hO8 X
      cases e : ((List.range j).flatMap (full cl.length) ++ (full cl.length j).take b).find? (pst m tk cl lt) with
      | some pl0 =>
        rw [e] at hO8
        obtain ⟨r0, rfl, hr0⟩ := hO8
        walk_at "rd"
        exact ⟨_, _, _, _, _, _, _, _, _, _, rfl, X8, r0, rfl, hr0⟩
      | none =>
        rw [e] at hO8 keep
        obtain rfl : e7 = .non := hO8
        walk_at "rs"
        refine ⟨q8, addAt cl pl, rfl, SqT.of hq8, by rw [addAt_len]; exact c0, fun z hz hall => ?_⟩
        have hfine : fine cl pl = true ↔ z ≤ 9 := by
          constructor
          · intro h
            exact fine_nine h z hz
          · intro h
            refine List.all_eq_true.mpr fun x hx => decide_eq_true ?_
            have := hall x hx
            omega
        walk_at "rs"
        refine Rd.d2 (fun c9 => ?_) fun c9 => ?_
        · have hf := hfine.mpr (by omega)
          walk_at "rs"
          refine Rd.h_make ⟨m2, m4, hPk, ⟨by rw [addAt_len]; omega, by rw [addAt_len]; omega, fine_nine hf⟩, l99⟩ hE8.tkA hq8 fun h' lp' H9 nh nl S9 hA9 => ?_
          walk_at "rs"
          refine Rd.h_fc hA9 (hE8.tb.ext S9) fun v H10 X10 hv => ?_
          have X8_10 := (Ext.of hE8.tb S9).trans X10
          have nc := clash_nc hA9.ok.tkP hA9.ok.clP hv
          walk_at "rs"
          refine Rd.d2 (fun c => ?_) (fun c => ?_)
          · have hp : pst m tk cl lt pl = true := by
              unfold pst
              rw [hf, Bool.true_and]
              exact ncB_iff.mpr (nc.mp c)
            walk_at "rd"
            refine ⟨_, _, _, _, _, _, _, _, _, _, rfl, X8.trans X8_10, ?_⟩
            rw [if_pos hp]
            exact ⟨r, rfl, FzT.ext hr8 X8_10⟩
          · walk_at "rd"
            refine ⟨_, _, _, _, _, _, _, _, _, _, rfl, X8.trans X8_10, keep _ X8_10 ?_⟩
            unfold pst
            rw [hf, Bool.true_and]
            cases e : ncB m tk cl lt pl with
            | false => rfl
            | true => exact absurd (nc.mpr (ncB_iff.mp e)) c
        · walk_at "rd"
          refine ⟨_, _, _, _, _, _, _, _, _, _, rfl, X8, keep _ (Ext.of hE8.tb (Same.refl _)) ?_⟩
          unfold pst
          cases e : fine cl pl with
          | false => rfl
          | true =>
            have := hfine.mp e
            omega
    · clear hO e7 v9 v10 v11 v12 v13 v14 v15 v16 v17
      rintro σ H4 ⟨e7, v9, v10, v11, v12, v13, v14, v15, v16, v17, rfl, X4, hO⟩
      have hE4 := hE.ext X4
      have hL4 := X4.lst hL
      have hxs4 := PlA.ext hxs X4
      rw [xl, List.take_length] at hO
      have hO4 : PlO H4 e7 (upto (pst m tk cl lt) cl.length (j + 1)) := by
        unfold upto
        rw [List.range_succ, List.flatMap_append, List.flatMap_cons, List.flatMap_nil, List.append_nil]
        exact hO
      clear hO hE hL hxs X4 H2
      walk_at "rd"
      rename_i g H3 ng S3 hg
      have hE3 := hE4.same S3
      have hL3 := S3 _ _ hL4
      have hxs3 := hxs4.same S3
      have hO3 := PlO.same hO4 S3
      have xl3 := plA_len hxs3
      clear hE4 hL4 hxs4 hO4 S3 ng H4
      refine Rd.for_lst (xs := xs) (fun b σ H4 => ∃ g gs v9 v10 v11 v13 v14 v15 v16 v17, σ = [some (.ref a), some (.ref d), some (vn m), some (.ref tp), some (.ref cp), some (vn lt), some (.ref hh), some e7, some (.ref L), v9, v10, v11, some (.ref g), v13, v14, v15, v16, v17] ∧ Same H3 H4 ∧ H4 g = some (.lst gs) ∧ PlA H4 gs (((full cl.length j).take b).flatMap (ext cl.length)))
        ⟨g, _, _, _, _, _, _, _, _, _, rfl, Same.refl _, hg, .nil⟩ (fun b σ H4 _ ⟨_, _, _, _, _, _, _, _, _, _, _, S4, _⟩ => SqL.of (S4 _ _ hL3)) ?_ ?_
      · clear hg g v9 v10 v11 v13 v14 v15 v16 v17
        rintro b x σ H4 hxb ⟨g, gs, v9, v10, v11, v13, v14, v15, v16, v17, rfl, S4, hg, hgs⟩
        obtain ⟨r, pl, hpl, rfl, hr⟩ := plA_get (hxs3.same S4) hxb
        obtain ⟨plen, pmem⟩ := mem_len j pl (List.mem_of_getElem? hpl)
        walk_at "rd"
        refine Rd.tup0F fun p5 H5 n5 S5 h5 => ?_
        refine Rd.ned (d := .tuple (pl.map dN)) (e := .tuple []) (PlV.dp ⟨r, rfl, hr.same S5⟩) (.tup h5.sq .nil) (Sml.intsT (by omega)) ⟨by decide, fun x hx => by cases hx⟩ ?_
        walk_at "rs"
        refine Rd.ifM (P := fun v H' => v = vn (lastP pl) ∧ H' = H5) (fun hc K' kk => ?_) (fun hc K' kk => ?_) (fun v H' hv => ?_)
        · rcases List.eq_nil_or_concat pl with rfl | ⟨r0, x0, rfl⟩
          · simp at hc
          · walk_at "rd"
            refine Rd.ixT (hr.same S5).sq (at_last (n := r0.length) (x := vn x0) (by simp) (by simp)) ?_
            exact kk _ _ ⟨by unfold lastP; simp, rfl⟩
        · have e : pl = [] := by
            have : PyData.tuple (pl.map dN) = PyData.tuple [] := by simpa using hc
            simpa using this
          subst e
          walk_at "rd"
          exact kk _ _ ⟨rfl, rfl⟩
        obtain ⟨rfl, rfl⟩ := hv
        have hcl5 := S5 _ _ (S4 _ _ hE3.clA)
        have hg5 := S5 _ _ hg
        have hgs5 := hgs.same S5
        have hr5 := hr.same S5
        have hlp := lastP_lt (List.mem_of_getElem? hpl)
        walk_at "rd"
        refine Rd.rng2K_i (by rw [List.length_map]; omega) ?_
        rw [show ((((cl.map vn).length : Nat) : Int) - ((lastP pl : Nat) : Int)).toNat = cl.length - lastP pl by rw [List.length_map]; omega]
        refine Rd.lc_rngR (fun i y H => PlV H y (pl ++ [lastP pl + i])) (by omega) (fun _ => rfl) (fun i hi H' D nD S hD' Q' q => ?_) fun D ys H6 nD S6 h6 hlen6 hR => ?_
        · rw [show V.int (((lastP pl : Nat) : Int) + (i : Int)) = vn (lastP pl + i) from vn_int (by omega)]
          refine Rd.snoc rfl rfl (hr5.same S) (by omega) fun p H7 np S7 h7 => q _ _ S7 fun Hx B => ⟨p, rfl, h7.but B fun e => hD' ?_⟩
          rw [← e]
          exact np
        have lg := plA_len hgs
        have lg2 := ext_len (b := b) l2 (show j ≤ 4 by omega)
        refine Rd.catL (S6 _ _ hg5) h6 (by omega) fun p H7 np S7 h7 => ?_
        refine ⟨p, _, _, _, _, _, _, _, _, _, rfl, ((S4.trans S5).trans S6).trans S7, h7, ?_⟩
        rw [flat_take hpl]
        exact plA_app (((hgs5.same S6).same S7)) ((plA_of _ hlen6 hR).same S7)
      · clear hg g v9 v10 v11 v13 v14 v15 v16 v17
        rintro σ H4 ⟨g, gs, v9, v10, v11, v13, v14, v15, v16, v17, rfl, S4, hg, hgs⟩
        walk_at "rd"
        rw [xl3, List.take_length] at hgs
        refine ⟨_, _, _, _, _, _, _, _, _, _, _, _, rfl, hE3.same S4, hg, ?_, PlO.same hO3 S4⟩
        rw [ext_succ]
        exact hgs
  · clear hE6 hL h06 H6 L p0
    rintro σ H2 ⟨e7, L, xs, v9, v10, v11, v12, v13, v14, v15, v16, v17, rfl, hE, -, -, hO⟩
    clear xs
    have big : ∀ (k : Nat) (o : Option (List Nat)), upto (pst m tk cl lt) cl.length k = o → k ≤ 900 → Sml 4 (dOp o) := fun k o e hk => by
      cases o with
      | none => trivial
      | some pl =>
        have := (upto_len k e).1
        exact Sml.intsT (n := 2) (by omega)
    walk_at "rd"
    refine Rd.for_rng (n := 3) (fun i σ H4 => ∃ v13 v14 v15 v16 v17, σ = [some (.ref a), some (.ref d), some (vn m), some (.ref tp), some (.ref cp), some (vn lt), some (.ref hh), some e7, some (.ref L), v9, v10, v11, v12, v13, v14, v15, v16, v17] ∧ Same H2 H4) ⟨_, _, _, _, _, rfl, Same.refl _⟩ ?_ ?_
    · clear v13 v14 v15 v16 v17
      rintro l σ H4 hl ⟨v13, v14, v15, v16, v17, rfl, S4⟩
      have hE4 := hE.same S4
      have hO4 := PlO.same hO S4
      walk_at "rd"
      refine ⟨hh, lp, m, lt, l, tk, cl, rfl, hE4.hal, by omega, l2, fun v H6 S6 hv => ?_⟩
      rw [find_eq hPc.nine] at hv
      have hv : PlO H6 v (upto (pst m tk cl lt) cl.length (l + 1)) := hv
      have hO6 := PlO.same hO4 S6
      have cut := upto_cut (p := pst m tk cl lt) (n := cl.length) hl
      cases e : upto (pst m tk cl lt) cl.length 3 with
      | none =>
        rw [e] at hO6 cut
        obtain rfl : e7 = .non := hO6
        have cut : upto (pst m tk cl lt) cl.length (l + 1) = none := cut
        rw [cut] at hv
        walk_at "rd"
        refine Rd.h_eqd hv.dp (PlO.dp (o := none) rfl) trivial fun H7 S7 => ?_
        walk_at "rd"
        exact ⟨_, _, _, _, _, rfl, (S4.trans S6).trans S7⟩
      | some pl0 =>
        rw [e] at hO6 cut
        obtain ⟨r0, rfl, hr0⟩ := hO6
        have len0 := (upto_len 3 e).1
        have cut : upto (pst m tk cl lt) cl.length (l + 1) = if pl0.length ≤ l then some pl0 else none := cut
        walk_at "rs"
        refine Rd.lenT hr0.sq ?_
        walk_at "rs"
        refine Rd.d2 (fun c => ?_) fun c => ?_
        · rw [List.length_map] at c
          rw [if_pos (by omega)] at cut
          rw [cut] at hv
          walk_at "rd"
          refine Rd.h_eqd hv.dp (PlO.dp (o := some pl0) ⟨r0, rfl, hr0⟩) (Sml.intsT (n := 2) (by omega)) fun H7 S7 => ?_
          walk_at "rd"
          exact ⟨_, _, _, _, _, rfl, (S4.trans S6).trans S7⟩
        · rw [List.length_map] at c
          rw [if_neg (by omega)] at cut
          rw [cut] at hv
          walk_at "rd"
          refine Rd.h_eqd hv.dp (PlO.dp (o := none) rfl) trivial fun H7 S7 => ?_
          walk_at "rd"
          exact ⟨_, _, _, _, _, rfl, (S4.trans S6).trans S7⟩
    · clear v13 v14 v15 v16 v17
      rintro σ H4 ⟨v13, v14, v15, v16, v17, rfl, S4⟩
      have hE4 := hE.same S4
      have hO4 := PlO.same hO S4
      clear hE hO S4 H2
      walk_at "rd"
      refine ⟨hh, lp, m, lt, 4, tk, cl, rfl, hE4.hal, by omega, l2, fun v H6 S6 hv => ?_⟩
      rw [find_eq hPc.nine] at hv
      have hv : PlO H6 v (upto (pst m tk cl lt) cl.length 5) := hv
      have hO6 := PlO.same hO4 S6
      have hE6 := hE4.same S6
      clear hE4 hO4 S6 H4
      walk_at "rs"
      refine Rd.ifF (P := fun H => H = H6) (fun Q' q' => ?_) fun H7 e7_ => ?_
      · cases e : upto (pst m tk cl lt) cl.length 3 with
        | some pl0 =>
          rw [upto_keep e 2] at hv
          rw [e] at hO6
          obtain ⟨r0, rfl, hr0⟩ := hO6
          obtain ⟨r1, rfl, hr1⟩ := hv
          have len0 := (upto_len 3 e).1
          walk_at "rd"
          refine Rd.ned (d := .tuple (pl0.map dN)) (e := .tuple (pl0.map dN)) (PlV.dp ⟨r1, rfl, hr1⟩) (PlV.dp ⟨r0, rfl, hr0⟩) (Sml.intsT (by omega)) (Sml.intsT (by omega)) ?_
          simp only [decide_true, Bool.not_true]
          walk_at "rd"
          exact q' _ rfl
        | none =>
          rw [e] at hO6
          obtain rfl : e7 = .non := hO6
          walk_at "rd"
          cases f : upto (pst m tk cl lt) cl.length 5 with
          | none =>
            rw [f] at hv
            obtain rfl : v = .non := hv
            walk_at "rd"
            exact q' _ rfl
          | some pl =>
            rw [f] at hv
            obtain ⟨r1, rfl, hr1⟩ := hv
            have len1 := upto_new e 2 f
            walk_at "rd"
            refine Rd.lenT hr1.sq ?_
            walk_at "rd"
            have c : ¬ (((pl.map vn).length : Nat) : Int) < 3 := by rw [List.length_map]; omega
            simp only [eq_false c, decide_false]
            exact q' _ rfl
      · subst e7_
        clear hO6
        cases f : upto (pst m tk cl lt) cl.length 5 with
        | none =>
          rw [f] at hv
          obtain rfl : v = .non := hv
          walk_at "rd"
          refine Rd.h_fc hE6.hal hE6.tb fun u H8 X8 hu => ?_
          have nc := clash_nc hPk hPc hu
          have un : u ≠ .non := fun e => by
            have g := (pst_nil (m := m) (lt := lt) (tk := tk) hPc).mpr (nc.mp e)
            have g1 : upto (pst m tk cl lt) cl.length 1 = some [] := by rw [upto_one, if_pos g]
            rw [upto_keep g1 4] at f
            cases f
          walk_at "rd"
          simp only [eq_false un, decide_false, Bool.not_false]
          exact k _
        | some pl =>
          rw [f] at hv
          obtain ⟨r1, rfl, hr1⟩ := hv
          obtain ⟨len1, hp⟩ := upto_len 5 f
          have hp2 := hp
          unfold pst at hp2
          rw [Bool.and_eq_true] at hp2
          obtain ⟨hf, hnc⟩ := hp2
          have hnc := ncB_iff.mp hnc
          have hclA := hE6.clA
          have c0 := hPc.pos
          walk_at "rd"
          refine Rd.rngK_n (n := (cl.map vn).length) (by rw [List.length_map]; omega) ?_
          refine Rd.lc_rng (fun i => vn (cl.getD i 0 + pl.count i)) (by rw [List.length_map]; omega) (fun i hi => Rd.turn1 rfl fun H' S Q' q => ?_) fun D H7 nD S7 h7 => ?_
          · rw [List.length_map] at hi
            have hcp' := S _ _ hclA
            walk_at "rd"
            refine Rd.ixT (SqT.of hcp') (i := (i : Int)) (atn (by rw [List.getElem?_map, List.getElem?_eq_getElem hi]; rfl)) ?_
            walk_at "rd"
            refine Rd.cntF (n := i) rfl rfl (hr1.same S) ?_
            walk_at "rd"
            rw [show V.int ((cl[i] : Int) + ((pl.count i : Nat) : Int)) = vn (cl.getD i 0 + pl.count i) from vn_int (by rw [List.getD_eq_getElem?_getD, List.getElem?_eq_getElem hi]; show _ = (((cl[i] : Nat) + pl.count i : Nat) : Int); omega)]
            exact q _ (Same.refl _)
          have e7_ : (List.range (cl.map vn).length).map (fun i => vn (cl.getD i 0 + pl.count i)) = (addAt cl pl).map vn := by
            unfold addAt
            rw [List.length_map, List.map_map]
            rfl
          rw [e7_] at h7
          have hE7 := hE6.same S7
          have hr7 := hr1.same S7
          clear hE6 hr1 hclA S7 nD
          walk_at "rd"
          rename_i q8 H8 nq8 S8 hq8
          have hE8 := hE7.same S8
          have hr8 := hr7.same S8
          clear hE7 hr7 S8 nq8 h7 H7
          have hPm : Pat (addAt cl pl) := ⟨by rw [addAt_len]; omega, by rw [addAt_len]; omega, fine_nine hf⟩
          refine Rd.h_make ⟨m2, m4, hPk, hPm, l99⟩ hE8.tkA hq8 fun h' lp' H9 nh nl S9 hA9 => ?_
          have hE9 := hE8.same S9
          have hr9 := hr8.same S9
          have hq9 := S9 _ _ hq8
          clear hE8 hr8 hq8 S9 nh nl H8
          walk_at "rs"
          refine Rd.ifF (P := fun H => Same H9 H) (fun Q' q' => ?_) fun H10 S10 => ?_
          · walk_at "rd"
            refine ⟨h', lp', m, lt, 0, tk, addAt cl pl, rfl, hA9, by omega, by rw [addAt_len]; exact l2, fun v HA SA hv => ?_⟩
            rw [find_eq hPm.nine] at hv
            have hv : PlO HA v (upto (pst m tk (addAt cl pl) lt) (addAt cl pl).length 1) := hv
            rw [upto_one, if_pos ((pst_nil hPm).mpr hnc)] at hv
            have hv : PlV HA v [] := hv
            have hAA := hA9.same SA
            walk_at "rd"
            refine Rd.tup0F fun p5 HB n5 SB h5 => ?_
            refine Rd.ned (d := .tuple []) (e := .tuple []) (PlV.dp (p := []) (hv.same SB)) (.tup h5.sq .nil) ⟨by decide, fun x hx => by cases hx⟩ ⟨by decide, fun x hx => by cases hx⟩ ?_
            have hAB := hAA.same SB
            clear hAA
            simp only [decide_true, Bool.not_true]
            walk_at "rd"
            rename_i v2 HC SC hmv
            obtain ⟨M, rfl, hM⟩ := MostV.num_ hmv hnc
            have hAC := hAB.same SC
            have SSC := (SA.trans SB).trans SC
            clear hAB
            walk_at "rd"
            have c : ¬ ((m : Nat) : Int) < ((M : Nat) : Int) := by omega
            refine Rd.dF c ?_
            walk_at "rd"
            rename_i v3 HD SD hcv
            obtain rfl := col_one m2 hnc hcv
            walk_at "rd"
            exact q' _ (SSC.trans SD)
          · have hE10 := hE9.same S10
            have hr10 := hr9.same S10
            have hq10 := S10 _ _ hq9
            have hA10 := hA9.same S10
            clear hE9 hr9 hq9 hA9 S10 H9
            walk_at "rd"
            intro b dx nb ndx nex
            have S11 : Same H10 (upd (upd H10 dx (.own b)) b (.ins (He.ga K "Bench") dx [])) := fun b' o e => by
              rw [upd_ne (ne_of_none e nb), upd_ne (ne_of_none e ndx)]
              exact e
            refine ⟨b, dx, hh, lp, (m, tk, cl, lt), rfl, upd_same, hE10.hal.same S11, fun H11 hl wl sn B11 hB => ⟨rfl, ?_⟩⟩
            have S10_11 : Same H10 H11 := fun b' o e => B11 _ _ (ne_of_none e nb) (S11 _ _ e)
            have hE11 := hE10.same S10_11
            have hr11 := hr10.same S10_11
            have hq11 := S10_11 _ _ hq10
            have hA11 := hA10.same S10_11
            clear hE10 hr10 hq10 hA10 S10_11 B11 S11 nb ndx nex
            walk_at "rs"
            refine Rd.ifF (P := fun H => But b H11 H ∧ ∃ hl' wl' hx, BAt (He.ga K "Bench") (He.ga K "Hall") H b hl' wl' sn [.ref hh, hx] ["calls"] 1 [(m, tk, cl, lt), (m, tk, addAt cl pl, lt)]) (fun Q' q' => ?_) fun H12 ⟨B12, hl', wl', hx, hB12⟩ => ?_
            · obtain ⟨dx1, hb11⟩ := hB.ex
              walk_at "rd"
              refine ⟨b, dx1, _, rfl, hb11, lk4x (by decide +kernel), ?_⟩
              walk_at "rd"
              rename_i r12 H12 nr12 S12 hr12 l13 H13 nl13 S13 hl13
              have S11_13 := S12.trans S13
              have hB13 := hB.same S11_13
              have hq13 := S11_13 _ _ hq11
              have hA13 := hA11.same S11_13
              have hr13 := S13 _ _ hr12
              clear S12 S13 nr12 nl13 hr12
              refine ⟨b, hl, wl, sn, l13, r12, [.ref hh], [], 0, [(m, tk, cl, lt)], "calls", .ref q8, (m, tk, cl, lt), (m, tk, addAt cl pl, lt), rfl, hl13, hr13, hB13, rfl, .c hq13 hPm, by omega, fun v' o H14 hl' wl' hx B14 hB14 hm no ho => ?_⟩
              have hB14 : BAt (He.ga K "Bench") (He.ga K "Hall") H14 b hl' wl' sn [.ref hh, .ref hx] ["calls"] 1 [(m, tk, cl, lt), (m, tk, addAt cl pl, lt)] := hB14
              obtain ⟨dx3, hb13⟩ := hB13.ex
              have hA14 := HallAt.butI hA13 B14 hb13
              have B11_14 := (But.same (d := b) S11_13).trans B14
              obtain ⟨M, rfl, _⟩ := MostV.num_ hm hnc
              walk_at "rd"
              rename_i v5 H15 S15 hm5 p15 H16 n16 S16 h16
              have hm5 : MostV tk (addAt cl pl) lt v5 := hm5
              have hm : MostV tk (addAt cl pl) lt (vn M) := hm
              obtain rfl := MostV.uniq hm hm5
              have ho16 := S16 _ _ (S15 _ _ ho)
              refine Rd.ned (d := .list ([M].map dN)) (e := .list ([M].map dN)) (.lst (SqL.of ho16) (dp_nats [M])) (.lst (SqL.of h16) (dp_nats [M])) (Sml.ints (by show 1 ≤ 100000; decide)) (Sml.ints (by show 1 ≤ 100000; decide)) ?_
              simp only [decide_true, Bool.not_true]
              have hB16 := (hB14.same S15).same S16
              have hA16 := (hA14.same S15).same S16
              have B11_16 := (B11_14.trans (But.same S15)).trans (But.same S16)
              walk_at "rd"
              obtain ⟨dx6, hb16⟩ := hB16.ex
              refine ⟨b, dx6, _, rfl, hb16, ?_⟩
              refine ⟨b, hl', wl', sn, _, _, 1, _, (m, tk, addAt cl pl, lt), rfl, hB16, rfl, fun H17 S17 => ?_⟩
              have hA17 := hA16.same S17
              walk_at "rd"
              rename_i H18 S18
              show Q' (!decide (V.str (Tx.txt m tk (addAt cl pl) lt) = V.str (Tx.txt m tk (addAt cl pl) lt))) _
              simp only [decide_true, Bool.not_true]
              exact q' _ ⟨B11_16.trans (But.same (S17.trans S18)), hl', wl', .ref hx, (hB16.same S17).same S18⟩
            · have hE12 : E44 K H12 hh lp m tp tk cp cl lt := by
                obtain ⟨dx1, hb11⟩ := hB.ex
                exact ⟨HallAt.butI hE11.hal B12 hb11, B12 _ _ (ne_of hE11.tkA hb11 (fun q => by cases q)) hE11.tkA, B12 _ _ (ne_of hE11.clA hb11 (fun q => by cases q)) hE11.clA, tabs_butI hE11.tb hb11 B12⟩
              walk_at "rd"
              refine Rd.tup0F fun p13 H13 n13 S13 h13 => ?_
              walk_at "rd"
              have hr12 : Cn.FzT H12 r1 (pl.map vn) := by
                obtain ⟨dx1, hb11⟩ := hB.ex
                exact hr11.but B12 (by obtain ⟨o, z, _⟩ := hr11; exact ne_of z hb11 (fun q => by cases q))
              refine Rd.eqd (d := .tuple (pl.map dN)) (e := .tuple []) (PlV.dp ⟨r1, rfl, hr12.same S13⟩) (.tup h13.sq .nil) (Sml.intsT (by omega)) ⟨by decide, fun x hx => by cases hx⟩ ?_
              have hE13 := hE12.same S13
              have hB13 := hB12.same S13
              walk_at "rd"
              refine Rd.h_fc hE13.hal hE13.tb fun u H14 X14 hu => ?_
              have nc := clash_nc hPk hPc hu
              have hE14 := hE13.ext X14
              have hB14 := BAt.ext hB13 X14
              clear hE12 hE13 hB12 hB13 hE11 hB hr11 hA11 hq11 hr12 h13 S13 n13
              have key : PyData.tuple (pl.map dN) = PyData.tuple [] ↔ u = .non := by
                constructor
                · intro e
                  have e : pl = [] := by simpa using e
                  rw [e] at hp
                  exact nc.mpr ((pst_nil hPc).mp hp)
                · intro e
                  have g1 : upto (pst m tk cl lt) cl.length 1 = some [] := by rw [upto_one, if_pos ((pst_nil hPc).mpr (nc.mp e))]
                  have g5 := upto_keep g1 4
                  rw [show 1 + 4 = 5 from rfl, f] at g5
                  obtain rfl : pl = [] := Option.some.inj g5
                  rfl
              walk_at "rd"
              refine Rd.dT (congrArg V.bl (decide_eq_decide.mpr key)) ?_
              obtain ⟨dx4, hb14⟩ := hB14.ex
              walk_at "rd"
              refine ⟨b, dx4, _, rfl, hb14, lk4x (by decide +kernel), ?_⟩
              walk_at "rd"
              refine ⟨b, hl', wl', sn, _, _, 1, _, rfl, hB14, fun c => (by cases c), fun _ H15 B15 hB15 => ?_⟩
              have hA15 := HallAt.butI hE14.hal B15 hb14
              walk_at "rd"
              obtain ⟨dx5, hb15⟩ := hB15.ex
              refine ⟨b, dx5, _, rfl, hb15, ?_⟩
              refine ⟨b, hl', wl', sn, _, _, 0, _, (m, tk, cl, lt), rfl, hB15, rfl, fun H16 S16 => ?_⟩
              have hA16 := hA15.same S16
              walk_at "rd"
              rename_i H17 S17
              show Q (.bl (decide (V.str (Tx.txt m tk cl lt) = V.str (Tx.txt m tk cl lt)))) H17
              simp only [decide_true]
              exact k H17
end
end Tk

end

/-! ### The end -/
namespace Tk
open PySem PySem.Spec PyProof.Rows L2
theorem facts {w : World} {K : PySem.W.Frag} {h : Heap} {mg : Str → Option Value} {f : Addr} (X : K.In h) (G : h.Ns mainGlobals mg) (hfa : mg ("law" : Str) = some (.ref f)) (c : Says fcts dps K) (t : Tells mks h K) :
    LamX.LawAtS PySem.Challenge.rw_ticketwrap_k44_whole_plans_by_trying_all w K CX0 13 63 "_law_script" mg f h := by
  obtain ⟨fd, F⟩ := law_fn c
  have T := txt X G c
  have e := hfa.symm.trans (He.glo_ok X G (c.fact lawF rfl))
  cases e
  have b := FunD.bindsA (ps := ["_law_script"]) F fun _ _ _ _ _ _ us hl => match us, hl with | [_], _ => rfl
  have mem : ∀ p ∈ mkl.map (fun p => ctAt K (p.1 K)), ∃ q ∈ mks, p = ctAt K (q K) := fun p hp => by
    obtain ⟨q, hq, rfl⟩ := List.mem_map.mp hp
    exact ⟨q.1, List.mem_map.mpr ⟨q, hq, rfl⟩, rfl⟩
  refine ⟨fd, mkl.map (fun p => ctAt K (p.1 K)), spLawT K (TT K), fun p hp => ?_, fun p hp => ?_, fun p hp => ?_, fun s v => b s [v] rfl, fun H a ns hl _ ht hS => ⟨a, ns, rfl, hS, hl, tabs_nil fun p hp => ?_, fun _ => rfl⟩, fun base _ _ hB => ok_law T ⟨fun p hp => hB _ (List.mem_map.mpr ⟨p, hp, rfl⟩), ?_⟩ F⟩
  · obtain ⟨q, hq, rfl⟩ := mem p hp
    exact t.empty q hq
  · obtain ⟨q, hq, rfl⟩ := mem p hp
    exact t.out q hq
  · obtain ⟨q, hq, rfl⟩ := mem p hp
    exact PySem.W.codeHd_of_K X (t.hd q hq)
  · obtain ⟨q, hq, rfl⟩ := List.mem_map.mp hp
    exact ht _ (List.mem_map.mpr ⟨q, hq, rfl⟩)
  · have z := t.apart
    unfold mks at z
    rw [List.map_map] at z
    exact z
end Tk
open PySem PySem.W PySem.Calls PyProof.Rows
set_option maxRecDepth 100000 in
set_option maxHeartbeats 0 in
theorem PySem.Challenge.cw_ticketwrap_k44_whole_plans_by_trying_all_holds : PySem.Challenge.rw_ticketwrap_k44_whole_plans_by_trying_all.Holds := by
  w_on; o_law
  refine HeadRun.head_imp (r := OpenLaw.row PySem.Challenge.rw_ticketwrap_k44_whole_plans_by_trying_all) (q := view (OpenLaw.row PySem.Challenge.rw_ticketwrap_k44_whole_plans_by_trying_all).prog [0, 59]) (H := Tk.hk) (ob := Tk.ob) (M := 20000) (loose := Tk.names) (d := HeadRun.topDef (OpenLaw.row PySem.Challenge.rw_ticketwrap_k44_whole_plans_by_trying_all).prog 59) (kwd := []) Tk.ob_eq Tk.run
    (by kernel_rfl) (by kernel_rfl) (by kernel_rfl) (by rfl) (by first | assumption | decide +kernel) (by decide +kernel) ⟨rfl, rfl, rfl, rfl, rfl, by decide +kernel⟩ ?hw ?hc
  case hw => w_witness2
  case hc =>
    refine LamX.walk_ofTsE (l := PySem.Challenge.rw_ticketwrap_k44_whole_plans_by_trying_all) (n := 63) (k := 13) (x := "_law_script") (CX := fun _ => L2.CX0) rfl (by decide) (by kernel_rfl) ⟨rfl, by decide, by decide⟩ ?F (fun _ _ _ _ _ z => z)
    intro w mg fa h Y G hmg0
    obtain ⟨K, KX, c, t⟩ := Y
    have hmg : mg ("law" : PySem.Str) = some (.ref fa) := by
      have e : (HeadRun.topDef (OpenLaw.row PySem.Challenge.rw_ticketwrap_k44_whole_plans_by_trying_all).prog 59).name = ("law" : PySem.Str) := by kernel_rfl
      rw [← e]
      exact hmg0
    exact ⟨K, KX, Tk.facts KX G hmg c t⟩
