import PyProof.Rows.All
import Wide.All
import OpenK.AllK
import Wide.FinOn
import KE.KStateDown
import KE.KMathGC
import KE.KTupSum
import KE.GoesEnum
import KE.KUnpackStar
import HandS.StrMore
import HandS.Zip
import HandS.ClsMeth
import HandS.Codes
import HandS.ForMost
import HandS.Exc
import HandS.TryOnly
import HandS.ExcOwn
import HandS.ExcValue
import HandS.WordsExc
import HandS.Defaults
import HandS.Property
import HandS.Conv
import HandS.Flow
import HandS.Wide
import HandS.IsInst
import HandS.TupAny
import HandS.Deep
import HandS.Evl
import HandS.Lambda
import HandS.EndTab
import HandS.HeadWalk
import HandS.GenList
import HandS.RevRange
import HandS.Gcd
import HandS.CallLocal
import HandS.TryMany
import HandS.SetKeys
import HandS.Star
import HandS.TupMul
import HandS.Style
import HandS.SortKw
import KE.DatumOrd
import PyProof.GenComp
import KE.HD3
import HandS.HeadEnd
import HandS.HeadHook1
import HandS.HeadHook2
import HandS.HeadHook4
import HandS.NestedK
import KE.KExcIs
import KE.KExcSuper
import KE.KSuperObj
import HandS.ExcSuper
import HandS.ExcInit
import HandS.ExcField
import HandS.ExcIs
import HandS.FStr
import HandS.SetFor
import PySem.Challenge.RW_ticketwrap_k17_planned_calls
set_option Elab.async false
set_option linter.all false
set_option maxRecDepth 100000
set_option maxHeartbeats 4000000
/-! ### A. Rules and facts of our own -/
namespace Tk
open PySem PySem.Spec PyProof.Rows L2
section
variable {X : Cx}

/-! math.lcm, sum of a tuple -/
def rLcm : List V → Hp → VK → Prop := fun vs H Q => ∃ a b : Nat, vs = [.int a, .int b] ∧ a < 1000000 ∧ b < 1000000 ∧ Q (.int ((Nat.lcm a b : Nat) : Int)) H
theorem cr_lcm : CallR X (.builtin "math.lcm") rLcm := by
  intro pins s σ H vs us Q I r h
  obtain ⟨a, b, rfl, ha, hb, q⟩ := h
  obtain ⟨t, u, rfl⟩ := Vals.int2 r
  refine PySem.W.mc_lcm (by simp; omega) (by simp; omega) fun _ => ⟨.int _, H, I.tok _, ⟨_, rfl⟩, ?_⟩
  simpa using q
def rSumT (K : PySem.W.Frag) : List V → Hp → VK → Prop := fun vs H Q => ∃ (a : Addr) (ns : List Int), vs = [V.ref a] ∧ SqT K H a (ns.map V.int) ∧ Q (.int ns.sum) H
theorem istup_old {h : Heap} {t : Addr} {its : List Value} (p : IsTup h t its.toArray) : h.IsTuple t its.toArray := by
  obtain ⟨o, ho, hc, n, hd⟩ := p
  exact ⟨o, ho, hc, n, hd⟩
theorem cr_sumT (hc : X.calm = true) : CallR X (.builtin "sum") (rSumT X.K) := by
  intro pins s σ H vs us Q I r h
  obtain ⟨a, ns, rfl, hs, q⟩ := h
  obtain ⟨its, rv, hl, _⟩ := I.tuple hs
  rw [Vals.ref1 r]
  have hi := rv.ints
  obtain ⟨xs, hx⟩ := hi.allInts.items
  have hn : numsOf its.toArray.toList = ns := by rw [show its.toArray.toList = its from rfl, hi.numsOf]
  have ht := istup_old hl
  rw [hx] at ht hn
  rw [nums_intItems] at hn
  refine PySem.W.ktm_sumG (I.ok.hd hc) ht fun h' tk t' hk => ?_
  rw [preSum_eq, List.take_of_length_le (by simp), hn]
  exact ⟨.int _, H, I.kept hk, ⟨_, rfl⟩, q⟩
/-- f(e, ..), f a name for a built-in function of a module -/
theorem pfun {x : Str} {p pos : Pos} {e : Expr} {es : List Expr} {t : TA} {id : String} {r : List V → Hp → VK → Prop} (hc : CallR X (.builtin id) r) (hg : Gl X x) (hm : X.mg x = some (.builtin id)) (ha : PA X (e :: es) t) (hdb : (x == ("__debug__" : Str)) = false := by decide)
    (he : starEach (e :: es) X.env = (false, eval e X.env) :: starEach es X.env := by rfl) (hpl : (backTo pos (starEach es X.env)).any (·.1) = false := by rfl) : PE X (.Call (.Name x p) (e :: es) [] pos) (tCB r t) :=
  ⟨fun pins s σ H _ I h => wpAny_Call_Name_kw (ld_glob I hg hm (PyProof.Rows.callWith_builtin1 (thn (ha.run pos pins s σ H _ I h) fun us s1 ⟨vs, H1, I1, r1, q1⟩ => hc pins s1 σ H1 vs us _ I1 r1 q1) he hpl) hdb)⟩

/-! a comprehension within a comprehension -/
theorem look_relabel {env : Env} : ∀ {names : List (Str × NameKind)} {x : Str}, names.lookup x = some .cell ∨ names.lookup x = some .free →
    (names.map fun (n, k) => if (k == NameKind.free && env.scope.kind == .function && env.kindOf n == some .cell) then (n, NameKind.cell) else (n, k)).lookup x = some .cell ∨
    (names.map fun (n, k) => if (k == NameKind.free && env.scope.kind == .function && env.kindOf n == some .cell) then (n, NameKind.cell) else (n, k)).lookup x = some .free
  | [], x, h => by rcases h with h | h <;> simp at h
  | (n, k) :: r, x, h => by
    have ih := @look_relabel env r x
    show List.lookup x ((if (k == NameKind.free && env.scope.kind == .function && env.kindOf n == some .cell) = true then (n, NameKind.cell) else (n, k)) :: _) = _ ∨ List.lookup x ((if (k == NameKind.free && env.scope.kind == .function && env.kindOf n == some .cell) = true then (n, NameKind.cell) else (n, k)) :: _) = _
    cases hx : x == n with
    | true =>
      simp only [List.lookup_cons, hx] at h
      by_cases hc : (k == NameKind.free && env.scope.kind == .function && env.kindOf n == some .cell) = true
      · rw [if_pos hc]
        simp [List.lookup_cons, hx]
      · rw [if_neg hc]
        simp only [List.lookup_cons, hx]
        exact h
    | false =>
      simp only [List.lookup_cons, hx] at h
      by_cases hc : (k == NameKind.free && env.scope.kind == .function && env.kindOf n == some .cell) = true
      · rw [if_pos hc]; simp only [List.lookup_cons, hx]; exact ih h
      · rw [if_neg hc]; simp only [List.lookup_cons, hx]; exact ih h
theorem blkRe {N : List Str} {sc scope : Scope} {own : List (Str × Nat)} {env : Env} (h : BlkOk N sc scope own) : BlkOk N (relabel sc env) scope own :=
  ⟨h.kind, h.uniq, h.ix, fun y hy e => look_relabel (h.free y hy e), h.own⟩
/-! a def that stands at a and keeps a promise; its calls -/
structure OkF (P : Program) (w : World) (K : PySem.W.Frag) (mg : Str → Option Value) (base : Heap) (k : Nat) (a : Addr) (ps : List Str) (sp : Sp) : Prop where
  ex : ∃ fd, FnOk P w K mg base (L2.CX P w) k a fd ps sp ∧ Binds K fd ps []
  kp : PySem.W.keepIn K (.ref a) = true
theorem OkF.one {P : Program} {w : World} {K : PySem.W.Frag} {mg : Str → Option Value} {base : Heap} {k : Nat} {a : Addr} {ps : List Str} {sp : Sp} (O : OkF P w K mg base k a ps sp) : FnOk P w K mg base (L2.CX P w) k a (Classical.choose O.ex) ps sp := (Classical.choose_spec O.ex).1
theorem OkF.two {P : Program} {w : World} {K : PySem.W.Frag} {mg : Str → Option Value} {base : Heap} {k : Nat} {a : Addr} {ps : List Str} {sp : Sp} (O : OkF P w K mg base k a ps sp) : Binds K (Classical.choose O.ex) ps [] := (Classical.choose_spec O.ex).2
variable {x : Str} {pos : Pos}
/-- a constant of the module -/
theorem pe_gint {v : Int} (hg : Gl X x) (h : ∃ t, X.mg x = some (.int v t)) (hd : (x == ("__debug__" : Str)) = false := by decide) : PE X (.Name x pos) (tC (.int v)) := by
  obtain ⟨t, h⟩ := h
  exact pe_glob hg h ⟨t, rfl⟩ hd
end

/-! facts of the top, read by a Hook -/
abbrev FnP (K : PySem.W.Frag) (x qual : Str) (st : Stmt) (f : Addr) (fd : FuncData) : Prop := FunD K x qual (defArgs st) (defBody st) (defScope st) [] [] f fd
/-- where a def stands, and the def -/
structure Dp where
  at_ : PySem.W.Frag → Addr
  d : He.DefD
  cl : Option ((PySem.W.Frag → Addr) × Str) := none
def look (K : PySem.W.Frag) (a : Addr) : He.FnW := match K.lookup a with
  | some o => (match o.data with
    | .func fd => some (fd.name, fd.qualname, fd.params, fd.body, fd.scope, fd.globals, fd.closure, fd.builtins)
    | _ => none)
  | none => none
def okA (K : PySem.W.Frag) (a : Addr) (d : He.DefD) : Bool := PySem.W.keepIn K (.ref a) && (match K.lookup a with
  | some o => (match o.data with
    | .func fd => PySem.W.codeIn K fd.code d.qual && (He.dflB K fd.defaults (d.dvs K) && He.kwdB K fd.kwdefaults (d.kws K))
    | _ => false)
  | none => false)
theorem fun_at {K : PySem.W.Frag} {a : Addr} {d : He.DefD} (e : look K a = d.val) (c : okA K a d = true) : ∃ fd, FunD K d.name d.qual d.params d.body d.scope (d.dvs K) (d.kws K) a fd := by
  obtain ⟨kp, c2⟩ := He.ba c
  unfold look at e
  cases q : K.lookup a with
  | none => rw [q] at c2; cases c2
  | some o =>
    obtain ⟨oc, od, dt, osl⟩ := o
    rw [q] at c2 e
    cases dt with
    | func fd =>
      obtain ⟨n1, n2, n3, n4, n5, n6, n7, n8, n9, n10, n11, n12, n13, n14, n15⟩ := fd
      have z : (some (n1, n2, n3, n4, n5, n6, n7, n15) : He.FnW) = d.val := e
      unfold He.DefD.val at z
      simp only [Option.some.injEq, Prod.mk.injEq] at z
      obtain ⟨rfl, rfl, rfl, rfl, rfl, rfl, rfl, rfl⟩ := z
      obtain ⟨c3, c4⟩ := He.ba (show (PySem.W.codeIn K n13 d.qual && (He.dflB K n8 (d.dvs K) && He.kwdB K n9 (d.kws K))) = true from c2)
      obtain ⟨c5, c6⟩ := He.ba c4
      exact ⟨_, ⟨oc, od, n8, n9, n10, n11, n12, n13, n14, osl, rfl, q, c3, He.dflB_ok c5, He.kwdB_ok c6⟩, kp⟩
    | _ => cases c2
/-! an __init__ that says super(): its closure is one cell, which holds the class -/
def lookX (K : PySem.W.Frag) (a : Addr) : He.FnW := match K.lookup a with
  | some o => (match o.data with
    | .func fd => some (fd.name, fd.qualname, fd.params, fd.body, fd.scope, fd.globals, fd.closure.map (fun q => (q.1, 0)), fd.builtins)
    | _ => none)
  | none => none
def valX (d : He.DefD) : He.FnW := some ("__init__", d.qual, d.params, .stmts d.body, d.scope, mainGlobals, [("__class__", 0)], builtinsNs)
def codeFB (K : PySem.W.Frag) (cd : Value) (file : Str) : Bool := match cd with
  | .ref c => (match K.lookup c with
    | some ⟨_, _, .fields vs, _⟩ => (match (vs[2]? : Option Value) with
      | some (.str y _) => decide (y = file)
      | _ => false)
    | _ => false)
  | _ => false
def cellB (K : PySem.W.Frag) (cl : List (Str × Addr)) (C : Addr) : Bool := match cl with
  | [(_, cc)] => (match K.lookup cc with
    | some ⟨_, _, .cell (some v), _⟩ => decide (v = .ref C)
    | _ => false)
  | _ => false
def okX (K : PySem.W.Frag) (a C : Addr) (qual file : Str) : Bool := PySem.W.keepIn K (.ref a) && (match K.lookup a with
  | some ⟨oc, _, .func fd, _⟩ => decide (oc = .type "function") && (decide (fd.defaults = .none) && (decide (fd.kwdefaults = .none) && (PySem.W.codeIn K fd.code qual && (codeFB K fd.code file && cellB K fd.closure C))))
  | _ => false)
def Dp.look (K : PySem.W.Frag) (p : Dp) : He.FnW := match p.cl with
  | none => Tk.look K (p.at_ K)
  | some _ => lookX K (p.at_ K)
def Dp.ok (K : PySem.W.Frag) (p : Dp) : Bool := match p.cl with
  | none => okA K (p.at_ K) p.d
  | some q => okX K (p.at_ K) (q.1 K) p.d.qual q.2
def Dp.val (p : Dp) : He.FnW := match p.cl with
  | none => p.d.val
  | some _ => valX p.d
theorem init_at {K : PySem.W.Frag} {a C : Addr} {d : He.DefD} {file : Str} (e : lookX K a = valX d) (c : okX K a C d.qual file = true) : PySem.W.keepIn K (.ref a) = true ∧
    ∃ (od : Option Addr) (doc pm ctv : Value) (an : Option Addr) (osl : Array (Option Value)) (c cc : Addr) (oc ocl : Obj) (vs : Array Value) (tf : Tok),
      K.lookup a = some ⟨.type "function", od, .func (PySem.W.fnX "__init__" d.qual d.params d.body d.scope [("__class__", cc)] .none .none doc pm an (.ref c) ctv), osl⟩ ∧ PySem.W.codeIn K (.ref c) d.qual = true ∧
        K.lookup c = some oc ∧ oc.data = .fields vs ∧ vs[2]? = some (.str file tf) ∧ K.lookup cc = some ocl ∧ ocl.data = .cell (some (.ref C)) := by
  obtain ⟨kp, c2⟩ := He.ba c
  refine ⟨kp, ?_⟩
  unfold lookX at e
  cases q : K.lookup a with
  | none => rw [q] at c2; cases c2
  | some o =>
    obtain ⟨oc, od, dt, osl⟩ := o
    rw [q] at c2 e
    cases dt with
    | func fd =>
      obtain ⟨n1, n2, n3, n4, n5, n6, n7, n8, n9, n10, n11, n12, n13, n14, n15⟩ := fd
      have z : (some (n1, n2, n3, n4, n5, n6, n7.map (fun q => (q.1, 0)), n15) : He.FnW) = valX d := e
      unfold valX at z
      simp only [Option.some.injEq, Prod.mk.injEq] at z
      obtain ⟨rfl, rfl, rfl, rfl, rfl, rfl, z7, rfl⟩ := z
      obtain ⟨c3, c4⟩ := He.ba (show (decide (oc = .type "function") && (decide (n8 = .none) && (decide (n9 = .none) && (PySem.W.codeIn K n13 d.qual && (codeFB K n13 file && cellB K n7 C))))) = true from c2)
      obtain ⟨c5, c6⟩ := He.ba c4
      obtain ⟨c7, c8⟩ := He.ba c6
      obtain ⟨c9, c10⟩ := He.ba c8
      obtain ⟨c11, c12⟩ := He.ba c10
      obtain rfl := of_decide_eq_true c3
      obtain rfl := of_decide_eq_true c5
      obtain rfl := of_decide_eq_true c7
      obtain ⟨c0, rfl⟩ := He.codeIn_ref c9
      unfold codeFB at c11
      dsimp only at c11
      obtain ⟨ob, vs, tf, lb, hv, hf⟩ : ∃ (ob : Obj) (vs : Array Value) (tf : Tok), K.lookup c0 = some ob ∧ ob.data = .fields vs ∧ vs[2]? = some (.str file tf) := by
        cases q0 : K.lookup c0 with
        | none => rw [q0] at c11; cases c11
        | some ob =>
          obtain ⟨b1, b2, dt, b4⟩ := ob
          rw [q0] at c11
          cases dt with
          | fields vs =>
            have c11 : (match (vs[2]? : Option Value) with
              | some (.str y _) => decide (y = file)
              | _ => false) = true := c11
            cases q2 : (vs[2]? : Option Value) with
            | none => rw [q2] at c11; cases c11
            | some v =>
              rw [q2] at c11
              cases v with
              | str y tf =>
                obtain rfl : y = file := of_decide_eq_true c11
                exact ⟨_, vs, tf, rfl, rfl, q2⟩
              | _ => cases c11
          | _ => cases c11
      unfold cellB at c12
      cases n7 with
      | nil => cases c12
      | cons p r =>
        obtain ⟨pn, cc⟩ := p
        cases r with
        | cons p2 r2 => cases c12
        | nil =>
          obtain ⟨z7, _⟩ := List.cons.inj (show [(pn, (0 : Addr))] = [(("__class__" : Str), (0 : Addr))] from z7)
          obtain rfl : pn = "__class__" := (Prod.mk.inj z7).1
          have c12 : (match K.lookup cc with
            | some ⟨_, _, .cell (some v), _⟩ => decide (v = .ref C)
            | _ => false) = true := c12
          cases q3 : K.lookup cc with
          | none => rw [q3] at c12; cases c12
          | some ocl =>
            obtain ⟨b1, b2, dt, b4⟩ := ocl
            rw [q3] at c12
            cases dt with
            | cell v =>
              cases v with
              | none => cases c12
              | some v =>
                obtain rfl : v = .ref C := of_decide_eq_true c12
                exact ⟨od, _, _, _, _, osl, c0, cc, ob, _, vs, tf, rfl, c9, lb, hv, hf, q3, rfl⟩
            | _ => cases c12
    | _ => cases c2
abbrev Al : Type := Bool × List He.FnW
def obsT (fa : List (PySem.W.Frag → Bool)) (fn : List Dp) (K : PySem.W.Frag) : Al := ((fa.all fun f => f K) && fn.all fun d => d.ok K, fn.map fun d => d.look K)
def valT (fn : List Dp) : Al := (true, fn.map fun d => d.val)
def Says (fa : List (PySem.W.Frag → Bool)) (fn : List Dp) (K : PySem.W.Frag) : Prop := obsT fa fn K = valT fn
/-! defs that make functions: their code objects, the tables of these -/
def codeAt (K : PySem.W.Frag) (a : Addr) : Addr := match K.lookup a with
  | some ⟨_, _, .func fd, _⟩ => (match fd.code with
    | .ref c => c
    | _ => 0)
  | _ => 0
def ctAt (K : PySem.W.Frag) (a : Addr) : Addr × Addr := (codeAt K a, He.tabOf K (codeAt K a))
theorem codeAt_eq {K : PySem.W.Frag} {a : Addr} {oc : Value} {od : Option Addr} {osl : Array (Option Value)} {fd : FuncData} {cd : Value} {q : Str} (lk : K.lookup a = some ⟨oc, od, .func fd, osl⟩) (e : fd.code = cd) (h : PySem.W.codeIn K cd q = true) : cd = .ref (codeAt K a) := by
  obtain ⟨c, rfl⟩ := He.codeIn_ref h
  unfold codeAt
  rw [lk]
  show Value.ref c = .ref (match fd.code with | .ref c => c | _ => 0)
  rw [e]
abbrev Mk_ : Type := PySem.W.Frag → Addr
/-- what is looked at: what is reached from the module, and the notes on builtins -/
def asX (g : Addr → Option Obj) (n : Nat) : List Addr := cStatics :: He.asD g n
structure Tells (tf : List Mk_) (h : Heap) (K : PySem.W.Frag) : Prop where
  hd : ∀ p ∈ tf, PySem.W.codeHdIn K (ctAt K (p K)).1 (ctAt K (p K)).2 = true
  out : ∀ p ∈ tf, K.lookup (ctAt K (p K)).2 = none
  empty : ∀ p ∈ tf, h.get? (ctAt K (p K)).2 = some { cls := .none, data := .fields #[] }
  apart : (tf.map fun p => (ctAt K (p K)).2).Nodup
def tabsB (g : Addr → Option Obj) (tf : List Mk_) (K : PySem.W.Frag) : Bool := (tf.all fun p => PySem.W.codeHdIn K (ctAt K (p K)).1 (ctAt K (p K)).2 && (match g (ctAt K (p K)).2 with
  | some o => He.emptyTab o
  | none => false)) && decide ((tf.map fun p => (ctAt K (p K)).2).Nodup)
abbrev AlX : Type := Al × Bool
def obsG (n : Nat) (fa : List (PySem.W.Frag → Bool)) (fn : List Dp) (tf : List Mk_) (g : Addr → Option Obj) : AlX := (obsT fa fn (He.frT g (asX g n)), tabsB g tf (He.frT g (asX g n)))
theorem tells_of {n : Nat} {tf : List Mk_} {h : Heap} (e : tabsB h.get? tf (He.frT h.get? (asX h.get? n)) = true) : Tells tf h (He.frT h.get? (asX h.get? n)) := by
  obtain ⟨h2, h5⟩ := He.ba e
  have key : ∀ p ∈ tf, PySem.W.codeHdIn (He.frT h.get? (asX h.get? n)) (ctAt (He.frT h.get? (asX h.get? n)) (p (He.frT h.get? (asX h.get? n)))).1 (ctAt (He.frT h.get? (asX h.get? n)) (p (He.frT h.get? (asX h.get? n)))).2 = true ∧
      ∃ o, h.get? (ctAt (He.frT h.get? (asX h.get? n)) (p (He.frT h.get? (asX h.get? n)))).2 = some o ∧ He.emptyTab o = true := fun p hp => by
    obtain ⟨h3, h4⟩ := He.ba (List.all_eq_true.mp h2 p hp)
    refine ⟨h3, ?_⟩
    generalize h.get? (ctAt (He.frT h.get? (asX h.get? n)) (p (He.frT h.get? (asX h.get? n)))).2 = z at h4
    cases z with
    | none => cases h4
    | some o => exact ⟨o, rfl, h4⟩
  exact ⟨fun p hp => (key p hp).1, fun p hp => by
    obtain ⟨_, o, q, z⟩ := key p hp
    exact He.frT_none q z, fun p hp => by
    obtain ⟨_, o, q, z⟩ := key p hp
    rw [q, He.emptyTab_eq z], of_decide_eq_true h5⟩
def hook (n : Nat) (fa : List (PySem.W.Frag → Bool)) (fn : List Dp) (tf : List Mk_) : PySem.W.Hook where
  α := AlX
  obs := fun s => obsG n fa fn tf s.heap.get?
  val := fun _ => (valT fn, true)
  says := fun _ h => ∃ K : PySem.W.Frag, K.In h ∧ Says fa fn K ∧ Tells tf h K
  of := fun _ _ e => ⟨_, He.frT_in, congrArg (fun z : AlX => z.1) e, tells_of (congrArg (fun z : AlX => z.2) e)⟩
  keeps := fun _ _ _ ⟨K, hK, c, t⟩ q => ⟨K, PySem.W.Frag.In.keeps hK q, c, t.hd, t.out, fun p hp => q _ _ (t.empty p hp), t.apart⟩
theorem obsG_eq {n : Nat} {fa : List (PySem.W.Frag → Bool)} {fn : List Dp} {tf : List Mk_} {g : Addr → Option Obj} {s : Shared} (h : ∀ a, g a = s.heap.get? a) : obsG n fa fn tf g = (hook n fa fn tf).obs s :=
  congrArg (obsG n fa fn tf) (funext h)
section
variable {fa : List (PySem.W.Frag → Bool)} {fn : List Dp} {K : PySem.W.Frag}
theorem Says.fact (c : Says fa fn K) (i : Nat) {f : PySem.W.Frag → Bool} (h : fa[i]? = some f := by rfl) : f K = true :=
  List.all_eq_true.mp (He.ba (show ((fa.all fun f => f K) && fn.all fun d => d.ok K) = true from congrArg (fun z : Al => z.1) c)).1 f (List.mem_of_getElem? h)
theorem Says.at_ (c : Says fa fn K) (i : Nat) {d : Dp} (h : fn[i]? = some d) : d.look K = d.val ∧ d.ok K = true := by
  have c2 := (He.ba (show ((fa.all fun f => f K) && fn.all fun d => d.ok K) = true from congrArg (fun z : Al => z.1) c)).2
  have c3 := List.all_eq_true.mp c2 d (List.mem_of_getElem? h)
  have e : (fn.map fun d => d.look K)[i]? = (fn.map fun d => d.val)[i]? := congrArg (fun z : Al => z.2[i]?) c
  rw [List.getElem?_map, List.getElem?_map, h] at e
  exact ⟨Option.some.inj e, c3⟩
theorem Says.def_ (c : Says fa fn K) (i : Nat) {at_ : PySem.W.Frag → Addr} {d : He.DefD} (h : fn[i]? = some ⟨at_, d, none⟩ := by rfl) : (∃ fd, FunD K d.name d.qual d.params d.body d.scope (d.dvs K) (d.kws K) (at_ K) fd) ∧ PySem.W.keepIn K (.ref (at_ K)) = true := by
  obtain ⟨e, c3⟩ := c.at_ i h
  exact ⟨fun_at e c3, (He.ba (show okA K (at_ K) d = true from c3)).1⟩
theorem Says.init_ (c : Says fa fn K) (i : Nat) {at_ C : PySem.W.Frag → Addr} {d : He.DefD} {file : Str} (h : fn[i]? = some ⟨at_, d, some (C, file)⟩ := by rfl) : PySem.W.keepIn K (.ref (at_ K)) = true ∧
    ∃ (od : Option Addr) (doc pm ctv : Value) (an : Option Addr) (osl : Array (Option Value)) (c cc : Addr) (oc ocl : Obj) (vs : Array Value) (tf : Tok),
      K.lookup (at_ K) = some ⟨.type "function", od, .func (PySem.W.fnX "__init__" d.qual d.params d.body d.scope [("__class__", cc)] .none .none doc pm an (.ref c) ctv), osl⟩ ∧ PySem.W.codeIn K (.ref c) d.qual = true ∧
        K.lookup c = some oc ∧ oc.data = .fields vs ∧ vs[2]? = some (.str file tf) ∧ K.lookup cc = some ocl ∧ ocl.data = .cell (some (.ref (C K))) := by
  obtain ⟨e, c3⟩ := c.at_ i h
  exact init_at e c3
end
/-! single facts -/
/-- where the property f of the class C has its getter -/
def propAt (K : PySem.W.Frag) (C : Addr) (f : Str) : Addr := match PySem.W.findIn K (.ref C) f with
  | some (some (.ref p)) => p
  | _ => 0
def getAt (K : PySem.W.Frag) (C : Addr) (f : Str) : Addr := match PySem.W.recIn K (propAt K C f) "property" with
  | some (.ref g :: _) => g
  | _ => 0
def propB (K : PySem.W.Frag) (C : Addr) (f : Str) : Bool := decide (PySem.W.findIn K (.ref C) f = some (some (.ref (propAt K C f)))) && (decide (PySem.W.specialIn K (.ref (propAt K C f)) "__get__" = some (some (.builtin "property.__get__"))) &&
  (decide (PySem.W.takesIn K (.ref (propAt K C f)) = some true) && (match PySem.W.recIn K (propAt K C f) "property" with
    | some (v :: _) => decide (v = .ref (getAt K C f))
    | _ => false)))
theorem prop_ok {K : PySem.W.Frag} {C : Addr} {f : Str} (h : propB K C f = true) : PropOf K C f (propAt K C f) (getAt K C f) := by
  obtain ⟨h1, h⟩ := He.ba h
  obtain ⟨h2, h⟩ := He.ba h
  obtain ⟨h3, h4⟩ := He.ba h
  refine ⟨of_decide_eq_true h1, of_decide_eq_true h2, of_decide_eq_true h3, ?_⟩
  cases e : PySem.W.recIn K (propAt K C f) "property" with
  | none => rw [e] at h4; cases h4
  | some l =>
    rw [e] at h4
    cases l with
    | nil => cases h4
    | cons v r => exact ⟨r, by rw [show v = _ from of_decide_eq_true h4]⟩
def bltB (x : Str) (id : String) (K : PySem.W.Frag) : Bool := decide (PySem.W.nsIn K mainGlobals x = some (some (.builtin id)))
theorem blt_ok {K : PySem.W.Frag} {h : Heap} {mg : Str → Option Value} (X : K.In h) (G : h.Ns mainGlobals mg) {x : Str} {id : String} (c : bltB x id K = true) : mg x = some (.builtin id) := PySem.W.mg_of X G (of_decide_eq_true c)
def fcB (f : He.Fa) (K : PySem.W.Frag) : Bool := f.ok K

/-- the class method m of the class C: its record, its def -/
def cmAt (K : PySem.W.Frag) (C : Addr) (m : Str) : Addr := match PySem.W.findIn K (.ref C) m with
  | some (some (.ref p)) => p
  | _ => 0
def cmFn (K : PySem.W.Frag) (C : Addr) (m : Str) : Addr := match PySem.W.recIn K (cmAt K C m) "classmethod" with
  | some (.ref g :: _) => g
  | _ => 0
def cmB (K : PySem.W.Frag) (C : Addr) (m : Str) : Bool := PySem.W.readsIn K C (.type "type") && (decide (PySem.W.specialIn K (.ref C) "__getattribute__" = some (some (.builtin "type.__getattribute__"))) && ((match PySem.W.findCls K (.ref C) (.type "type") m with
    | some (.get a b c d) => decide (a = .builtin "classmethod.__get__") && (decide (b = .ref (cmAt K C m)) && (decide (c = .none) && decide (d = .ref C)))
    | _ => false) && ((match PySem.W.recIn K (cmAt K C m) "classmethod" with
    | some (v :: _) => decide (v = .ref (cmFn K C m))
    | _ => false) && PySem.W.fnIn K (cmFn K C m))))
theorem cm_ok {K : PySem.W.Frag} {C : Addr} {m : Str} (h : cmB K C m = true) : ClX.CRead K C (.type "type") ∧ ClX.CMet K C (.type "type") m (cmAt K C m) (cmFn K C m) := by
  obtain ⟨h1, h⟩ := He.ba h
  obtain ⟨h2, h⟩ := He.ba h
  obtain ⟨h3, h⟩ := He.ba h
  obtain ⟨h4, h5⟩ := He.ba h
  refine ⟨⟨h1, of_decide_eq_true h2⟩, ?_, ?_, h5⟩
  · cases e : PySem.W.findCls K (.ref C) (.type "type") m with
    | none => rw [e] at h3; cases h3
    | some z =>
      rw [e] at h3
      cases z with
      | get a b c d =>
        obtain ⟨z1, z⟩ := He.ba (show (decide (a = .builtin "classmethod.__get__") && (decide (b = .ref (cmAt K C m)) && (decide (c = .none) && decide (d = .ref C)))) = true from h3)
        obtain ⟨z2, z⟩ := He.ba z
        obtain ⟨z3, z4⟩ := He.ba z
        rw [of_decide_eq_true z1, of_decide_eq_true z2, of_decide_eq_true z3, of_decide_eq_true z4]
      | _ => cases h3
  · cases e : PySem.W.recIn K (cmAt K C m) "classmethod" with
    | none => rw [e] at h4; cases h4
    | some l =>
      rw [e] at h4
      cases l with
      | nil => cases h4
      | cons v r => exact ⟨r, by rw [show v = _ from of_decide_eq_true h4]⟩
/-- a tuple of texts of the module -/
def strsB : List Value → List Str → Bool
  | [], [] => true
  | .str x _ :: r, y :: s => decide (x = y) && strsB r s
  | _, _ => false
theorem strs_ok : ∀ {l : List Value} {ss : List Str}, strsB l ss = true → Vals (ss.map V.str) l
  | [], [], _ => .nil
  | [], _ :: _, h => by cases h
  | v :: r, ss, h => by
    cases v with
    | str x t =>
      cases ss with
      | nil => cases h
      | cons y s =>
        obtain ⟨h1, h2⟩ := He.ba (show (decide (x = y) && strsB r s) = true from h)
        rw [List.map_cons]
        exact .cons ⟨t, by rw [of_decide_eq_true h1]⟩ (strs_ok h2)
    | _ => cases h
def tupB (x : Str) (ss : List Str) (K : PySem.W.Frag) : Bool := match K.lookup (He.ga K x) with
  | some ⟨.type c, _, .seq its _, _⟩ => decide (c = "tuple") && (decide (its.size ≤ 1000) && strsB its.toList ss)
  | _ => false
theorem tup_ok {K : PySem.W.Frag} {x : Str} {ss : List Str} (h : tupB x ss K = true) (H : Hp) : SqT K H (He.ga K x) (ss.map V.str) := by
  unfold tupB at h
  cases q : K.lookup (He.ga K x) with
  | none => rw [q] at h; cases h
  | some o =>
    obtain ⟨oc, od, dt, osl⟩ := o
    rw [q] at h
    cases oc with
    | type c =>
      cases dt with
      | seq its n =>
        obtain ⟨h1, h⟩ := He.ba (show (decide (c = "tuple") && (decide (its.size ≤ 1000) && strsB its.toList ss)) = true from h)
        obtain ⟨h2, h3⟩ := He.ba h
        refine .inr ⟨_, its, n, q, congrArg Value.type (of_decide_eq_true h1), rfl, ?_, strs_ok h3⟩
        have := of_decide_eq_true h2
        rw [sizeLine_eq]
        omega
      | _ => cases h
    | _ => cases dt <;> cases h
/-- a place, as a value -/
abbrev vnI (i : Nat) : V := .int (i : Int)

/-! named readings -/
namespace Rd
def rJoin (K : PySem.W.Frag) : V → List V → Hp → VK → Prop := fun x xs H Q => ∃ a p, ∃ ys : List Str, x = .str a ∧ xs = [.ref p] ∧ (SqL K H p (ys.map V.str) ∨ SqT K H p (ys.map V.str)) ∧ (ys.map (·.length)).sum + ys.length * a.length ≤ 16777216 ∧ Q (.str (Txt.join a ys)) H
def rSplit : V → List V → Hp → VK → Prop := fun x xs H Q => ∃ a b, x = .str a ∧ xs = [.str b] ∧ (b.length == 0) = false ∧ a.length + 2 ≤ sizeLine ∧ rNewStrs (Txt.split a b) H Q
def rMax2 : List V → Hp → VK → Prop := fun xs H Q => ∃ i j, xs = [.int i, .int j] ∧ Q (.int (if j > i then j else i)) H
def rMin2 : List V → Hp → VK → Prop := fun xs H Q => ∃ i j, xs = [.int i, .int j] ∧ Q (.int (if j < i then j else i)) H
def rIsN : R2 := fun x y H Q => y = .non ∧ Q (.bl (decide (x = .non))) H
def rNotN : R2 := fun x y H Q => y = .non ∧ Q (.bl (!decide (x = .non))) H
def rLst (K : PySem.W.Frag) : List V → Hp → VK → Prop := fun xs H Q => ∃ p ys, xs = [.ref p] ∧ (SqL K H p ys ∨ SqT K H p ys) ∧ ∀ l, H l = none → Q (.ref l) (upd H l (.lst ys))
def rTpl (K : PySem.W.Frag) : List V → Hp → VK → Prop := fun xs H Q => ∃ p ys, xs = [.ref p] ∧ ((SqL K H p ys ∧ ∀ l, H l = none → Q (.ref l) (upd H l (.tup ys))) ∨ (SqT K H p ys ∧ Q (.ref p) H))
def rInt1 : List V → Hp → VK → Prop := fun xs H Q => (∃ i, xs = [V.int i] ∧ Q (V.int i) H) ∨ ∃ k, xs = [V.bl k] ∧ Q (V.int (if k = true then 1 else 0)) H
def rStrI : List V → Hp → VK → Prop := fun xs H Q => ∃ i : Int, xs = [.int i] ∧ i.natAbs.log2 < 1920 ∧ Q (.str (toString i)) H
def rAddS : R2 := fun x y H Q => ∃ i j, x = .str i ∧ y = .str j ∧ i.length + j.length ≤ sizeLine ∧ Q (.str (i ++ j)) H
def rLenStr : List V → Hp → VK → Prop := fun xs H Q => ∃ z, xs = [.str z] ∧ z.length ≤ sizeLine ∧ Q (.int z.length) H
end Rd
section
variable {X : Cx} {o e : Expr} {to te : TE} {K : PySem.W.Frag}
theorem pe_fldK {f : Str} {pos : Pos} {ta : TE} (he : PE X e ta) (hb : attributeBase e f X.env (eval e X.env) = eval e X.env) (hK : X.K = K := by rfl) : PE X (.Attribute e f pos) (tFld K ta f) := hK ▸ pe_fld he hb
theorem repTK (hK : X.K = K := by rfl) : OpR X (binaryOp .Mult) (rRepT K) := hK ▸ op_repT
theorem starAK {e : Expr} {p : Pos} {es : List Expr} {te : TE} {t : TA} (he : PE X e te) (hr : PA X es t) (hK : X.K = K := by rfl) (hs : starEach (.Starred e p :: es) X.env = (true, eval e X.env) :: starEach es X.env := by rfl) : PA X (.Starred e p :: es) (StX.tStar K te t) := hK ▸ StX.pa_star he hr hs
theorem ixLK (hK : X.K = K := by rfl) : IxR X (rIxL K) := hK ▸ ix_list
theorem ixTK (hK : X.K = K := by rfl) : IxR X (rIxT K) := hK ▸ ix_tup
theorem ixSK (hK : X.K = K := by rfl) : IxR X (rIx K) := hK ▸ ix_seq
theorem lenK (hK : X.K = K := by rfl) : CallR X (.builtin "len") (Evl.rLenS K) := hK ▸ call_len_seq
theorem tplK (hK : X.K = K := by rfl) : CallR X (.type "tuple") (Rd.rTpl K) := hK ▸ call_tuple_of
theorem lstK (hK : X.K = K := by rfl) : CallR X (.type "list") (Rd.rLst K) := hK ▸ call_list_of
theorem slLK (hK : X.K = K := by rfl) : SlR X (rSlL K) := hK ▸ sl_list
theorem slAK (hK : X.K = K := by rfl) : SlR X (rSlA K) := hK ▸ sl_tupA
theorem eqDK (hu : X.A.units + 64 < cLine) (hK : X.K = K := by rfl) : OpR X (compareOp .Eq) (rEqD K) := hK ▸ op_eqD hu
theorem neDK (hu : X.A.units + 64 < cLine) (hK : X.K = K := by rfl) : OpR X (compareOp .NotEq) (rNeD K) := hK ▸ op_neD hu
theorem inK (hK : X.K = K := by rfl) : OpR X (compareOp .In) (rIn K false) := hK ▸ op_in_seq
theorem notInK (hK : X.K = K := by rfl) : OpR X (compareOp .NotIn) (rIn K true) := hK ▸ op_notIn_seq
theorem sumTK (hc : X.calm = true := by rfl) (hK : X.K = K := by rfl) : CallR X (.builtin "sum") (rSumT K) := hK ▸ cr_sumT hc
theorem sumLK (hc : X.calm = true := by rfl) (hK : X.K = K := by rfl) : CallR X (.builtin "sum") (rSum K) := hK ▸ cr_sum hc
theorem maxLK (hc : X.calm = true := by rfl) (hK : X.K = K := by rfl) : CallR X (.builtin "max") (rMax K) := hK ▸ cr_max hc
theorem minLK (hc : X.calm = true := by rfl) (hK : X.K = K := by rfl) : CallR X (.builtin "min") (rMin K) := hK ▸ cr_min hc
theorem allLK (hc : X.calm = true := by rfl) (hK : X.K = K := by rfl) : CallR X (.builtin "all") (rAll K) := hK ▸ cr_all hc
theorem isiK (hK : X.K = K := by rfl) : CallR X (.builtin "isinstance") (rIsi K) := hK ▸ call_isi
theorem catAK (hK : X.K = K := by rfl) : OpR X (binaryOp .Add) (rCatA K) := hK ▸ op_catA
theorem pi_listK {tg l : Expr} {tl : TE} (hl : PE X l tl) (hK : X.K = K := by rfl) : PI X tg l (iList K tl) := hK ▸ pi_list hl
theorem pi_tupK {tg l : Expr} {tl : TE} (hl : PE X l tl) (hK : X.K = K := by rfl) : PI X tg l (iTup K tl) := hK ▸ pi_tup hl
theorem pe_joinR {apos pos : Pos} (ho : PE X o to) (he : PE X e te) (hK : X.K = K := by rfl) (hs : starEach [e] X.env = [(false, eval e X.env)] := by rfl) (hbase : attributeBase o "join" X.env (eval o X.env) = eval o X.env := by rfl) (hline : (apos.endLine == pos.line) = true := by rfl) :
    PE X (.Call (.Attribute o "join" apos) [e] [] pos) (tM1 (Rd.rJoin K) to te) := by
  subst hK
  exact pe_join ho he hs hbase hline
theorem pe_splitR {apos pos : Pos} (ho : PE X o to) (he : PE X e te) (hs : starEach [e] X.env = [(false, eval e X.env)] := by rfl) (hbase : attributeBase o "split" X.env (eval o X.env) = eval o X.env := by rfl) (hline : (apos.endLine == pos.line) = true := by rfl) :
    PE X (.Call (.Attribute o "split" apos) [e] [] pos) (tM1 Rd.rSplit to te) := pe_split ho he hs hbase hline
end
/-! small words -/
theorem own_cx {X : Cx} {K : Value → Shared → Prop} {E₁ : Value → Shared → Prop} (hx : X.xe = fun e s' => wpAny (model X.prog X.w) X.A (leaving X.env e) (fun _ s'' => K e s'') E₁ s' := by rfl) : PassesOwn (model X.prog X.w) X.A X.env X.xe := passes_of hx
theorem FnP.okF {P : Program} {w : World} {K : PySem.W.Frag} {mg : Str → Option Value} {base : Heap} {x qual : Str} {st : Stmt} {f : Addr} {N ps : List Str} {k : Nat} {sp : Sp} (F : ∃ fd, FnP K x qual st f fd) (S : FnScope N ps (defScope st))
    (hb : ∀ (kV doc pm : Value) (an : Option Addr) (cdv ct : Value) (us : List Value), us.length = ps.length → bindArgs (PySem.W.fnOf x qual (defArgs st) (defBody st) (defScope st) .none kV doc pm an cdv ct) ⟨us, []⟩ = pure (ps.zip us))
    (len : ∀ vs H Q E, sp vs H Q E → vs.length = ps.length)
    (hbody : ∀ (cdv : Value) (A : Around) (outer : List Env) (s : Shared) (H : Hp) (vs : List V) (Q : VK) (E : XK), Room k (A.deeper (envOfC qual (defScope st) s.heap.objs.size f cdv)) → sp vs H Q E →
      ∃ t, PSs (cxOf (L2.CX P w) P w K mg base N qual (defScope st) f cdv A outer s H E) (defBody st) t ∧ t { nx := fun _ H' => Q .non H', rt := Q } (start N vs) H) : OkF P w K mg base (k + 1) f ps sp := by
  obtain ⟨fd, F⟩ := F
  exact ⟨⟨fd, F.ok S len hbody, F.bindsN hb⟩, F.kp⟩
/-- the law's own def: nothing leaves it -/
theorem okLaw {P : Program} {w : World} {K : PySem.W.Frag} {mg : Str → Option Value} {base : Heap} {x qual : Str} {st : Stmt} {f : Addr} {fd : FuncData} {N ps : List Str} {k : Nat} {sp : Sp} (F : FnP K x qual st f fd) (S : FnScope N ps (defScope st)) (len : ∀ vs H Q E, sp vs H Q E → vs.length = ps.length)
    (hbody : ∀ (cdv : Value) (A : Around) (outer : List Env) (s : Shared) (H : Hp) (vs : List V) (Q : VK) (E : XK), Room k (A.deeper (envOfC qual (defScope st) s.heap.objs.size f cdv)) → sp vs H Q E →
      ∃ t, PSs (cxOf CX0 P w K mg base N qual (defScope st) f cdv A outer s H E).nox (defBody st) t ∧ t { nx := fun _ H' => Q .non H', rt := Q } (start N vs) H) : FnOk P w K mg base CX0 (k + 1) f fd ps sp :=
  F.ok S len fun cdv A outer s H vs Q E hr h => by
    obtain ⟨t, h1, h2⟩ := hbody cdv A outer s H vs Q E hr h
    exact ⟨t, h1.nox, h2⟩
def spLaw (K : PySem.W.Frag) : Sp := fun vs H Q _ => ∃ (a : Addr) (ns : List Int), vs = [.ref a] ∧ SqL K H a (ns.map V.int) ∧ ns.length ≤ 63 ∧ ∀ H', Q (.bl true) H'
/-- the same, the tables of the defs that make functions there -/
def spLawT (K : PySem.W.Frag) (T : List (Addr × Str)) : Sp := fun vs H Q _ => ∃ (a : Addr) (ns : List Int), vs = [.ref a] ∧ SqL K H a (ns.map V.int) ∧ ns.length ≤ 63 ∧ LamX.Tabs T H ∧ ∀ H', Q (.bl true) H'
/-- all but what stands at d is as it was -/
def But (d : Addr) (H H' : Hp) : Prop := ∀ b o, b ≠ d → H b = some o → H' b = some o
end Tk
/-! ### Error classes: what is looked at -/
namespace Tk
open PySem PySem.Spec PyProof.Rows L2
namespace Ex
/-- what the written part says of the class beside OexC: of super().__init__ -/
structure SupC (K : PySem.W.Frag) (C : Addr) : Prop where
  oex : OexC K C
  up : PySem.W.ks_superIn K C C "__init__" = some (some (.builtin "ValueError.__init__"))
  op : PySem.W.nsIn K cStatics "thirdparty.any" = some none
  self : PySem.W.subIn K (.ref C) (.ref C) = some true
  ve : PySem.W.subIn K (.ref C) (.type "ValueError") = some true
def oexB (K : PySem.W.Frag) (C : Addr) : Bool := (match K.lookup C with
  | some ⟨.type "type", _, .cls cd, sl⟩ => (match cd.mro, sl.toList with
    | .ref C' :: bm, [_, _, _, _, some (.builtin n), _] => decide (C' = C) && (decide (n = "ValueError.__new__") && (PySem.HandSPX.refsVE bm && (cd.hasDict && !cd.hasDel)))
    | _, _ => false)
  | _ => false) && (decide (PySem.W.findIn K (.ref C) "__setattr__" = some (some (.builtin "object.__setattr__"))) && (decide (PySem.W.subIn K (.ref C) (.type "BaseException") = some true) && (decide (PySem.W.typeIn K (.ref C) = some (.type "type")) && PySem.W.keepIn K (.ref C))))
theorem oexB_ok {K : PySem.W.Frag} {C : Addr} (h : oexB K C = true) : OexC K C := by
  obtain ⟨h1, h⟩ := He.ba h
  obtain ⟨h2, h⟩ := He.ba h
  obtain ⟨h3, h⟩ := He.ba h
  obtain ⟨h4, h5⟩ := He.ba h
  refine ⟨?_, of_decide_eq_true h2, of_decide_eq_true h3, of_decide_eq_true h4, h5⟩
  split at h1
  · rename_i dd cd sl ho
    split at h1
    · rename_i C' bm k0 k1 k2 k3 n k5 hm hs
      obtain ⟨e1, h1⟩ := He.ba h1
      obtain ⟨e2, h1⟩ := He.ba h1
      obtain ⟨e3, h1⟩ := He.ba h1
      obtain ⟨e4, e5⟩ := He.ba h1
      obtain rfl := of_decide_eq_true e1
      obtain rfl := of_decide_eq_true e2
      obtain ⟨nm, bs, mro, ns, qn, hd, sn, sub, ab, col, del⟩ := cd
      dsimp only at hm e4 e5
      subst hm e4
      have e5 : del = false := by
        cases del with
        | true => cases e5
        | false => rfl
      subst e5
      have hsl : sl = #[k0, k1, k2, k3, some (.builtin "ValueError.__new__"), k5] := by
        obtain ⟨l⟩ := sl
        simp only at hs
        rw [hs]
      subst hsl
      exact ⟨nm, qn, ns, bs, bm, sn, sub, ab, col, dd, k0, k1, k2, k3, k5, ho, e3⟩
    · cases h1
  · cases h1
/-- a class with an own __init__ that says super().__init__(..), the attributes fs -/
def supB (x : Str) (fs : List Str) (K : PySem.W.Frag) : Bool := oexB K (He.ga K x) && (decide (PySem.W.ks_superIn K (He.ga K x) (He.ga K x) "__init__" = some (some (.builtin "ValueError.__init__"))) && (decide (PySem.W.nsIn K cStatics "thirdparty.any" = some none) &&
  (decide (PySem.W.subIn K (.ref (He.ga K x)) (.ref (He.ga K x)) = some true) && (decide (PySem.W.subIn K (.ref (He.ga K x)) (.type "ValueError") = some true) && (decide (PySem.W.findIn K (.ref (He.ga K x)) "__init__" = some (some (.ref (He.ma K (He.ga K x) "__init__")))) &&
    (decide (PySem.W.typeIn K (.ref (He.ma K (He.ga K x) "__init__")) = some (.type "function")) && fs.all fun f => decide (PySem.W.findIn K (.ref (He.ga K x)) f = some none)))))))
structure SupX (K : PySem.W.Frag) (x : Str) (fs : List Str) : Prop where
  sup : SupC K (He.ga K x)
  iC : PySem.W.findIn K (.ref (He.ga K x)) "__init__" = some (some (.ref (He.ma K (He.ga K x) "__init__")))
  tI : PySem.W.typeIn K (.ref (He.ma K (He.ga K x) "__init__")) = some (.type "function")
  no : ∀ f ∈ fs, PySem.W.findIn K (.ref (He.ga K x)) f = some none
theorem supB_ok {x : Str} {fs : List Str} {K : PySem.W.Frag} (h : supB x fs K = true) : SupX K x fs := by
  obtain ⟨h1, h⟩ := He.ba h
  obtain ⟨h2, h⟩ := He.ba h
  obtain ⟨h3, h⟩ := He.ba h
  obtain ⟨h4, h⟩ := He.ba h
  obtain ⟨h5, h⟩ := He.ba h
  obtain ⟨h6, h⟩ := He.ba h
  obtain ⟨h7, h8⟩ := He.ba h
  exact ⟨⟨oexB_ok h1, of_decide_eq_true h2, of_decide_eq_true h3, of_decide_eq_true h4, of_decide_eq_true h5⟩, of_decide_eq_true h6, of_decide_eq_true h7, fun f hf => of_decide_eq_true (List.all_eq_true.mp h8 f hf)⟩
/-- what every error class says, so that isinstance and the reading of its attributes go -/
def isB (x : Str) (K : PySem.W.Frag) : Bool := (PySem.W.clsIn K (He.ga K x)).isSome && (decide (PySem.W.findIn K (.ref (He.ga K x)) "__getattribute__" = some (some (.builtin "BaseException.__getattribute__"))) && (decide (PySem.W.findIn K (.ref (He.ga K x)) "__getattr__" = some none) &&
  (decide (PySem.W.subIn K (.ref (He.ga K x)) (.type "BaseException") = some true) && (decide (PySem.W.findIn K (.ref (He.ga K x)) "__class__" = some (some (.builtin "object.__class__"))) && (decide (PySem.W.specialIn K (.builtin "object.__class__") "__get__" = some (some (.builtin "getset_descriptor.__get__"))) &&
    (decide (PySem.W.takesIn K (.builtin "object.__class__") = some true) && (decide (PySem.W.mroIn K (He.ga K x) (.type "object") = some true) && PySem.W.hasDictIn K (He.ga K x))))))))
structure IsX (K : PySem.W.Frag) (C : Addr) : Prop where
  cl : (PySem.W.clsIn K C).isSome = true
  hg : PySem.W.findIn K (.ref C) "__getattribute__" = some (some (.builtin "BaseException.__getattribute__"))
  hk : PySem.W.findIn K (.ref C) "__getattr__" = some none
  hs : PySem.W.subIn K (.ref C) (.type "BaseException") = some true
  ha : PySem.W.findIn K (.ref C) "__class__" = some (some (.builtin "object.__class__"))
  hn : PySem.W.specialIn K (.builtin "object.__class__") "__get__" = some (some (.builtin "getset_descriptor.__get__"))
  ht : PySem.W.takesIn K (.builtin "object.__class__") = some true
  hm : PySem.W.mroIn K C (.type "object") = some true
  hd : PySem.W.hasDictIn K C = true
theorem isB_ok {x : Str} {K : PySem.W.Frag} (h : isB x K = true) : IsX K (He.ga K x) := by
  obtain ⟨h1, h⟩ := He.ba h
  obtain ⟨h2, h⟩ := He.ba h
  obtain ⟨h3, h⟩ := He.ba h
  obtain ⟨h4, h⟩ := He.ba h
  obtain ⟨h5, h⟩ := He.ba h
  obtain ⟨h6, h⟩ := He.ba h
  obtain ⟨h7, h⟩ := He.ba h
  obtain ⟨h8, h9⟩ := He.ba h
  exact ⟨h1, of_decide_eq_true h2, of_decide_eq_true h3, of_decide_eq_true h4, of_decide_eq_true h5, of_decide_eq_true h6, of_decide_eq_true h7, of_decide_eq_true h8, h9⟩
/-- which is an instance of which -/
def kitB (xs : List Str) (K : PySem.W.Frag) : Bool := xs.all fun x => decide (PySem.W.kitOne K (.ref (He.ga K x)) (.type "ValueError") = some true) && xs.all fun y => decide (PySem.W.kitOne K (.ref (He.ga K x)) (.ref (He.ga K y)) = some (decide (x = y)))
structure KitX (xs : List Str) (K : PySem.W.Frag) : Prop where
  ve : ∀ x ∈ xs, PySem.W.kitOne K (.ref (He.ga K x)) (.type "ValueError") = some true
  two : ∀ x ∈ xs, ∀ y ∈ xs, PySem.W.kitOne K (.ref (He.ga K x)) (.ref (He.ga K y)) = some (decide (x = y))
theorem kitB_ok {xs : List Str} {K : PySem.W.Frag} (h : kitB xs K = true) : KitX xs K :=
  ⟨fun x hx => of_decide_eq_true (He.ba (List.all_eq_true.mp h x hx)).1, fun x hx y hy => of_decide_eq_true (List.all_eq_true.mp (He.ba (List.all_eq_true.mp h x hx)).2 y hy)⟩
def InitAt (K : PySem.W.Frag) (a C : Addr) (qual : Str) (params : Arguments) (body : List Stmt) (scope : Scope) (file : Str) : Prop := PySem.W.keepIn K (.ref a) = true ∧
    ∃ (od : Option Addr) (doc pm ctv : Value) (an : Option Addr) (osl : Array (Option Value)) (c cc : Addr) (oc ocl : Obj) (vs : Array Value) (tf : Tok),
      K.lookup a = some ⟨.type "function", od, .func (PySem.W.fnX "__init__" qual params body scope [("__class__", cc)] .none .none doc pm an (.ref c) ctv), osl⟩ ∧ PySem.W.codeIn K (.ref c) qual = true ∧
        K.lookup c = some oc ∧ oc.data = .fields vs ∧ vs[2]? = some (.str file tf) ∧ K.lookup cc = some ocl ∧ ocl.data = .cell (some (.ref C))
end Ex
end Tk
/-! ### B. The text by places -/
namespace Tk
open PySem PySem.Spec PyProof.Rows L2
def top (i : Nat) : Stmt := PySem.Challenge.pw_ticketwrap_k17_planned_calls.main.body.getD i (.Pass ⟨0, 0, 0, 0⟩)
abbrev s_is_integer_within : Stmt := top 9
abbrev N_is_integer_within : List Str := ["value", "low", "high"]
theorem sc_is_integer_within : FnScope N_is_integer_within ["value", "low", "high"] (defScope s_is_integer_within) := ⟨rfl, rfl, rfl, by decide +kernel, rfl, by decide +kernel, by decide +kernel⟩
abbrev s_check_tick : Stmt := top 10
abbrev N_check_tick : List Str := ["tick"]
theorem sc_check_tick : FnScope N_check_tick ["tick"] (defScope s_check_tick) := ⟨rfl, rfl, rfl, by decide +kernel, rfl, by decide +kernel, by decide +kernel⟩
abbrev s_count_open : Stmt := top 12
abbrev N_count_open : List Str := ["hall", "tick", "lateness"]
theorem sc_count_open : FnScope N_count_open ["hall", "tick", "lateness"] (defScope s_count_open) := ⟨rfl, rfl, rfl, by decide +kernel, rfl, by decide +kernel, by decide +kernel⟩
abbrev s_most_open_with : Stmt := top 13
abbrev N_most_open_with : List Str := ["hall", "lateness", "start", "tick"]
theorem sc_most_open_with : FnScope N_most_open_with ["hall", "lateness"] (defScope s_most_open_with) := ⟨rfl, rfl, rfl, by decide +kernel, rfl, by decide +kernel, by decide +kernel⟩
abbrev s_most_open : Stmt := top 14
abbrev N_most_open : List Str := ["hall"]
theorem sc_most_open : FnScope N_most_open ["hall"] (defScope s_most_open) := ⟨rfl, rfl, rfl, by decide +kernel, rfl, by decide +kernel, by decide +kernel⟩
abbrev s_first_invalid_item : Stmt := top 21
abbrev N_first_invalid_item : List Str := ["pattern", "index", "item"]
theorem sc_first_invalid_item : FnScope N_first_invalid_item ["pattern"] (defScope s_first_invalid_item) := ⟨rfl, rfl, rfl, by decide +kernel, rfl, by decide +kernel, by decide +kernel⟩
abbrev s_check_pattern : Stmt := top 22
abbrev N_check_pattern : List Str := ["part", "pattern", "index"]
theorem sc_check_pattern : FnScope N_check_pattern ["part", "pattern"] (defScope s_check_pattern) := ⟨rfl, rfl, rfl, by decide +kernel, rfl, by decide +kernel, by decide +kernel⟩
abbrev s_check_hall : Stmt := top 23
abbrev N_check_hall : List Str := ["modulus", "takes", "calls", "lateness"]
theorem sc_check_hall : FnScope N_check_hall ["modulus", "takes", "calls", "lateness"] (defScope s_check_hall) := ⟨rfl, rfl, rfl, by decide +kernel, rfl, by decide +kernel, by decide +kernel⟩
abbrev s_count_calls : Stmt := top 24
abbrev N_count_calls : List Str := ["takes", "calls", "ticks", "called", "waiting", "tick", "now"]
theorem sc_count_calls : FnScope N_count_calls ["takes", "calls", "ticks"] (defScope s_count_calls) := ⟨rfl, rfl, rfl, by decide +kernel, rfl, by decide +kernel, by decide +kernel⟩
abbrev s_init : Stmt := inClass (top 25) 0
abbrev N_init : List Str := ["self", "modulus", "takes", "calls", "lateness"]
theorem sc_init : FnScope N_init ["self", "modulus", "takes", "calls", "lateness"] (defScope s_init) := ⟨rfl, rfl, rfl, by decide +kernel, rfl, by decide +kernel, by decide +kernel⟩
abbrev s_period : Stmt := inClass (top 25) 1
abbrev N_period : List Str := ["self"]
theorem sc_period : FnScope N_period ["self"] (defScope s_period) := ⟨rfl, rfl, rfl, by decide +kernel, rfl, by decide +kernel, by decide +kernel⟩
abbrev s_growth : Stmt := inClass (top 25) 2
abbrev N_growth : List Str := ["self"]
theorem sc_growth : FnScope N_growth ["self"] (defScope s_growth) := ⟨rfl, rfl, rfl, by decide +kernel, rfl, by decide +kernel, by decide +kernel⟩
abbrev s_taken : Stmt := inClass (top 25) 3
abbrev N_taken : List Str := ["self", "tick", "rounds", "rest"]
theorem sc_taken : FnScope N_taken ["self", "tick"] (defScope s_taken) := ⟨rfl, rfl, rfl, by decide +kernel, rfl, by decide +kernel, by decide +kernel⟩
abbrev s_called : Stmt := inClass (top 25) 4
abbrev N_called : List Str := ["self", "tick", "period", "skipped", "in_period"]
theorem sc_called : FnScope N_called ["self", "tick"] (defScope s_called) := ⟨rfl, rfl, rfl, by decide +kernel, rfl, by decide +kernel, by decide +kernel⟩
abbrev s_waiting : Stmt := inClass (top 25) 5
abbrev N_waiting : List Str := ["self", "tick"]
theorem sc_waiting : FnScope N_waiting ["self", "tick"] (defScope s_waiting) := ⟨rfl, rfl, rfl, by decide +kernel, rfl, by decide +kernel, by decide +kernel⟩
abbrev s_never_clashes : Stmt := top 28
abbrev N_never_clashes : List Str := ["hall", "most"]
theorem sc_never_clashes : FnScope N_never_clashes ["hall"] (defScope s_never_clashes) := ⟨rfl, rfl, rfl, by decide +kernel, rfl, by decide +kernel, by decide +kernel⟩
abbrev s_with_calls_at : Stmt := top 29
abbrev N_with_calls_at : List Str := ["hall", "plan", "calls", "place", "item"]
theorem sc_with_calls_at : FnScope N_with_calls_at ["hall", "plan"] (defScope s_with_calls_at) := ⟨rfl, rfl, rfl, by decide +kernel, rfl, by decide +kernel, by decide +kernel⟩
abbrev s_last_place : Stmt := top 30
abbrev N_last_place : List Str := ["plan"]
theorem sc_last_place : FnScope N_last_place ["plan"] (defScope s_last_place) := ⟨rfl, rfl, rfl, by decide +kernel, rfl, by decide +kernel, by decide +kernel⟩
abbrev s_longer_plans : Stmt := top 31
abbrev N_longer_plans : List Str := ["calls", "plans", "plan", "place"]
theorem sc_longer_plans : FnScope N_longer_plans ["calls", "plans"] (defScope s_longer_plans) := ⟨rfl, rfl, rfl, by decide +kernel, rfl, by decide +kernel, by decide +kernel⟩
abbrev s_plan_calls : Stmt := top 32
abbrev N_plan_calls : List Str := ["hall", "limit", "plans", "_", "plan"]
theorem sc_plan_calls : FnScope N_plan_calls ["hall", "limit"] (defScope s_plan_calls) := ⟨rfl, rfl, rfl, by decide +kernel, rfl, by decide +kernel, by decide +kernel⟩
abbrev s__law_random : Stmt := top 34
abbrev N__law_random : List Str := ["_law_script", "_law_salt", "_law_seed", "_law_cell"]
theorem sc__law_random : FnScope N__law_random ["_law_script", "_law_salt"] (defScope s__law_random) := ⟨rfl, rfl, rfl, by decide +kernel, rfl, by decide +kernel, by decide +kernel⟩
abbrev s__law_below : Stmt := top 35
abbrev N__law_below : List Str := ["_law_d", "_law_limit", "_law_result"]
theorem sc__law_below : FnScope N__law_below ["_law_d", "_law_limit"] (defScope s__law_below) := ⟨rfl, rfl, rfl, by decide +kernel, rfl, by decide +kernel, by decide +kernel⟩
abbrev s__law_pattern : Stmt := top 36
abbrev N__law_pattern : List Str := ["_law_d", "_law_most_here", "_law_high", "_law_k"]
theorem sc__law_pattern : FnScope N__law_pattern ["_law_d", "_law_most_here"] (defScope s__law_pattern) := ⟨rfl, rfl, rfl, by decide +kernel, rfl, by decide +kernel, by decide +kernel⟩
abbrev s__law_small : Stmt := top 37
abbrev N__law_small : List Str := ["_law_d"]
theorem sc__law_small : FnScope N__law_small ["_law_d"] (defScope s__law_small) := ⟨rfl, rfl, rfl, by decide +kernel, rfl, by decide +kernel, by decide +kernel⟩
abbrev s__law_length : Stmt := top 38
abbrev N__law_length : List Str := ["_law_parts", "_law_length_here"]
theorem sc__law_length : FnScope N__law_length ["_law_parts"] (defScope s__law_length) := ⟨rfl, rfl, rfl, by decide +kernel, rfl, by decide +kernel, by decide +kernel⟩
abbrev s__law_counts : Stmt := top 39
abbrev N__law_counts : List Str := ["_law_parts", "_law_ticks", "_law_taken", "_law_called", "_law_tick"]
theorem sc__law_counts : FnScope N__law_counts ["_law_parts", "_law_ticks"] (defScope s__law_counts) := ⟨rfl, rfl, rfl, by decide +kernel, rfl, by decide +kernel, by decide +kernel⟩
abbrev s__law_opens : Stmt := top 40
abbrev N__law_opens : List Str := ["_law_parts", "_law_ticks", "_law_taken", "_law_called", "_law_tick"]
theorem sc__law_opens : FnScope N__law_opens ["_law_parts", "_law_ticks"] (defScope s__law_opens) := ⟨rfl, rfl, rfl, by decide +kernel, rfl, by decide +kernel, by decide +kernel⟩
abbrev s__law_most : Stmt := top 41
abbrev N__law_most : List Str := ["_law_parts", "_law_length_here", "_law_first", "_law_end"]
theorem sc__law_most : FnScope N__law_most ["_law_parts"] (defScope s__law_most) := ⟨rfl, rfl, rfl, by decide +kernel, rfl, by decide +kernel, by decide +kernel⟩
abbrev s__law_equal : Stmt := top 42
abbrev N__law_equal : List Str := ["_law_actual", "_law_expected", "_law_k"]
theorem sc__law_equal : FnScope N__law_equal ["_law_actual", "_law_expected"] (defScope s__law_equal) := ⟨rfl, rfl, rfl, by decide +kernel, rfl, by decide +kernel, by decide +kernel⟩
abbrev s__law_hall : Stmt := top 43
abbrev N__law_hall : List Str := ["_law_parts"]
theorem sc__law_hall : FnScope N__law_hall ["_law_parts"] (defScope s__law_hall) := ⟨rfl, rfl, rfl, by decide +kernel, rfl, by decide +kernel, by decide +kernel⟩
abbrev s_law : Stmt := top 44
abbrev N_law : List Str := ["_law_script", "_law_d", "_law_step", "_law_parts", "_law_limit", "_law_layers", "_law_added", "_law_longer", "_law_places", "_law_first", "_law_expected", "_law_layer", "_law_calls", "_law_most_here", "_law_k", "_law_place"]
theorem sc_law : FnScope N_law ["_law_script"] (defScope s_law) := ⟨rfl, rfl, rfl, by decide +kernel, rfl, by decide +kernel, by decide +kernel⟩
structure Txt (K : PySem.W.Frag) (mg : Str → Option Value) : Prop where
  g_abs : mg "abs" = none
  g_all : mg "all" = none
  g_bool : mg "bool" = none
  g_divmod : mg "divmod" = none
  g_enumerate : mg "enumerate" = none
  g_int : mg "int" = none
  g_isinstance : mg "isinstance" = none
  g_len : mg "len" = none
  g_list : mg "list" = none
  g_max : mg "max" = none
  g_min : mg "min" = none
  g_range : mg "range" = none
  g_str : mg "str" = none
  g_sum : mg "sum" = none
  g_tuple : mg "tuple" = none
  g_lcm : mg "lcm" = some (.builtin "math.lcm")
  c_LAST_TICK : ∃ t, mg "LAST_TICK" = some (.int 1000000000000000000 t)
  c_LEAST_MODULUS : ∃ t, mg "LEAST_MODULUS" = some (.int 2 t)
  c_GREATEST_MODULUS : ∃ t, mg "GREATEST_MODULUS" = some (.int 10000 t)
  c_MOST_ITEMS : ∃ t, mg "MOST_ITEMS" = some (.int 12 t)
  c_GREATEST_ITEM : ∃ t, mg "GREATEST_ITEM" = some (.int 9 t)
  c_GREATEST_LATENESS : ∃ t, mg "GREATEST_LATENESS" = some (.int 99 t)
  c_MOST_PLACES : ∃ t, mg "MOST_PLACES" = some (.int 4 t)
  g_is_integer_within : mg "is_integer_within" = some (.ref (He.ga K "is_integer_within"))
  g_check_tick : mg "check_tick" = some (.ref (He.ga K "check_tick"))
  g_count_open : mg "count_open" = some (.ref (He.ga K "count_open"))
  g_most_open_with : mg "most_open_with" = some (.ref (He.ga K "most_open_with"))
  g_most_open : mg "most_open" = some (.ref (He.ga K "most_open"))
  g_first_invalid_item : mg "first_invalid_item" = some (.ref (He.ga K "first_invalid_item"))
  g_check_pattern : mg "check_pattern" = some (.ref (He.ga K "check_pattern"))
  g_check_hall : mg "check_hall" = some (.ref (He.ga K "check_hall"))
  g_count_calls : mg "count_calls" = some (.ref (He.ga K "count_calls"))
  g_never_clashes : mg "never_clashes" = some (.ref (He.ga K "never_clashes"))
  g_with_calls_at : mg "with_calls_at" = some (.ref (He.ga K "with_calls_at"))
  g_last_place : mg "last_place" = some (.ref (He.ga K "last_place"))
  g_longer_plans : mg "longer_plans" = some (.ref (He.ga K "longer_plans"))
  g_plan_calls : mg "plan_calls" = some (.ref (He.ga K "plan_calls"))
  g__law_random : mg "_law_random" = some (.ref (He.ga K "_law_random"))
  g__law_below : mg "_law_below" = some (.ref (He.ga K "_law_below"))
  g__law_pattern : mg "_law_pattern" = some (.ref (He.ga K "_law_pattern"))
  g__law_small : mg "_law_small" = some (.ref (He.ga K "_law_small"))
  g__law_length : mg "_law_length" = some (.ref (He.ga K "_law_length"))
  g__law_counts : mg "_law_counts" = some (.ref (He.ga K "_law_counts"))
  g__law_opens : mg "_law_opens" = some (.ref (He.ga K "_law_opens"))
  g__law_most : mg "_law_most" = some (.ref (He.ga K "_law_most"))
  g__law_equal : mg "_law_equal" = some (.ref (He.ga K "_law_equal"))
  g__law_hall : mg "_law_hall" = some (.ref (He.ga K "_law_hall"))
  g_Hall : mg "Hall" = some (.ref (He.ga K "Hall"))
  cl_Hall : Cls K (He.ga K "Hall")
  mk_Hall : Mk K (He.ga K "Hall") (He.ma K (He.ga K "Hall") "__init__")
  n_modulus : NoAttr K (He.ga K "Hall") "modulus"
  n_takes : NoAttr K (He.ga K "Hall") "takes"
  n_calls : NoAttr K (He.ga K "Hall") "calls"
  n_lateness : NoAttr K (He.ga K "Hall") "lateness"
  n__called : NoAttr K (He.ga K "Hall") "_called"
  p_period : PropOf K (He.ga K "Hall") "period" (propAt K (He.ga K "Hall") "period") (getAt K (He.ga K "Hall") "period")
  p_growth : PropOf K (He.ga K "Hall") "growth" (propAt K (He.ga K "Hall") "growth") (getAt K (He.ga K "Hall") "growth")
  m_taken : Meth K (He.ga K "Hall") "taken" (He.ma K (He.ga K "Hall") "taken")
  m_called : Meth K (He.ga K "Hall") "called" (He.ma K (He.ga K "Hall") "called")
  m_waiting : Meth K (He.ga K "Hall") "waiting" (He.ma K (He.ga K "Hall") "waiting")
  f_is_integer_within : ∃ fd, FnP K "is_integer_within" "is_integer_within" s_is_integer_within (He.ga K "is_integer_within") fd
  f_check_tick : ∃ fd, FnP K "check_tick" "check_tick" s_check_tick (He.ga K "check_tick") fd
  f_count_open : ∃ fd, FnP K "count_open" "count_open" s_count_open (He.ga K "count_open") fd
  f_most_open_with : ∃ fd, FnP K "most_open_with" "most_open_with" s_most_open_with (He.ga K "most_open_with") fd
  f_most_open : ∃ fd, FnP K "most_open" "most_open" s_most_open (He.ga K "most_open") fd
  f_first_invalid_item : ∃ fd, FnP K "first_invalid_item" "first_invalid_item" s_first_invalid_item (He.ga K "first_invalid_item") fd
  f_check_pattern : ∃ fd, FnP K "check_pattern" "check_pattern" s_check_pattern (He.ga K "check_pattern") fd
  f_check_hall : ∃ fd, FnP K "check_hall" "check_hall" s_check_hall (He.ga K "check_hall") fd
  f_count_calls : ∃ fd, FnP K "count_calls" "count_calls" s_count_calls (He.ga K "count_calls") fd
  f_init : ∃ fd, FnP K "__init__" "Hall.__init__" s_init (He.ma K (He.ga K "Hall") "__init__") fd
  f_period : ∃ fd, FnP K "period" "Hall.period" s_period (getAt K (He.ga K "Hall") "period") fd
  f_growth : ∃ fd, FnP K "growth" "Hall.growth" s_growth (getAt K (He.ga K "Hall") "growth") fd
  f_taken : ∃ fd, FnP K "taken" "Hall.taken" s_taken (He.ma K (He.ga K "Hall") "taken") fd
  f_called : ∃ fd, FnP K "called" "Hall.called" s_called (He.ma K (He.ga K "Hall") "called") fd
  f_waiting : ∃ fd, FnP K "waiting" "Hall.waiting" s_waiting (He.ma K (He.ga K "Hall") "waiting") fd
  f_never_clashes : ∃ fd, FnP K "never_clashes" "never_clashes" s_never_clashes (He.ga K "never_clashes") fd
  f_with_calls_at : ∃ fd, FnP K "with_calls_at" "with_calls_at" s_with_calls_at (He.ga K "with_calls_at") fd
  f_last_place : ∃ fd, FnP K "last_place" "last_place" s_last_place (He.ga K "last_place") fd
  f_longer_plans : ∃ fd, FnP K "longer_plans" "longer_plans" s_longer_plans (He.ga K "longer_plans") fd
  f_plan_calls : ∃ fd, FnP K "plan_calls" "plan_calls" s_plan_calls (He.ga K "plan_calls") fd
  f__law_random : ∃ fd, FnP K "_law_random" "_law_random" s__law_random (He.ga K "_law_random") fd
  f__law_below : ∃ fd, FnP K "_law_below" "_law_below" s__law_below (He.ga K "_law_below") fd
  f__law_pattern : ∃ fd, FnP K "_law_pattern" "_law_pattern" s__law_pattern (He.ga K "_law_pattern") fd
  f__law_small : ∃ fd, FnP K "_law_small" "_law_small" s__law_small (He.ga K "_law_small") fd
  f__law_length : ∃ fd, FnP K "_law_length" "_law_length" s__law_length (He.ga K "_law_length") fd
  f__law_counts : ∃ fd, FnP K "_law_counts" "_law_counts" s__law_counts (He.ga K "_law_counts") fd
  f__law_opens : ∃ fd, FnP K "_law_opens" "_law_opens" s__law_opens (He.ga K "_law_opens") fd
  f__law_most : ∃ fd, FnP K "_law_most" "_law_most" s__law_most (He.ga K "_law_most") fd
  f__law_equal : ∃ fd, FnP K "_law_equal" "_law_equal" s__law_equal (He.ga K "_law_equal") fd
  f__law_hall : ∃ fd, FnP K "_law_hall" "_law_hall" s__law_hall (He.ga K "_law_hall") fd
def fcts : List (PySem.W.Frag → Bool) := [fcB (.free "abs"), fcB (.free "all"), fcB (.free "bool"), fcB (.free "divmod"), fcB (.free "enumerate"), fcB (.free "int"), fcB (.free "isinstance"), fcB (.free "len"), fcB (.free "list"), fcB (.free "max"), fcB (.free "min"), fcB (.free "range"), fcB (.free "str"), fcB (.free "sum"), fcB (.free "tuple"), bltB "lcm" "math.lcm", fcB (.int "LAST_TICK" 1000000000000000000), fcB (.int "LEAST_MODULUS" 2), fcB (.int "GREATEST_MODULUS" 10000), fcB (.int "MOST_ITEMS" 12), fcB (.int "GREATEST_ITEM" 9), fcB (.int "GREATEST_LATENESS" 99), fcB (.int "MOST_PLACES" 4), fcB (.glo "is_integer_within"), fcB (.glo "check_tick"), fcB (.glo "count_open"), fcB (.glo "most_open_with"), fcB (.glo "most_open"), fcB (.glo "first_invalid_item"), fcB (.glo "check_pattern"), fcB (.glo "check_hall"), fcB (.glo "count_calls"), fcB (.glo "never_clashes"), fcB (.glo "with_calls_at"), fcB (.glo "last_place"), fcB (.glo "longer_plans"), fcB (.glo "plan_calls"), fcB (.glo "_law_random"), fcB (.glo "_law_below"), fcB (.glo "_law_pattern"), fcB (.glo "_law_small"), fcB (.glo "_law_length"), fcB (.glo "_law_counts"), fcB (.glo "_law_opens"), fcB (.glo "_law_most"), fcB (.glo "_law_equal"), fcB (.glo "_law_hall"), fcB (.glo "Hall"), fcB (.cls "Hall"), fcB (.mkr "Hall"), fcB (.noat "Hall" "modulus"), fcB (.noat "Hall" "takes"), fcB (.noat "Hall" "calls"), fcB (.noat "Hall" "lateness"), fcB (.noat "Hall" "_called"), (fun K => propB K (He.ga K "Hall") "period"), (fun K => propB K (He.ga K "Hall") "growth"), fcB (.meth "Hall" "taken"), fcB (.meth "Hall" "called"), fcB (.meth "Hall" "waiting"), fcB (.glo "law")]
def lawF : Nat := 60
def dps : List Dp := [⟨fun K => (He.ga K "is_integer_within"), ⟨("is_integer_within", none), "is_integer_within", "is_integer_within", defArgs s_is_integer_within, defBody s_is_integer_within, defScope s_is_integer_within, [], []⟩, none⟩, ⟨fun K => (He.ga K "check_tick"), ⟨("check_tick", none), "check_tick", "check_tick", defArgs s_check_tick, defBody s_check_tick, defScope s_check_tick, [], []⟩, none⟩, ⟨fun K => (He.ga K "count_open"), ⟨("count_open", none), "count_open", "count_open", defArgs s_count_open, defBody s_count_open, defScope s_count_open, [], []⟩, none⟩, ⟨fun K => (He.ga K "most_open_with"), ⟨("most_open_with", none), "most_open_with", "most_open_with", defArgs s_most_open_with, defBody s_most_open_with, defScope s_most_open_with, [], []⟩, none⟩, ⟨fun K => (He.ga K "most_open"), ⟨("most_open", none), "most_open", "most_open", defArgs s_most_open, defBody s_most_open, defScope s_most_open, [], []⟩, none⟩, ⟨fun K => (He.ga K "first_invalid_item"), ⟨("first_invalid_item", none), "first_invalid_item", "first_invalid_item", defArgs s_first_invalid_item, defBody s_first_invalid_item, defScope s_first_invalid_item, [], []⟩, none⟩, ⟨fun K => (He.ga K "check_pattern"), ⟨("check_pattern", none), "check_pattern", "check_pattern", defArgs s_check_pattern, defBody s_check_pattern, defScope s_check_pattern, [], []⟩, none⟩, ⟨fun K => (He.ga K "check_hall"), ⟨("check_hall", none), "check_hall", "check_hall", defArgs s_check_hall, defBody s_check_hall, defScope s_check_hall, [], []⟩, none⟩, ⟨fun K => (He.ga K "count_calls"), ⟨("count_calls", none), "count_calls", "count_calls", defArgs s_count_calls, defBody s_count_calls, defScope s_count_calls, [], []⟩, none⟩, ⟨fun K => (He.ma K (He.ga K "Hall") "__init__"), ⟨("__init__", none), "__init__", "Hall.__init__", defArgs s_init, defBody s_init, defScope s_init, [], []⟩, none⟩, ⟨fun K => (getAt K (He.ga K "Hall") "period"), ⟨("period", none), "period", "Hall.period", defArgs s_period, defBody s_period, defScope s_period, [], []⟩, none⟩, ⟨fun K => (getAt K (He.ga K "Hall") "growth"), ⟨("growth", none), "growth", "Hall.growth", defArgs s_growth, defBody s_growth, defScope s_growth, [], []⟩, none⟩, ⟨fun K => (He.ma K (He.ga K "Hall") "taken"), ⟨("taken", none), "taken", "Hall.taken", defArgs s_taken, defBody s_taken, defScope s_taken, [], []⟩, none⟩, ⟨fun K => (He.ma K (He.ga K "Hall") "called"), ⟨("called", none), "called", "Hall.called", defArgs s_called, defBody s_called, defScope s_called, [], []⟩, none⟩, ⟨fun K => (He.ma K (He.ga K "Hall") "waiting"), ⟨("waiting", none), "waiting", "Hall.waiting", defArgs s_waiting, defBody s_waiting, defScope s_waiting, [], []⟩, none⟩, ⟨fun K => (He.ga K "never_clashes"), ⟨("never_clashes", none), "never_clashes", "never_clashes", defArgs s_never_clashes, defBody s_never_clashes, defScope s_never_clashes, [], []⟩, none⟩, ⟨fun K => (He.ga K "with_calls_at"), ⟨("with_calls_at", none), "with_calls_at", "with_calls_at", defArgs s_with_calls_at, defBody s_with_calls_at, defScope s_with_calls_at, [], []⟩, none⟩, ⟨fun K => (He.ga K "last_place"), ⟨("last_place", none), "last_place", "last_place", defArgs s_last_place, defBody s_last_place, defScope s_last_place, [], []⟩, none⟩, ⟨fun K => (He.ga K "longer_plans"), ⟨("longer_plans", none), "longer_plans", "longer_plans", defArgs s_longer_plans, defBody s_longer_plans, defScope s_longer_plans, [], []⟩, none⟩, ⟨fun K => (He.ga K "plan_calls"), ⟨("plan_calls", none), "plan_calls", "plan_calls", defArgs s_plan_calls, defBody s_plan_calls, defScope s_plan_calls, [], []⟩, none⟩, ⟨fun K => (He.ga K "_law_random"), ⟨("_law_random", none), "_law_random", "_law_random", defArgs s__law_random, defBody s__law_random, defScope s__law_random, [], []⟩, none⟩, ⟨fun K => (He.ga K "_law_below"), ⟨("_law_below", none), "_law_below", "_law_below", defArgs s__law_below, defBody s__law_below, defScope s__law_below, [], []⟩, none⟩, ⟨fun K => (He.ga K "_law_pattern"), ⟨("_law_pattern", none), "_law_pattern", "_law_pattern", defArgs s__law_pattern, defBody s__law_pattern, defScope s__law_pattern, [], []⟩, none⟩, ⟨fun K => (He.ga K "_law_small"), ⟨("_law_small", none), "_law_small", "_law_small", defArgs s__law_small, defBody s__law_small, defScope s__law_small, [], []⟩, none⟩, ⟨fun K => (He.ga K "_law_length"), ⟨("_law_length", none), "_law_length", "_law_length", defArgs s__law_length, defBody s__law_length, defScope s__law_length, [], []⟩, none⟩, ⟨fun K => (He.ga K "_law_counts"), ⟨("_law_counts", none), "_law_counts", "_law_counts", defArgs s__law_counts, defBody s__law_counts, defScope s__law_counts, [], []⟩, none⟩, ⟨fun K => (He.ga K "_law_opens"), ⟨("_law_opens", none), "_law_opens", "_law_opens", defArgs s__law_opens, defBody s__law_opens, defScope s__law_opens, [], []⟩, none⟩, ⟨fun K => (He.ga K "_law_most"), ⟨("_law_most", none), "_law_most", "_law_most", defArgs s__law_most, defBody s__law_most, defScope s__law_most, [], []⟩, none⟩, ⟨fun K => (He.ga K "_law_equal"), ⟨("_law_equal", none), "_law_equal", "_law_equal", defArgs s__law_equal, defBody s__law_equal, defScope s__law_equal, [], []⟩, none⟩, ⟨fun K => (He.ga K "_law_hall"), ⟨("_law_hall", none), "_law_hall", "_law_hall", defArgs s__law_hall, defBody s__law_hall, defScope s__law_hall, [], []⟩, none⟩, ⟨fun K => (He.ga K "law"), ⟨("law", none), "law", "law", defArgs s_law, defBody s_law, defScope s_law, [], []⟩, none⟩]
def names : List PySem.Str := (["_wall", "HallError", "InvalidHall", "InvalidTick", "InvalidLimit", "LAST_TICK", "is_integer_within", "check_tick", "count_open", "most_open_with", "most_open", "LEAST_MODULUS"] : List PySem.Str) ++ (["GREATEST_MODULUS", "MOST_ITEMS", "GREATEST_ITEM", "GREATEST_LATENESS", "first_invalid_item", "check_pattern", "check_hall", "count_calls", "Hall", "MOST_PLACES", "never_clashes", "with_calls_at"] : List PySem.Str) ++ (["last_place", "longer_plans", "plan_calls", "_law_random", "_law_below", "_law_pattern", "_law_small", "_law_length", "_law_counts", "_law_opens", "_law_most", "_law_equal"] : List PySem.Str) ++ (["_law_hall"] : List PySem.Str)
abbrev R : PySem.W.OpenRow := PySem.W.OpenLaw.row PySem.Challenge.rw_ticketwrap_k17_planned_calls
def mkl : List (Mk_ × Str) := []
abbrev mks : List Mk_ := mkl.map fun p => p.1
abbrev hk : PySem.W.Hook := hook 6 fcts dps mks
def ob (s : PySem.W.SharedT) : AlX := obsG 6 fcts dps mks (HeadRun.getT s)
theorem ob_eq (s : PySem.W.SharedT) : ob s = hk.obs s.abs := obsG_eq (HeadRun.getT_eq s)
def lawI : Nat := 44
end Tk
namespace Tk
open PySem PySem.Spec PyProof.Rows L2
theorem run (w : World) : HeadRun.RunEqI R (PySem.W.view R.prog [0, 44]) hk ob 20000 names w := by
  unfold HeadRun.RunEqI
  kernel_rfl
theorem txt {K : PySem.W.Frag} {h : Heap} {mg : Str → Option Value} (X : K.In h) (G : h.Ns mainGlobals mg) (c : Says fcts dps K) : Txt K mg where
  g_abs := He.free_ok X G (c.fact 0 rfl)
  g_all := He.free_ok X G (c.fact 1 rfl)
  g_bool := He.free_ok X G (c.fact 2 rfl)
  g_divmod := He.free_ok X G (c.fact 3 rfl)
  g_enumerate := He.free_ok X G (c.fact 4 rfl)
  g_int := He.free_ok X G (c.fact 5 rfl)
  g_isinstance := He.free_ok X G (c.fact 6 rfl)
  g_len := He.free_ok X G (c.fact 7 rfl)
  g_list := He.free_ok X G (c.fact 8 rfl)
  g_max := He.free_ok X G (c.fact 9 rfl)
  g_min := He.free_ok X G (c.fact 10 rfl)
  g_range := He.free_ok X G (c.fact 11 rfl)
  g_str := He.free_ok X G (c.fact 12 rfl)
  g_sum := He.free_ok X G (c.fact 13 rfl)
  g_tuple := He.free_ok X G (c.fact 14 rfl)
  g_lcm := blt_ok X G (c.fact 15 rfl)
  c_LAST_TICK := He.int_ok X G (c.fact 16 rfl)
  c_LEAST_MODULUS := He.int_ok X G (c.fact 17 rfl)
  c_GREATEST_MODULUS := He.int_ok X G (c.fact 18 rfl)
  c_MOST_ITEMS := He.int_ok X G (c.fact 19 rfl)
  c_GREATEST_ITEM := He.int_ok X G (c.fact 20 rfl)
  c_GREATEST_LATENESS := He.int_ok X G (c.fact 21 rfl)
  c_MOST_PLACES := He.int_ok X G (c.fact 22 rfl)
  g_is_integer_within := He.glo_ok X G (c.fact 23 rfl)
  g_check_tick := He.glo_ok X G (c.fact 24 rfl)
  g_count_open := He.glo_ok X G (c.fact 25 rfl)
  g_most_open_with := He.glo_ok X G (c.fact 26 rfl)
  g_most_open := He.glo_ok X G (c.fact 27 rfl)
  g_first_invalid_item := He.glo_ok X G (c.fact 28 rfl)
  g_check_pattern := He.glo_ok X G (c.fact 29 rfl)
  g_check_hall := He.glo_ok X G (c.fact 30 rfl)
  g_count_calls := He.glo_ok X G (c.fact 31 rfl)
  g_never_clashes := He.glo_ok X G (c.fact 32 rfl)
  g_with_calls_at := He.glo_ok X G (c.fact 33 rfl)
  g_last_place := He.glo_ok X G (c.fact 34 rfl)
  g_longer_plans := He.glo_ok X G (c.fact 35 rfl)
  g_plan_calls := He.glo_ok X G (c.fact 36 rfl)
  g__law_random := He.glo_ok X G (c.fact 37 rfl)
  g__law_below := He.glo_ok X G (c.fact 38 rfl)
  g__law_pattern := He.glo_ok X G (c.fact 39 rfl)
  g__law_small := He.glo_ok X G (c.fact 40 rfl)
  g__law_length := He.glo_ok X G (c.fact 41 rfl)
  g__law_counts := He.glo_ok X G (c.fact 42 rfl)
  g__law_opens := He.glo_ok X G (c.fact 43 rfl)
  g__law_most := He.glo_ok X G (c.fact 44 rfl)
  g__law_equal := He.glo_ok X G (c.fact 45 rfl)
  g__law_hall := He.glo_ok X G (c.fact 46 rfl)
  g_Hall := He.glo_ok X G (c.fact 47 rfl)
  cl_Hall := He.cls_ok (c.fact 48 rfl)
  mk_Hall := He.mkr_ok (c.fact 49 rfl)
  n_modulus := He.noat_ok (c.fact 50 rfl)
  n_takes := He.noat_ok (c.fact 51 rfl)
  n_calls := He.noat_ok (c.fact 52 rfl)
  n_lateness := He.noat_ok (c.fact 53 rfl)
  n__called := He.noat_ok (c.fact 54 rfl)
  p_period := prop_ok (c.fact 55 rfl)
  p_growth := prop_ok (c.fact 56 rfl)
  m_taken := He.meth_ok (c.fact 57 rfl)
  m_called := He.meth_ok (c.fact 58 rfl)
  m_waiting := He.meth_ok (c.fact 59 rfl)
  f_is_integer_within := (c.def_ 0 rfl).1
  f_check_tick := (c.def_ 1 rfl).1
  f_count_open := (c.def_ 2 rfl).1
  f_most_open_with := (c.def_ 3 rfl).1
  f_most_open := (c.def_ 4 rfl).1
  f_first_invalid_item := (c.def_ 5 rfl).1
  f_check_pattern := (c.def_ 6 rfl).1
  f_check_hall := (c.def_ 7 rfl).1
  f_count_calls := (c.def_ 8 rfl).1
  f_init := (c.def_ 9 rfl).1
  f_period := (c.def_ 10 rfl).1
  f_growth := (c.def_ 11 rfl).1
  f_taken := (c.def_ 12 rfl).1
  f_called := (c.def_ 13 rfl).1
  f_waiting := (c.def_ 14 rfl).1
  f_never_clashes := (c.def_ 15 rfl).1
  f_with_calls_at := (c.def_ 16 rfl).1
  f_last_place := (c.def_ 17 rfl).1
  f_longer_plans := (c.def_ 18 rfl).1
  f_plan_calls := (c.def_ 19 rfl).1
  f__law_random := (c.def_ 20 rfl).1
  f__law_below := (c.def_ 21 rfl).1
  f__law_pattern := (c.def_ 22 rfl).1
  f__law_small := (c.def_ 23 rfl).1
  f__law_length := (c.def_ 24 rfl).1
  f__law_counts := (c.def_ 25 rfl).1
  f__law_opens := (c.def_ 26 rfl).1
  f__law_most := (c.def_ 27 rfl).1
  f__law_equal := (c.def_ 28 rfl).1
  f__law_hall := (c.def_ 29 rfl).1
theorem law_fn {K : PySem.W.Frag} (c : Says fcts dps K) : ∃ fd, FnP K "law" "law" s_law (He.ga K "law") fd := (c.def_ 30 rfl).1
end Tk
/-! ### The source of numbers -/
namespace Tk
open PySem PySem.Spec PyProof.Rows L2
/-- what the list of the source holds -/
def DSt (cs : List V) : Prop := ∃ (s g : Int) (ns : List Int), cs = V.int s :: V.int g :: ns.map V.int ∧ 0 ≤ s ∧ s < 2147483647 ∧ 0 ≤ g ∧ (∀ n ∈ ns, (0 : Int) ≤ n) ∧ ns.length ≤ 63
def spRandom (K : PySem.W.Frag) : Sp := fun vs H Q _ => ∃ (a : Addr) (ns : List Int) (salt : Int), vs = [.ref a, .int salt] ∧ SqL K H a (ns.map V.int) ∧ ns.length ≤ 63 ∧ 0 ≤ salt ∧ salt < 1000 ∧
  ∀ (d : Addr) (cs : List V) (H' : Hp), H d = none → Same H H' → H' d = some (.lst cs) → DSt cs → Q (.ref d) H'
def spBelow : Sp := fun vs H Q _ => ∃ (d : Addr) (lim : Int) (cs : List V), vs = [.ref d, .int lim] ∧ 0 < lim ∧ lim < 1073741824 ∧ H d = some (.lst cs) ∧ DSt cs ∧
  ∀ (r : Int) (cs' : List V), 0 ≤ r → r < lim → DSt cs' → Q (.int r) (upd H d (.lst cs'))
theorem int_at {ns : List Int} {i : Nat} {y : V} (h : (ns.map V.int)[i]? = some y) : ∃ u, y = V.int u ∧ ns[i]? = some u := by
  rw [List.getElem?_map] at h
  cases e : ns[i]? with
  | none => rw [e] at h; cases h
  | some u => rw [e] at h; exact ⟨u, (Option.some.inj h).symm, rfl⟩
theorem ixn {n i : Nat} (h : i < n) : ixN n (i : Int) = some i := by
  unfold ixN
  rw [if_pos (by omega), if_pos (by omega)]
  simp
theorem atn {xs : List V} {i : Nat} {x : V} (h : xs[i]? = some x) : atI xs (i : Int) = some x := by
  unfold atI
  rw [ixn (List.getElem?_eq_some_iff.mp h).1]
  exact h
section
variable {P : Program} {w : World} {K : PySem.W.Frag} {mg : Str → Option Value} {base : Heap}
theorem ok__law_random (T : Txt K mg) : OkF P w K mg base 1 (He.ga K "_law_random") ["_law_script", "_law_salt"] (spRandom K) := by
  refine FnP.okF T.f__law_random sc__law_random (fun _ _ _ _ _ _ us hl => match us, hl with | [_, _], _ => rfl) (fun vs H Q E h => ?_) (fun cdv A outer s H vs Q E hr h => ?_)
  · obtain ⟨a, ns, salt, rfl, _⟩ := h
    rfl
  obtain ⟨a, ns, salt, rfl, hS, hlen, h0, h1, k⟩ := h
  refine ⟨_, (pss_cons (ps_set (i := 2) sc__law_random.nd rfl (Or.inl rfl) (pv 1))
    (pss_cons (ps_for own_cx rfl (pi_listK (K := K) (pv 0)) (pg_name (i := 3) sc__law_random.nd rfl (Or.inl rfl))
      (pss_one (ps_set (i := 2) sc__law_random.nd rfl (Or.inl rfl) (pe_op op_mod (pe_op op_add (pe_op op_mul (pv 2) pe_int) (pe_callB call_abs (by rfl) T.g_abs (by decide +kernel) (pa_cons (pv 3) pa_nil))) pe_int))))
    (pss_one (ps_ret (pe_op op_cat (pe_lst (pa_cons (pv 2) (pa_cons pe_int pa_nil))) (pe_lc (own := [("_law_cell", 3)]) (g := gName 3) (tt := _) (by rfl) sc__law_random.nd (pi_listK (K := K) (pv 0)) (blkOk_by (own := [("_law_cell", 3)]) (N := N__law_random) (sc := (defScope s__law_random)) (by decide +kernel)) (fun _ _ _ _ _ => pg_name (i := 3) sc__law_random.nd rfl (Or.inl rfl)) (fun _ _ _ _ _ => (pts_one (pt_cmpR op_ge (pv 3) (pe_op op_pow pe_int pe_int) (nomark _)))) (fun _ _ _ _ _ => (pv 3)))))))), ?_⟩
  refine ⟨_, rfl, ?_⟩
  refine ⟨_, rfl, a, rfl, ⟨_, hS⟩, for_list (K := K) (a := a) (xs := ns.map V.int) (fun i σ H' => ∃ (z : Int) (v : Option V), σ = [some (.ref a), some (.int salt), some (.int z), v] ∧ H' = H ∧ 0 ≤ z ∧ z < 2147483647)
    ⟨salt, none, rfl, rfl, h0, by omega⟩ (fun i σ H' _ ⟨_, _, _, e, _⟩ => e ▸ hS) ?_ ?_⟩
  · rintro i y σ H' hi ⟨z, v, rfl, rfl, z0, z1⟩
    obtain ⟨u, rfl, hu⟩ := int_at hi
    refine ⟨_, rfl, _, _, rfl, rfl, .inl ⟨by omega, by omega⟩, _, rfl, _, rfl, _, _, rfl, rfl, _, _, rfl, rfl, (by show (0 : Int) < 2147483647; decide), ?_⟩
    refine ⟨_, _, rfl, rfl, ?_, ?_⟩
    · exact Int.emod_nonneg _ (by decide)
    · exact Int.emod_lt_of_pos _ (by decide)
  · rintro σ H' ⟨z, v, rfl, rfl, z0, z1⟩
    refine ⟨_, rfl, (by show 2 ≤ sizeLine; decide), fun l hl => ?_⟩
    have s1 : Same H' (upd H' l (.lst [.int z, .int 0])) := fun b o e => by rw [upd_ne (ne_of_none e hl)]; exact e
    refine ⟨_, rfl, a, rfl, ⟨_, s1.seq hS⟩, fun D hD => ?_⟩
    have hDl : D ≠ l := fun e => by rw [e, upd_same] at hD; cases hD
    have hD0 : H' D = none := by rw [upd_ne hDl] at hD; exact hD
    refine lc_list (K := K) (a := a) (xs := ns.map V.int) (fun i H2 => ∃ ms : List Int, H2 = upd (upd H' l (.lst [.int z, .int 0])) D (.lst (ms.map V.int)) ∧ (∀ n ∈ ms, (0 : Int) ≤ n) ∧ ms.length ≤ i)
      ⟨[], rfl, (fun n hn => by cases hn), Nat.le_refl _⟩ (fun i H2 _ ⟨ms, e, _⟩ => ?_) ?_ ?_
    · subst e
      refine Same.seq (fun b o e => ?_) hS
      rw [upd_ne (ne_of_none e hD0)]
      exact s1 b o e
    · rintro i x H2 hx ⟨ms, rfl, m0, ml⟩
      obtain ⟨u, rfl, hu⟩ := int_at hx
      have hi63 : i < 63 := by
        have := (List.getElem?_eq_some_iff.mp hu).1
        omega
      refine ⟨rfl, _, rfl, _, _, rfl, rfl, ⟨by decide, by decide, by decide⟩, _, _, rfl, rfl, _, rfl, ?_⟩
      refine ite2 (fun c => ?_) (fun c => ⟨ms, rfl, m0, by omega⟩)
      refine ⟨_, rfl, _, upd_same, Nat.lt_of_le_of_lt (m := 63) (by rw [List.length_map]; omega) (by decide), ⟨ms ++ [u], ?_, ?_, ?_⟩⟩
      · rw [upd_upd, List.map_append]
        rfl
      · intro n hn
        rcases List.mem_append.mp hn with h | h
        · exact m0 n h
        · rw [List.mem_singleton.mp h]
          have c2 : (10 : Int) ^ (18 : Int).toNat ≤ u := of_decide_eq_true c
          have : (0 : Int) ≤ 10 ^ (18 : Int).toNat := by decide
          omega
      · rw [List.length_append]
        show ms.length + 1 ≤ i + 1
        omega
    · rintro H2 ⟨ms, rfl, m0, ml⟩
      rw [List.length_map] at ml
      refine ⟨l, D, _, _, rfl, rfl, (by rw [upd_ne hDl.symm]; exact upd_same), upd_same, ?_, fun p hp => ?_⟩
      · rw [List.length_map]
        exact Nat.le_trans (m := 65) (by show 2 + ms.length ≤ 65; omega) (by decide)
      · have hpD : p ≠ D := fun e => by rw [e, upd_same] at hp; cases hp
        have hp2 : p ≠ l := fun e => by rw [e, upd_ne hDl.symm, upd_same] at hp; cases hp
        refine k p _ _ (by rw [upd_ne hpD, upd_ne hp2] at hp; exact hp) (fun b o e => ?_) upd_same ⟨z, 0, ms, rfl, z0, z1, Int.le_refl _, m0, by omega⟩
        have hb : b ≠ p := fun q => by rw [q] at e; rw [upd_ne hpD, upd_ne hp2] at hp; rw [e] at hp; cases hp
        rw [upd_ne hb, upd_ne (ne_of_none e hD0)]
        exact s1 b o e
end
end Tk

namespace Tk
open PySem PySem.Spec PyProof.Rows L2
section
variable {P : Program} {w : World} {K : PySem.W.Frag} {mg : Str → Option Value} {base : Heap}
theorem upd_eq {H H2 : Hp} {d : Addr} (e : ∀ b, b ≠ d → H2 b = H b) (o : HO) : upd H2 d o = upd H d o := by
  funext b
  unfold upd
  by_cases q : b = d
  · rw [if_pos q, if_pos q]
  · rw [if_neg q, if_neg q, e b q]
theorem gt_dec {a b : Int} : decide (b < a) = true → b < a := of_decide_eq_true
theorem ok__law_below (T : Txt K mg) : OkF P w K mg base 1 (He.ga K "_law_below") ["_law_d", "_law_limit"] spBelow := by
  refine FnP.okF T.f__law_below sc__law_below (fun _ _ _ _ _ _ us hl => match us, hl with | [_, _], _ => rfl) (fun vs H Q E h => ?_) (fun cdv A outer s H vs Q E hr h => ?_)
  · obtain ⟨d, lim, cs, rfl, _⟩ := h
    rfl
  obtain ⟨d, lim, cs, rfl, l0, l1, hd, ⟨s1, g, ns, rfl, hs0, hs1, hg, hns, hlen⟩, k⟩ := h
  refine ⟨_, (Evl.pss_cut (ps_if (PW.pt (pw_and (pt_cmpR op_eq (pe_ix (ixLK (K := K)) (pv 0) pe_int (fun _ _ => rfl)) pe_int (nomark _)) (pw_and1 (pt_cmpR op_gt (pe_callB (lenK (K := K)) (by rfl) T.g_len (by decide +kernel) (pa_cons (pv 0) pa_nil)) pe_int (nomark _))))) (pss_one (ps_asg (pe_bm PySem.F.plainAttrs_list PySem.F.slot_list_pop PySem.F.type_list_pop mt_popAt (pv 0) (pa_cons pe_int pa_nil)) (pg_sub (pv 0) pe_int set_list))) pss_nil)
    (pss_cons (ps_if (pt_cmpR op_gt (pe_ix (ixLK (K := K)) (pv 0) pe_int (fun _ _ => rfl)) pe_int (nomark _)) (pss_cons (ps_set (i := 2) sc__law_below.nd rfl (Or.inl rfl) (pe_op op_mod (pe_ix (ixLK (K := K)) (pv 0) pe_int (fun _ _ => rfl)) (pv 1)))
    (pss_cons (ps_asg (pe_op op_fdiv (pe_ix (ixLK (K := K)) (pv 0) pe_int (fun _ _ => rfl)) (pv 1)) (pg_sub (pv 0) pe_int set_list))
    (pss_one (ps_ret (pv 2))))) pss_nil)
    (pss_cons (ps_asg (pe_op op_mod (pe_op op_add (pe_op op_mul (pe_ix (ixLK (K := K)) (pv 0) pe_int (fun _ _ => rfl)) pe_int) pe_int) pe_int) (pg_sub (pv 0) pe_int set_list))
    (pss_one (ps_ret (pe_op op_mod (pe_op op_fdiv (pe_ix (ixLK (K := K)) (pv 0) pe_int (fun _ _ => rfl)) pe_int) (pv 1))))))), ?_⟩
  -- if d[1] == 0 and len(d) > 2: d[1] = d.pop(2)
  refine ⟨fun σ H2 => ∃ (g2 : Int) (ms : List Int), σ = [some (.ref d), some (.int lim), none] ∧ H2 = upd H d (.lst (V.int s1 :: V.int g2 :: ms.map V.int)) ∧ 0 ≤ g2 ∧ (∀ n ∈ ms, (0 : Int) ≤ n) ∧ ms.length ≤ 63, ?_, ?_⟩
  · have h0 : H = upd H d (.lst (V.int s1 :: V.int g :: ns.map V.int)) := by
      funext b
      unfold upd
      by_cases q : b = d
      · rw [if_pos q, q, hd]
      · rw [if_neg q]
    have no : ∃ (g2 : Int) (ms : List Int), [some (V.ref d), some (V.int lim), none] = [some (.ref d), some (.int lim), none] ∧ H = upd H d (.lst (V.int s1 :: V.int g2 :: ms.map V.int)) ∧ 0 ≤ g2 ∧ (∀ n ∈ ms, (0 : Int) ≤ n) ∧ ms.length ≤ 63 := ⟨g, ns, rfl, h0, hg, hns, hlen⟩
    refine ⟨_, rfl, d, _, 1, _, rfl, rfl, SqL.of hd, atn (i := 1) rfl, rfl, _, rfl, ?_⟩
    refine ite2 (fun c => ?_) (fun c => no)
    refine ⟨_, rfl, d, _, rfl, .inl (SqL.of hd), _, _, rfl, rfl, _, rfl, ?_⟩
    refine ite2 (fun c2 => ?_) (fun c2 => no)
    cases ns with
    | nil =>
      have : (2 : Int) < (2 : Int) := gt_dec c2
      omega
    | cons n0 ms =>
      refine ⟨_, rfl, .inl ⟨rfl, _, SqL.of hd⟩, d, _, 2, 2, _, rfl, rfl, hd, by decide, by decide, ?_, rfl, ?_⟩
      · have hl : (V.int s1 :: V.int g :: (n0 :: ms).map V.int).length = ms.length + 3 := by simp
        rw [hl]
        unfold seqIndex?
        simp
        omega
      · refine ⟨_, rfl, d, _, 1, 1, rfl, rfl, upd_same, ixn (i := 1) (by simp), ?_⟩
        refine ⟨n0, ms, rfl, ?_, hns n0 List.mem_cons_self, fun n hn => hns n (List.mem_cons_of_mem _ hn), by have := hlen; simp at this; omega⟩
        rw [upd_upd]
        rfl
  · rintro σ H2 ⟨g2, ms, rfl, rfl, hg2, hms, hml⟩
    have hd2 : upd H d (.lst (V.int s1 :: V.int g2 :: ms.map V.int)) d = some (.lst (V.int s1 :: V.int g2 :: ms.map V.int)) := upd_same
    -- if d[1] > 0
    refine ⟨_, rfl, d, _, 1, _, rfl, rfl, SqL.of hd2, atn (i := 1) rfl, _, _, rfl, rfl, _, rfl, ?_⟩
    refine ite2 (fun c => ?_) (fun c => ?_)
    · refine ⟨_, rfl, d, _, 1, _, rfl, rfl, SqL.of hd2, atn (i := 1) rfl, _, rfl, _, _, rfl, rfl, l0, ?_⟩
      refine ⟨_, rfl, d, _, 1, _, rfl, rfl, SqL.of hd2, atn (i := 1) rfl, _, rfl, _, _, rfl, rfl, ⟨l0, l1⟩, ?_⟩
      refine ⟨_, rfl, d, _, 1, 1, rfl, rfl, upd_same, ixn (i := 1) (by simp), ?_⟩
      refine ⟨_, rfl, ?_⟩
      show Q (V.int (g2 % lim)) _
      rw [upd_upd]
      exact k _ _ (Int.emod_nonneg _ (by omega)) (Int.emod_lt_of_pos _ l0) ⟨s1, g2 / lim, ms, rfl, hs0, hs1, Int.ediv_nonneg hg2 (by omega), hms, hml⟩
    · refine ⟨_, rfl, d, _, 0, _, rfl, rfl, SqL.of hd2, atn (i := 0) rfl, _, _, rfl, rfl, .inl ⟨by omega, by omega⟩, _, _, rfl, rfl, _, _, rfl, rfl, (by show (0 : Int) < 2147483647; decide), ?_⟩
      refine ⟨_, rfl, d, _, 0, 0, rfl, rfl, upd_same, ixn (i := 0) (by simp), ?_⟩
      refine ⟨_, rfl, d, _, 0, _, rfl, rfl, SqL.of upd_same, atn (i := 0) rfl, _, _, rfl, rfl, ⟨by decide, by decide⟩, _, rfl, _, _, rfl, rfl, l0, ?_⟩
      rw [upd_upd]
      exact k _ _ (Int.emod_nonneg _ (by omega)) (Int.emod_lt_of_pos _ l0) ⟨_, g2, ms, rfl, Int.emod_nonneg _ (by decide), Int.emod_lt_of_pos _ (by decide), hg2, hms, hml⟩
end
end Tk

/-! ### Reading step by step: what each reading asks, as a rule -/
namespace Tk
open PySem PySem.Spec PyProof.Rows L2
theorem Same.get {H H' : Hp} {b : Addr} {o : HO} (S : Same H H') (h : H b = some o) : H' b = some o := S b o h
theorem Same.tr {H H1 H2 : Hp} (b : Same H1 H2) (a : Same H H1) : Same H H2 := fun c o h => b c o (a c o h)
theorem Same.nw {p : Addr} {H0 H : Hp} {o : HO} (h : H p = none) (S : Same H0 H) : Same H0 (upd H p o) := fun b u e => by rw [upd_ne (ne_of_none (S b u e) h)]; exact S b u e
theorem Same.fr {H H' : Hp} {p : Addr} (S : Same H H') (h : H' p = none) : H p = none := by
  cases q : H p with
  | none => rfl
  | some o => rw [S p o q] at h; cases h
theorem sqt_sm {K : PySem.W.Frag} {H H' : Hp} {a : Addr} {xs : List V} (e : Same H H') (h : SqT K H a xs) : SqT K H' a xs := by
  rcases h with (h | ⟨o, h⟩) | h
  · exact .inl (.inl (e _ _ h))
  · exact .inl (.inr ⟨o, e _ _ h⟩)
  · exact .inr h
namespace Rd
variable {K : PySem.W.Frag} {σ : L2.St} {H : Hp} {Q : VK} {QA : List V → Hp → Prop} {QB : Bool → Hp → Prop} {D : Ends} {ta tb tc te : TE} {t : TA} {tt tu : L2.TT} {ts tr : TS}
/-! expressions -/
theorem var {i : Nat} {v : V} (h : σ[i]? = some (some v)) (k : Q v H) : tVar i σ H Q := ⟨v, h, k⟩
theorem c {v : V} (k : Q v H) : tC v σ H Q := k
theorem op {r : R2} (k : ta σ H fun x H1 => tb σ H1 fun y H2 => r x y H2 Q) : tOp r ta tb σ H Q := k
theorem un {r : V → Hp → VK → Prop} (k : ta σ H fun x H1 => r x H1 Q) : tUn r ta σ H Q := k
theorem i0 {g : Int → Int → V} {i j : Int} (k : Q (g i j) H) : rI0 g (.int i) (.int j) H Q := ⟨i, j, rfl, rfl, k⟩
theorem i1 {C : Int → Int → Prop} {g : Int → Int → V} {i j : Int} (hc : C i j) (k : Q (g i j) H) : rI C g (.int i) (.int j) H Q := ⟨i, j, rfl, rfl, hc, k⟩
theorem u1 {g : Int → V} {i : Int} (k : Q (g i) H) : rU g (.int i) H Q := ⟨i, rfl, k⟩
theorem eq {x y : V} (h : scal x y = true) (k : Q (.bl (decide (x = y))) H) : rEq x y H Q := ⟨h, k⟩
theorem ne {x y : V} (h : scal x y = true) (k : Q (.bl (!decide (x = y))) H) : rNe x y H Q := ⟨h, k⟩
def toB (Q : Bool → Hp → Prop) : VK := fun x H' => ∃ k, x = .bl k ∧ Q k H'
theorem toB_i {b : Bool} (k : QB b H) : toB QB (.bl b) H := ⟨b, rfl, k⟩
theorem tst (k : te σ H (toB QB)) : tTest te σ H QB := k
theorem bv (k : te σ H (toB QB)) : tB te σ H QB := k
def andK (tb : TE) (σ : L2.St) (Q : VK) : VK := fun x H1 => ∃ c, x = .bl c ∧ if c = true then tb σ H1 Q else Q (.bl false) H1
theorem andV (k : ta σ H (andK tb σ Q)) : tAndV ta tb σ H Q := k
theorem andK_i {b : Bool} (k : if b = true then tb σ H Q else Q (.bl false) H) : andK tb σ Q (.bl b) H := ⟨b, rfl, k⟩
def orK (tb : TE) (σ : L2.St) (Q : VK) : VK := fun x H1 => ∃ c, x = .bl c ∧ if c = true then Q (.bl true) H1 else tb σ H1 Q
theorem orV (k : ta σ H (orK tb σ Q)) : tOrV ta tb σ H Q := k
theorem orK_i {b : Bool} (k : if b = true then Q (.bl true) H else tb σ H Q) : orK tb σ Q (.bl b) H := ⟨b, rfl, k⟩
def notK (Q : VK) : VK := fun x H1 => ∃ c, x = .bl c ∧ Q (.bl (!c)) H1
theorem notV (k : ta σ H (notK Q)) : tNotV ta σ H Q := k
theorem notK_i {b : Bool} (k : Q (.bl (!b)) H) : notK Q (.bl b) H := ⟨b, rfl, k⟩
theorem and (k : tt σ H fun c H1 => if c = true then tu σ H1 QB else QB false H1) : tAnd tt tu σ H QB := k
theorem or (k : tt σ H fun c H1 => if c = true then QB true H1 else tu σ H1 QB) : tOr tt tu σ H QB := k
theorem not (k : tt σ H fun c H1 => QB (!c) H1) : tNot tt σ H QB := k
theorem tif (k : tt σ H fun c H1 => if c = true then ta σ H1 Q else tb σ H1 Q) : tIf tt ta tb σ H Q := k
theorem yes (k : QB true H) : tYes σ H QB := k
def chainK (r r' : R2) (x : V) (tc : TE) (σ : L2.St) (Q : VK) : VK := fun y H2 => r x y H2 fun z H3 => ∃ k, z = .bl k ∧ (if k = true then tc σ H3 fun w' H4 => r' y w' H4 Q else Q (.bl false) H3)
def chainL (r' : R2) (y : V) (tc : TE) (σ : L2.St) (Q : VK) : VK := fun z H3 => ∃ k, z = .bl k ∧ (if k = true then tc σ H3 fun w' H4 => r' y w' H4 Q else Q (.bl false) H3)
theorem chain {r r' : R2} (k : ta σ H fun x H1 => tb σ H1 fun y H2 => r x y H2 (chainL r' y tc σ Q)) : tChain r r' ta tb tc σ H Q := k
theorem chainL_i {r' : R2} {y : V} {b : Bool} (k : if b = true then tc σ H fun w' H4 => r' y w' H4 Q else Q (.bl false) H) : chainL r' y tc σ Q (.bl b) H := ⟨b, rfl, k⟩
/-! arguments, calls -/
theorem nil (k : QA [] H) : tNil σ H QA := k
theorem cons {tr : TA} (k : ta σ H fun x H1 => tr σ H1 fun xs H2 => QA (x :: xs) H2) : tCons ta tr σ H QA := k
def tupK (Q : VK) : List V → Hp → Prop := fun xs H1 => xs.length ≤ sizeLine ∧ ∀ p, H1 p = none → Q (.ref p) (upd H1 p (.tup xs))
theorem tup (k : t σ H (tupK Q)) : tTup t σ H Q := k
theorem tupK_i {xs : List V} (hz : xs.length ≤ 1000) (k : ∀ p H', H p = none → Same H H' → H' p = some (.tup xs) → Q (.ref p) H') : tupK Q xs H := ⟨Nat.le_trans hz (by decide), fun p hp => k p _ hp (Same.nw hp (Same.refl H)) upd_same⟩
def lstK (Q : VK) : List V → Hp → Prop := fun xs H1 => xs.length ≤ sizeLine ∧ ∀ p, H1 p = none → Q (.ref p) (upd H1 p (.lst xs))
theorem lst (k : t σ H (lstK Q)) : tLst t σ H Q := k
theorem lstK_i {xs : List V} (hz : xs.length ≤ 1000) (k : ∀ p H', H p = none → Same H H' → H' p = some (.lst xs) → Q (.ref p) H') : lstK Q xs H := ⟨Nat.le_trans hz (by decide), fun p hp => k p _ hp (Same.nw hp (Same.refl H)) upd_same⟩
def callK (sp : Sp) (dvs : List V) (Q : VK) (E : XK) : List V → Hp → Prop := fun vs H1 => sp (vs ++ dvs) H1 Q E
theorem call {sp : Sp} {dvs : List V} {E : XK} (k : t σ H (callK sp dvs Q E)) : tCall sp dvs E t σ H Q := k
theorem callK_i {sp : Sp} {vs : List V} {E : XK} (k : sp vs H Q E) : callK sp [] Q E vs H := by
  unfold callK
  rw [List.append_nil]
  exact k
def fldK (K : PySem.W.Frag) (f : Str) (Q : VK) : VK := fun x H1 => ∃ a C dx fs v, x = .ref a ∧ H1 a = some (.ins C dx fs) ∧ Cls K C ∧ NoAttr K C f ∧ fs.lookup f = some v ∧ Q v H1
theorem fld {f : Str} (k : ta σ H (fldK K f Q)) : tFld K ta f σ H Q := k
def methK (m : Str) (sp : Sp) (C : Addr) (dvs : List V) (E : XK) (t : TA) (σ : L2.St) (Q : VK) : VK := fun x H1 => ∃ a dx fs, x = .ref a ∧ H1 a = some (.ins C dx fs) ∧ fs.lookup m = none ∧ t σ H1 fun vs H2 => sp (x :: (vs ++ dvs)) H2 Q E
theorem meth {C : Addr} {m : Str} {sp : Sp} {dvs : List V} {E : XK} (k : ta σ H (methK m sp C dvs E t σ Q)) : tMeth C m sp dvs E ta t σ H Q := k
def propK (sp : Sp) (C : Addr) (dvs : List V) (E : XK) (Q : VK) : VK := fun x H1 => ∃ a dx fs, x = .ref a ∧ H1 a = some (.ins C dx fs) ∧ sp (.ref a :: dvs) H1 Q E
theorem prop {C : Addr} {sp : Sp} {dvs : List V} {E : XK} (k : ta σ H (propK sp C dvs E Q)) : tProp C sp dvs E ta σ H Q := k
def makeK (C : Addr) (sp : Sp) (dvs : List V) (E : XK) (Q : VK) : List V → Hp → Prop := fun vs H1 => ∀ x dx, H1 x = none → H1 dx = none → dx ≠ x →
  sp (.ref x :: (vs ++ dvs)) (upd (upd H1 dx (.own x)) x (.ins C dx [])) (fun v H2 => v = .non ∧ Q (.ref x) H2) E
theorem make {C : Addr} {sp : Sp} {dvs : List V} {E : XK} (k : t σ H (makeK C sp dvs E Q)) : tMake C sp dvs E t σ H Q := k
theorem cmeth {C : Addr} {sp : Sp} {E : XK} (k : ta σ H fun x H1 => x = .ref C ∧ t σ H1 fun vs H2 => sp (.ref C :: vs) H2 Q E) : ClX.tCMeth C sp E ta t σ H Q := k
theorem cb {r : List V → Hp → VK → Prop} (k : t σ H fun vs H1 => r vs H1 Q) : tCB r t σ H Q := k
def bmK (K : PySem.W.Frag) (T : String) (r : V → List V → Hp → VK → Prop) (t : TA) (σ : L2.St) (Q : VK) : VK := fun x H1 => tyV K T x H1 ∧ t σ H1 fun xs H2 => r x xs H2 Q
theorem bm {T : String} {r : V → List V → Hp → VK → Prop} (k : ta σ H (bmK K T r t σ Q)) : tBM K T r ta t σ H Q := k
theorem bmK_l {r : V → List V → Hp → VK → Prop} {p : Addr} {xs : List V} (hq : SqL K H p xs) (k : t σ H fun ys H2 => r (.ref p) ys H2 Q) : bmK K "list" r t σ Q (.ref p) H := ⟨.inl ⟨rfl, _, hq⟩, k⟩
def m0K (r : V → List V → Hp → VK → Prop) (Q : VK) : VK := fun x H1 => (∃ a, x = .str a) ∧ r x [] H1 Q
theorem m0 {r : V → List V → Hp → VK → Prop} (k : ta σ H (m0K r Q)) : tM0 r ta σ H Q := k
theorem m0K_i {r : V → List V → Hp → VK → Prop} {a : Str} (k : r (.str a) [] H Q) : m0K r Q (.str a) H := ⟨⟨a, rfl⟩, k⟩
def m1K (r : V → List V → Hp → VK → Prop) (te : TE) (σ : L2.St) (Q : VK) : VK := fun x H1 => (∃ a, x = .str a) ∧ te σ H1 fun y H2 => r x [y] H2 Q
theorem m1 {r : V → List V → Hp → VK → Prop} (k : ta σ H (m1K r te σ Q)) : tM1 r ta te σ H Q := k
theorem m1K_i {r : V → List V → Hp → VK → Prop} {a : Str} (k : te σ H fun y H2 => r (.str a) [y] H2 Q) : m1K r te σ Q (.str a) H := ⟨⟨a, rfl⟩, k⟩
/-! starred items -/
def starK (K : PySem.W.Frag) (t : TA) (σ : L2.St) (QA : List V → Hp → Prop) : VK := fun x H1 => ∃ p xs, x = V.ref p ∧ (SqT K H1 p xs ∨ SqL K H1 p xs) ∧ t σ H1 fun ys H2 => QA (xs ++ ys) H2
theorem star (k : te σ H (starK K t σ QA)) : StX.tStar K te t σ H QA := k
theorem starK_t {p : Addr} {xs : List V} (hq : SqT K H p xs) (k : t σ H fun ys H2 => QA (xs ++ ys) H2) : starK K t σ QA (.ref p) H := ⟨p, xs, rfl, .inl hq, k⟩
theorem starK_l {p : Addr} {xs : List V} (hq : SqL K H p xs) (k : t σ H fun ys H2 => QA (xs ++ ys) H2) : starK K t σ QA (.ref p) H := ⟨p, xs, rfl, .inr hq, k⟩
/-! items, lengths, slices -/
theorem ixL {p : Addr} {xs : List V} {i : Int} {v : V} (hq : SqL K H p xs) (ha : atI xs i = some v) (k : Q v H) : rIxL K (.ref p) (.int i) H Q := ⟨p, xs, i, v, rfl, rfl, hq, ha, k⟩
theorem ixT {p : Addr} {xs : List V} {i : Int} {v : V} (hq : SqT K H p xs) (ha : atI xs i = some v) (k : Q v H) : rIxT K (.ref p) (.int i) H Q := ⟨p, xs, i, v, rfl, rfl, hq, ha, k⟩
theorem ixL0 {p : Addr} {xs : List V} {v : V} (hq : SqL K H p (v :: xs)) (k : Q v H) : rIxL K (.ref p) (.int 0) H Q := ⟨p, _, 0, v, rfl, rfl, hq, atn (i := 0) rfl, k⟩
theorem ixT0 {p : Addr} {xs : List V} {v : V} (hq : SqT K H p (v :: xs)) (k : Q v H) : rIxT K (.ref p) (.int 0) H Q := ⟨p, _, 0, v, rfl, rfl, hq, atn (i := 0) rfl, k⟩
theorem lenL {p : Addr} {xs : List V} (hq : SqL K H p xs) (k : Q (.int xs.length) H) : Evl.rLenS K [.ref p] H Q := ⟨p, xs, rfl, .inl hq, k⟩
theorem lenT {p : Addr} {xs : List V} (hq : SqT K H p xs) (k : Q (.int xs.length) H) : Evl.rLenS K [.ref p] H Q := ⟨p, xs, rfl, .inr hq, k⟩
theorem mx {i j : Int} (k : Q (.int (max i j)) H) : rMax2 [.int i, .int j] H Q := ⟨i, j, rfl, by
  have e : (if j > i then j else i) = max i j := by
    rw [Int.max_def]
    split <;> split <;> omega
  rw [e]
  exact k⟩
theorem mn {i j : Int} (k : Q (.int (min i j)) H) : rMin2 [.int i, .int j] H Q := ⟨i, j, rfl, by
  have e : (if j < i then j else i) = min i j := by
    rw [Int.min_def]
    split <;> split <;> omega
  rw [e]
  exact k⟩
theorem isN {x : V} (k : Q (.bl (decide (x = .non))) H) : rIsN x .non H Q := ⟨rfl, k⟩
theorem notN {x : V} (k : Q (.bl (!decide (x = .non))) H) : rNotN x .non H Q := ⟨rfl, k⟩
theorem noPart {QO : Option Int → Hp → Prop} (k : QO none H) : tNoPart σ H QO := k
def partK (QO : Option Int → Hp → Prop) : VK := fun x H1 => ∃ i, x = .int i ∧ QO (some i) H1
theorem part {QO : Option Int → Hp → Prop} (k : ta σ H (partK QO)) : tPart ta σ H QO := k
theorem partK_i {QO : Option Int → Hp → Prop} {i : Int} (k : QO (some i) H) : partK QO (.int i) H := ⟨i, rfl, k⟩
theorem slc {r : V → Option Int → Option Int → Hp → VK → Prop} {tl th : TO} (k : ta σ H fun x H1 => tl σ H1 fun l H2 => th σ H2 fun u H3 => r x l u H3 Q) : tSl r ta tl th σ H Q := k
theorem slT {a : Addr} {xs : List V} {lo hi : Option Int} (hq : SqT K H a xs) (k : ∀ p H', Same H H' → SqT K H' p (cutV xs lo hi) → Q (.ref p) H') : rSlA K (.ref a) lo hi H Q := by
  refine ⟨a, xs, rfl, hq, fun ⟨h1, h2⟩ => ?_, fun _ p hp => k p _ (Same.nw hp (Same.refl H)) (SqT.of upd_same)⟩
  have e : cutV xs lo hi = xs := by
    unfold cutV
    rw [h1, h2]
    simp
  exact k a H (Same.refl H) (by rw [e]; exact hq)
theorem catA {a b : Addr} {xs ys : List V} (h1 : SqT K H a xs) (h2 : SqT K H b ys) (n1 : xs ≠ []) (n2 : ys ≠ []) (hz : xs.length + ys.length ≤ 1000) (k : ∀ p H', H p = none → Same H H' → H' p = some (.tup (xs ++ ys)) → Q (.ref p) H') : rCatA K (.ref a) (.ref b) H Q :=
  ⟨a, b, xs, ys, rfl, rfl, h1, h2, Nat.le_trans hz (by decide), fun e => absurd e n1, fun _ e => absurd e n2, fun _ _ p hp => k p _ hp (Same.nw hp (Same.refl H)) upd_same⟩
theorem slTr {a : Addr} {xs : List V} {lo hi : Option Int} (hq : H a = some (.tup xs)) (k : ∀ p H', Same H H' → H' p = some (.tup (cutV xs lo hi)) → Q (.ref p) H') : rSlA K (.ref a) lo hi H Q := by
  refine ⟨a, xs, rfl, SqT.of hq, fun ⟨h1, h2⟩ => ?_, fun _ p hp => k p _ (Same.nw hp (Same.refl H)) upd_same⟩
  have e : cutV xs lo hi = xs := by
    unfold cutV
    rw [h1, h2]
    simp
  exact k a H (Same.refl H) (by rw [e]; exact hq)
theorem catTr {a b : Addr} {xs ys : List V} (h1 : H a = some (.tup xs)) (h2 : H b = some (.tup ys)) (hz : xs.length + ys.length ≤ 1000) (k : ∀ p H', Same H H' → H' p = some (.tup (xs ++ ys)) → Q (.ref p) H') : rCatA K (.ref a) (.ref b) H Q :=
  ⟨a, b, xs, ys, rfl, rfl, SqT.of h1, SqT.of h2, Nat.le_trans hz (by decide), fun e => k b H (Same.refl H) (by rw [e]; exact h2), fun _ e => k a H (Same.refl H) (by rw [e, List.append_nil]; exact h1), fun _ _ p hp => k p _ (Same.nw hp (Same.refl H)) upd_same⟩
theorem slL {a : Addr} {xs : List V} {lo hi : Option Int} (hq : SqL K H a xs) (k : ∀ p H', H p = none → Same H H' → H' p = some (.lst (cutV xs lo hi)) → Q (.ref p) H') : rSlL K (.ref a) lo hi H Q :=
  ⟨a, xs, rfl, hq, fun p hp => k p _ hp (Same.nw hp (Same.refl H)) upd_same⟩
theorem lstL {p : Addr} {xs : List V} (hq : SqL K H p xs) (k : ∀ q H', H q = none → Same H H' → H' q = some (.lst xs) → Q (.ref q) H') : rLst K [.ref p] H Q := ⟨p, xs, rfl, .inl hq, fun q hp => k q _ hp (Same.nw hp (Same.refl H)) upd_same⟩
theorem lstT {p : Addr} {xs : List V} (hq : SqT K H p xs) (k : ∀ q H', H q = none → Same H H' → H' q = some (.lst xs) → Q (.ref q) H') : rLst K [.ref p] H Q := ⟨p, xs, rfl, .inr hq, fun q hp => k q _ hp (Same.nw hp (Same.refl H)) upd_same⟩
theorem tplL {p : Addr} {xs : List V} (hq : SqL K H p xs) (k : ∀ q H', H q = none → Same H H' → H' q = some (.tup xs) → Q (.ref q) H') : rTpl K [.ref p] H Q := ⟨p, xs, rfl, .inl ⟨hq, fun q hp => k q _ hp (Same.nw hp (Same.refl H)) upd_same⟩⟩
theorem addS {i j : Str} (h : i.length + j.length ≤ 100000) (k : Q (.str (i ++ j)) H) : rAddS (.str i) (.str j) H Q := ⟨i, j, rfl, rfl, Nat.le_trans h (by decide), k⟩
theorem lenS {z : Str} (h : z.length ≤ 100000) (k : Q (.int z.length) H) : rLenStr [.str z] H Q := ⟨z, rfl, Nat.le_trans h (by decide), k⟩
theorem join {a : Str} {p : Addr} {ys : List Str} (hq : SqL K H p (ys.map V.str)) (hz : (ys.map (·.length)).sum + ys.length * a.length ≤ 16777216) (k : Q (.str (Txt.join a ys)) H) : rJoin K (.str a) [.ref p] H Q := ⟨a, p, ys, rfl, rfl, .inl hq, hz, k⟩
theorem split {a b : Str} (hb : (b.length == 0) = false) (hz : a.length ≤ 100000) (k : ∀ p H', H p = none → Same H H' → H' p = some (.lst ((Txt.split a b).map V.str)) → Q (.ref p) H') : rSplit (.str a) [.str b] H Q :=
  ⟨a, b, rfl, rfl, hb, Nat.le_trans (m := 100002) (by omega) (by decide), fun p hp => k p _ hp (Same.nw hp (Same.refl H)) upd_same⟩
theorem catL {a b : Addr} {xs ys : List V} (h1 : H a = some (.lst xs)) (h2 : H b = some (.lst ys)) (hz : xs.length + ys.length ≤ 100000) (k : ∀ p H', H p = none → Same H H' → H' p = some (.lst (xs ++ ys)) → Q (.ref p) H') : rCat (.ref a) (.ref b) H Q :=
  ⟨a, b, xs, ys, rfl, rfl, h1, h2, Nat.le_trans hz (by decide), fun p hp => k p _ hp (Same.nw hp (Same.refl H)) upd_same⟩
theorem catK (k : ta σ H fun x H1 => tb σ H1 fun y H2 => rCat x y H2 Q) : tOp rCat ta tb σ H Q := k
theorem sumL {a : Addr} {ns : List Int} (hq : SqL K H a (ns.map V.int)) (k : Q (.int ns.sum) H) : rSum K [.ref a] H Q := ⟨a, ns, rfl, hq, k⟩
theorem sumT {a : Addr} {ns : List Int} (hq : SqT K H a (ns.map V.int)) (k : Q (.int ns.sum) H) : rSumT K [.ref a] H Q := ⟨a, ns, rfl, hq, k⟩
theorem int1_i {i : Int} (k : Q (.int i) H) : rInt1 [.int i] H Q := .inl ⟨i, rfl, k⟩
theorem int1_b {b : Bool} (k : Q (.int (if b = true then 1 else 0)) H) : rInt1 [.bl b] H Q := .inr ⟨b, rfl, k⟩
/-! list(range(..)) -/
def rgK (Q : VK) : Int → Int → Hp → Prop := fun a b H1 => RgOk a b ∧ ∀ q, H1 q = none → Q (.ref q) (upd H1 q (.lst (rgV a b)))
theorem lrg {tr : L2.St → Hp → (Int → Int → Hp → Prop) → Prop} (k : tr σ H (rgK Q)) : tLstRg tr σ H Q := k
def rg1K (R : Int → Int → Hp → Prop) : VK := fun x H1 => ∃ n, x = .int n ∧ R 0 n H1
theorem rg1 {R : Int → Int → Hp → Prop} (k : ta σ H (rg1K R)) : tRg1 ta σ H R := k
theorem rg1K_i {R : Int → Int → Hp → Prop} {n : Int} (k : R 0 n H) : rg1K R (.int n) H := ⟨n, rfl, k⟩
def rg2K (R : Int → Int → Hp → Prop) (x : V) : VK := fun y H2 => ∃ i j, x = .int i ∧ y = .int j ∧ R i j H2
theorem rg2 {R : Int → Int → Hp → Prop} (k : ta σ H fun x H1 => tb σ H1 (rg2K R x)) : tRg2 ta tb σ H R := k
theorem rg2K_i {R : Int → Int → Hp → Prop} {i j : Int} (k : R i j H) : rg2K R (.int i) (.int j) H := ⟨i, j, rfl, rfl, k⟩
/-! targets, statements -/
theorem name {i : Nat} {v : V} {QS : L2.St → Hp → Prop} (k : QS (σ.set i (some v)) H) : gName i v σ H QS := k
theorem gtup {n : Nat} {tg : TGs} {a : Addr} {xs : List V} {QS : L2.St → Hp → Prop} (hq : SqT K H a xs) (hl : xs.length = n) (k : tg xs σ H QS) : gTup K n tg (.ref a) σ H QS := ⟨a, xs, rfl, hq, hl, k⟩
theorem glst {n : Nat} {tg : TGs} {a : Addr} {xs : List V} {QS : L2.St → Hp → Prop} (hq : SqL K H a xs) (hl : xs.length = n) (k : tg xs σ H QS) : gLst K n tg (.ref a) σ H QS := ⟨a, xs, rfl, hq, hl, k⟩
theorem gcons {tg : TG} {tu : TGs} {v : V} {r : List V} {QS : L2.St → Hp → Prop} (k : tg v σ H fun σ' H' => tu r σ' H' QS) : gCons tg tu (v :: r) σ H QS := ⟨v, r, rfl, k⟩
theorem gnil {QS : L2.St → Hp → Prop} (k : QS σ H) : gNil [] σ H QS := ⟨rfl, k⟩
theorem seq (k : ts { D with nx := tr D } σ H) : tSeq ts tr D σ H := k
theorem next (k : D.nx σ H) : tNext D σ H := k
theorem cont (k : D.ct σ H) : tCont D σ H := k
theorem drop (k : te σ H fun _ H1 => D.nx σ H1) : tDrop te D σ H := k
theorem ret (k : te σ H D.rt) : tRet te D σ H := k
theorem retN (k : D.rt .non H) : tRetN D σ H := k
theorem ifS (k : tt σ H fun b H1 => if b = true then ts D σ H1 else tr D σ H1) : tIfS tt ts tr D σ H := k
theorem asg {g : TG} (k : te σ H fun x H1 => g x σ H1 D.nx) : tAsg te g D σ H := k
def parK (i j : Nat) (σ : L2.St) (D : Ends) : List V → Hp → Prop := fun vs H1 => ∃ v w, vs = [v, w] ∧ D.nx ((σ.set i (some v)).set j (some w)) H1
theorem par {i j : Nat} (k : t σ H (parK i j σ D)) : tPar i j t D σ H := k
theorem parK_i {i j : Nat} {v w : V} (k : D.nx ((σ.set i (some v)).set j (some w)) H) : parK i j σ D [v, w] H := ⟨v, w, rfl, k⟩
def par3K (i j l : Nat) (σ : L2.St) (D : Ends) : List V → Hp → Prop := fun vs H1 => ∃ u v w, vs = [u, v, w] ∧ D.nx (((σ.set i (some u)).set j (some v)).set l (some w)) H1
theorem par3 {i j l : Nat} (k : t σ H (par3K i j l σ D)) : tPar3 i j l t D σ H := k
theorem par3K_i {i j l : Nat} {u v w : V} (k : D.nx (((σ.set i (some u)).set j (some v)).set l (some w)) H) : par3K i j l σ D [u, v, w] H := ⟨u, v, w, rfl, k⟩
theorem aug {i : Nat} {x : V} {ti : TIp} (h : σ[i]? = some (some x)) (k : te σ H fun y H1 => ti x y H1 fun z H2 => D.nx (σ.set i (some z)) H2) : tAug i te ti D σ H := ⟨x, h, k⟩
theorem ip {f : Int → Int → Int} {i j : Int} (k : Q (.int (f i j)) H) : ipI f (.int i) (.int j) H Q := ⟨i, j, rfl, rfl, k⟩
theorem ift {A B : Prop} (h : A) : if true = true then A else B := by rw [if_pos rfl]; exact h
theorem iff {A B : Prop} (h : B) : if false = true then A else B := by rw [if_neg Bool.false_ne_true]; exact h
theorem ifnt {A B : Prop} (h : B) : if (!true) = true then A else B := by rw [if_neg (by decide)]; exact h
theorem ifnf {A B : Prop} (h : A) : if (!false) = true then A else B := by rw [if_pos (show (!false) = true from rfl)]; exact h
theorem inS {x : V} {p : Addr} {xs : List V} (hq : SqL K H p xs ∨ SqT K H p xs) (fx : flatV x = true) (fs : xs.all flatV = true) (k : Q (.bl (inV x xs)) H) : rIn K false x (.ref p) H Q := ⟨p, xs, rfl, hq, fx, fs, by rw [if_neg (by decide)]; exact k⟩
theorem niS {x : V} {p : Addr} {xs : List V} (hq : SqL K H p xs ∨ SqT K H p xs) (fx : flatV x = true) (fs : xs.all flatV = true) (k : Q (.bl (!inV x xs)) H) : rIn K true x (.ref p) H Q := ⟨p, xs, rfl, hq, fx, fs, by rw [if_pos rfl]; exact k⟩
theorem bb {b : Bool} {A B : Prop} (h1 : b = true → A) (h2 : b = false → B) : if b = true then A else B := by
  cases b with
  | true => exact ift (h1 rfl)
  | false => exact iff (h2 rfl)
/-! tests whose answer is known, or both -/
section
variable {A B : Prop} {p : Prop} {ip : Decidable p} {a b : Int}
theorem dT (h : p) (k : A) : if decide p = true then A else B := by rw [if_pos (decide_eq_true h)]; exact k
theorem dF (h : ¬ p) (k : B) : if decide p = true then A else B := by rw [if_neg (by rw [decide_eq_false h]; decide)]; exact k
theorem nT (h : p) (k : B) : if (!decide p) = true then A else B := by rw [decide_eq_true h]; exact ifnt k
theorem nF (h : ¬ p) (k : A) : if (!decide p) = true then A else B := by rw [decide_eq_false h]; exact ifnf k
theorem d2 (h1 : p → A) (h2 : ¬ p → B) : if decide p = true then A else B := by
  by_cases h : p
  · exact dT h (h1 h)
  · exact dF h (h2 h)
theorem n2 (h1 : p → B) (h2 : ¬ p → A) : if (!decide p) = true then A else B := by
  by_cases h : p
  · exact nT h (h1 h)
  · exact nF h (h2 h)
theorem int_non {i : Int} : ¬ V.int i = V.non := fun q => by cases q
theorem ref_non {r : Addr} : ¬ V.ref r = V.non := fun q => by cases q
theorem vi (h : a ≠ b) : ¬ V.int a = V.int b := fun q => h (by injection q)
theorem eT (h : a = b) (k : A) : if decide (V.int a = V.int b) = true then A else B := dT (by rw [h]) k
theorem eF (h : a ≠ b) (k : B) : if decide (V.int a = V.int b) = true then A else B := dF (vi h) k
theorem e2 (h1 : a = b → A) (h2 : a ≠ b → B) : if decide (V.int a = V.int b) = true then A else B := by
  by_cases h : a = b
  · exact eT h (h1 h)
  · exact eF h (h2 h)
theorem neT (h : a = b) (k : B) : if (!decide (V.int a = V.int b)) = true then A else B := nT (by rw [h]) k
theorem neF (h : a ≠ b) (k : A) : if (!decide (V.int a = V.int b)) = true then A else B := nF (vi h) k
theorem ne2 (h1 : a = b → B) (h2 : a ≠ b → A) : if (!decide (V.int a = V.int b)) = true then A else B := by
  by_cases h : a = b
  · exact neT h (h1 h)
  · exact neF h (h2 h)
end
/-- a test that is false whichever way it goes -/
theorem ifF {ts tr : TS} {tt : L2.TT} {P : Hp → Prop} (h : ∀ Q : Bool → Hp → Prop, (∀ H', P H' → Q false H') → tt σ H Q) (k : ∀ H', P H' → tr D σ H') : tIfS tt ts tr D σ H := h _ fun H' p => iff (k H' p)
theorem ifT {ts tr : TS} {tt : L2.TT} {P : Hp → Prop} (h : ∀ Q : Bool → Hp → Prop, (∀ H', P H' → Q true H') → tt σ H Q) (k : ∀ H', P H' → ts D σ H') : tIfS tt ts tr D σ H := h _ fun H' p => ift (k H' p)
theorem cut {ts tr : TS} (P : L2.St → Hp → Prop) (h : ts { D with nx := P } σ H) (k : ∀ σ' H', P σ' H' → tr D σ' H') : Evl.tCut ts tr D σ H := ⟨P, h, k⟩
/-- a if c else b, both names: one value that goes on -/
theorem ifVV {c : Bool} {i j : Nat} {v u : V} (hi : σ[i]? = some (some v)) (hj : σ[j]? = some (some u)) (h : ∀ w, (c = true → w = v) → (c = false → w = u) → Q w H) : if c = true then tVar i σ H Q else tVar j σ H Q := by
  cases c with
  | true => exact ift ⟨v, hi, h v (fun _ => rfl) (fun q => by cases q)⟩
  | false => exact iff ⟨u, hj, h u (fun q => by cases q) (fun _ => rfl)⟩
/-- a if c else b: what is known of the value goes on -/
theorem ifM {c : Bool} (P : V → Hp → Prop) (hA : c = true → ∀ K' : VK, (∀ v H', P v H' → K' v H') → ta σ H K') (hB : c = false → ∀ K' : VK, (∀ v H', P v H' → K' v H') → tb σ H K') (k : ∀ v H', P v H' → Q v H') : if c = true then ta σ H Q else tb σ H Q := by
  cases c with
  | true => exact ift (hA rfl _ k)
  | false => exact iff (hB rfl _ k)
/-! appending to what is there -/
theorem app {l : Addr} {xs : List V} {y : V} (h : H l = some (.lst xs)) (hz : xs.length < 100000) (k : Q .non (upd H l (.lst (xs ++ [y])))) : rAppend (.ref l) [y] H Q := ⟨l, xs, y, rfl, rfl, h, Nat.lt_of_lt_of_le hz (by decide), k⟩
/-! equality of data: rd_eq takes it by the data's readings -/
theorem eqD {x y : V} {d e : PyData} (h1 : L2.Dp K H x d) (h2 : L2.Dp K H y e) (s1 : SeqAt.shaped d = true) (s2 : SeqAt.shaped e = true) (k : Q (.bl (PyData.eqv d e)) H) : rEqD K x y H Q := ⟨d, e, h1, h2, s1, s2, k⟩
theorem range_get {α β : Type} (l : List α) (d : α) (g : α → β) : (List.range l.length).map (fun i => g (l.getD i d)) = l.map g := by
  refine List.ext_getElem? fun i => ?_
  rw [List.getElem?_map, List.getElem?_map]
  by_cases h : i < l.length
  · rw [List.getElem?_range h, List.getElem?_eq_getElem h]
    simp [List.getD_eq_getElem?_getD, List.getElem?_eq_getElem h]
  · rw [List.getElem?_eq_none (by simp; omega), List.getElem?_eq_none (by omega)]
    rfl
theorem getD_of {α : Type} {l : List α} {i : Nat} {x d : α} (h : l[i]? = some x) : l.getD i d = x := by
  rw [List.getD_eq_getElem?_getD, h]
  rfl
/-! what is walked -/
def rngK (R : It → Hp → Prop) : List V → Hp → Prop := fun vs H1 => ∃ j : Int, vs = [.int j] ∧ -(2 ^ 62) ≤ j ∧ j < 2 ^ 62 ∧ R (Itr 0 j.toNat) H1
theorem rng {R : It → Hp → Prop} (k : t σ H (rngK R)) : iRng1 t σ H R := k
theorem rngK_n {R : It → Hp → Prop} {n : Nat} (h : n ≤ 1000000000) (k : R (Itr 0 n) H) : rngK R [.int (n : Int)] H := ⟨n, rfl, by omega, by omega, by rw [Int.toNat_natCast]; exact k⟩
theorem rngK_z {R : It → Hp → Prop} {z : Int} (h : z.toNat ≤ 1000000000) (h0 : -1000000000 ≤ z) (k : R (Itr 0 z.toNat) H) : rngK R [.int z] H := ⟨z, rfl, by omega, by omega, k⟩
theorem rngK_lit {R : It → Hp → Prop} {n : Nat} (h : n ≤ 1000000000) (k : R (Itr 0 (OfNat.ofNat n : Nat)) H) : rngK R [.int (OfNat.ofNat n : Int)] H := rngK_n h k
def rng2K (R : It → Hp → Prop) : List V → Hp → Prop := fun vs H1 => ∃ i j : Int, vs = [.int i, .int j] ∧ (-(2 ^ 62) ≤ i ∧ i < 2 ^ 62 ∧ -(2 ^ 62) ≤ j ∧ j < 2 ^ 62) ∧ R (Itr i (j - i).toNat) H1
theorem rng2 {R : It → Hp → Prop} (k : t σ H (rng2K R)) : iRng2 t σ H R := k
theorem rng2K_i {R : It → Hp → Prop} {i j : Int} (hb : -(2 ^ 62) ≤ i ∧ i < 2 ^ 62 ∧ -(2 ^ 62) ≤ j ∧ j < 2 ^ 62) (k : R (Itr i (j - i).toNat) H) : rng2K R [.int i, .int j] H := ⟨i, j, rfl, hb, k⟩
def zipK (K : PySem.W.Frag) (R : It → Hp → Prop) : List V → Hp → Prop := fun vs H1 => ∃ a b xs ys, vs = [.ref a, .ref b] ∧ ((SqL K H1 a xs ∧ SqL K H1 b ys ∧ R (L2.Itz K a b) H1) ∨ (SqT K H1 a xs ∧ SqT K H1 b ys ∧ R (RZ.ItzT K a b) H1))
theorem zip {R : It → Hp → Prop} (k : t σ H (zipK K R)) : RZ.iZipA K t σ H R := k
theorem zipK_t {R : It → Hp → Prop} {a b : Addr} {xs ys : List V} (ha : SqT K H a xs) (hb : SqT K H b ys) (k : R (RZ.ItzT K a b) H) : zipK K R [.ref a, .ref b] H := ⟨a, b, xs, ys, rfl, .inr ⟨ha, hb, k⟩⟩
def listK (K : PySem.W.Frag) (R : It → Hp → Prop) : VK := fun x H1 => ∃ a, x = .ref a ∧ (∃ xs, SqL K H1 a xs) ∧ R (Itl K a) H1
theorem ilist {R : It → Hp → Prop} (k : ta σ H (listK K R)) : iList K ta σ H R := k
theorem listK_i {R : It → Hp → Prop} {a : Addr} {xs : List V} (hq : SqL K H a xs) (k : R (Itl K a) H) : listK K R (.ref a) H := ⟨a, rfl, ⟨xs, hq⟩, k⟩
def ituK (K : PySem.W.Frag) (R : It → Hp → Prop) : VK := fun x H1 => ∃ a, x = .ref a ∧ (∃ xs, SqT K H1 a xs) ∧ R (Itt K a) H1
theorem itup {R : It → Hp → Prop} (k : ta σ H (ituK K R)) : iTup K ta σ H R := k
theorem ituK_i {R : It → Hp → Prop} {a : Addr} {xs : List V} (hq : SqT K H a xs) (k : R (Itt K a) H) : ituK K R (.ref a) H := ⟨a, rfl, ⟨xs, hq⟩, k⟩
def forK (g : TG) (tb : TS) (D : Ends) (σ : L2.St) (J : It) (H1 : Hp) : Prop := ∃ W : Nat → Nat → L2.St → Hp → Prop, (∃ m, W 0 m σ H1) ∧ ∀ i m σ H, W i m σ H →
  (J.stop i H ∧ D.nx σ H) ∨ (J.go i H ∧ ∃ N : L2.St → Hp → Prop, (∀ σ' H', N σ' H' → ∃ m', m' < m ∧ W (i + 1) m' σ' H') ∧ ∀ x H', J.yld i H x H' → g x σ H' fun σ2 H2 => tb { D with nx := N, ct := N, bk := D.nx } σ2 H2)
theorem tfor {wi : TI} {g : TG} (k : wi σ H (forK g ts D σ)) : tFor wi g ts D σ H := k
def lcK (g : TG) (tt : L2.TT) (te : TE) (vs : List Nat) (σ : L2.St) (Q : VK) (J : It) (H1 : Hp) : Prop := ∀ D, H1 D = none → ∃ W : Nat → Nat → Hp → Prop, (∃ m, W 0 m (upd H1 D (.lst []))) ∧ ∀ i m H, W i m H →
  (J.stop i H ∧ Q (.ref D) H) ∨ (J.go i H ∧ ∃ Nx : Hp → Prop, (∀ H', Nx H' → ∃ m', m' < m ∧ W (i + 1) m' H') ∧ ∀ x H', J.yld i H x H' → g x (wipe σ vs) H' fun σ2 H2 => wipe σ2 vs = wipe σ vs ∧ tt σ2 H2 fun b H3 =>
    if b = true then te σ2 H3 fun y H4 => ∃ acc, H4 D = some (.lst acc) ∧ acc.length < sizeLine ∧ Nx (upd H4 D (.lst (acc ++ [y]))) else Nx H3)
theorem tlc {wi : TI} {g : TG} {vs : List Nat} (k : wi σ H (lcK g tt te vs σ Q)) : tLc wi g tt te vs σ H Q := k
/-- for i in range(n): the items are 0, 1, .. -/
theorem for_rng {n : Nat} {g : TG} (Pv : Nat → L2.St → Hp → Prop) (h0 : Pv 0 σ H) (hs : ∀ (i : Nat) σ H, i < n → Pv i σ H → g (.int (i : Int)) σ H fun σ2 H2 => ts { D with nx := Pv (i + 1), ct := Pv (i + 1), bk := D.nx } σ2 H2) (hd : ∀ σ H, Pv n σ H → D.nx σ H) :
    forK g ts D σ (Itr 0 n) H :=
  for_range (lo := 0) (n := n) Pv h0 (fun i σ H hi p => by have z := hs i σ H hi p; rw [Int.zero_add]; exact z) hd
/-- from lo -/
theorem for_rng2 {lo : Int} {n : Nat} {g : TG} (Pv : Nat → L2.St → Hp → Prop) (h0 : Pv 0 σ H) (hs : ∀ (i : Nat) σ H, i < n → Pv i σ H → g (.int (lo + i)) σ H fun σ2 H2 => ts { D with nx := Pv (i + 1), ct := Pv (i + 1), bk := D.nx } σ2 H2) (hd : ∀ σ H, Pv n σ H → D.nx σ H) :
    forK g ts D σ (Itr lo n) H := for_range (lo := lo) (n := n) Pv h0 hs hd
theorem for_lst {a : Addr} {xs : List V} {g : TG} (Pv : Nat → L2.St → Hp → Prop) (h0 : Pv 0 σ H) (hl : ∀ i σ H, i ≤ xs.length → Pv i σ H → SqL K H a xs)
    (hs : ∀ i x σ H, xs[i]? = some x → Pv i σ H → g x σ H fun σ2 H2 => ts { D with nx := Pv (i + 1), ct := Pv (i + 1), bk := D.nx } σ2 H2) (hd : ∀ σ H, Pv xs.length σ H → D.nx σ H) : forK g ts D σ (Itl K a) H := for_list Pv h0 hl hs hd
theorem for_tpl {a : Addr} {xs : List V} {g : TG} (Pv : Nat → L2.St → Hp → Prop) (h0 : Pv 0 σ H) (hl : ∀ i σ H, i ≤ xs.length → Pv i σ H → SqT K H a xs)
    (hs : ∀ i x σ H, xs[i]? = some x → Pv i σ H → g x σ H fun σ2 H2 => ts { D with nx := Pv (i + 1), ct := Pv (i + 1), bk := D.nx } σ2 H2) (hd : ∀ σ H, Pv xs.length σ H → D.nx σ H) : forK g ts D σ (Itt K a) H := for_tup Pv h0 hl hs hd
/-- an item's turn: what the item is worth, nothing that was there changed -/
def Turn1 (g : TG) (te : TE) (σ : L2.St) (vs : List Nat) (x : V) (y : V) (H0 : Hp) : Prop :=
  ∀ H' (QS : L2.St → Hp → Prop), Same H0 H' → (∀ σ2, wipe σ2 vs = wipe σ vs → (∀ Q' : VK, (∀ H'', Same H' H'' → Q' y H'') → te σ2 H' Q') → QS σ2 H') → g x (wipe σ vs) H' QS
theorem turn1 {i : Nat} {x y : V} {H0 : Hp} {vs : List Nat} (hw : wipe ((wipe σ vs).set i (some x)) vs = wipe σ vs) (h : ∀ H', Same H0 H' → ∀ Q' : VK, (∀ H'', Same H' H'' → Q' y H'') → te ((wipe σ vs).set i (some x)) H' Q') : Turn1 (gName i) te σ vs x y H0 :=
  fun H' QS S k => k _ hw fun Q' q => h H' S Q' q
theorem turn_tup2 {K : PySem.W.Frag} {i j : Nat} {r : Addr} {a b y : V} {H0 : Hp} {vs : List Nat} (hw : wipe (((wipe σ vs).set i (some a)).set j (some b)) vs = wipe σ vs) (hx : SqT K H0 r [a, b]) (h : ∀ H', Same H0 H' → ∀ Q' : VK, (∀ H'', Same H' H'' → Q' y H'') → te (((wipe σ vs).set i (some a)).set j (some b)) H' Q') :
    Turn1 (gTup K 2 (gCons (gName i) (gCons (gName j) gNil))) te σ vs (.ref r) y H0 :=
  fun H' QS S k => ⟨r, _, rfl, sqt_sm S hx, rfl, _, _, rfl, _, _, rfl, rfl, k _ hw fun Q' q => h H' S Q' q⟩
/-- [e for i in range(n)], e worth f i -/
theorem lc_rng {n : Nat} {g : TG} {vs : List Nat} (f : Nat → V) (hn : n ≤ 100000) (hs : ∀ i : Nat, i < n → Turn1 g te σ vs (.int (i : Int)) (f i) H) (k : ∀ D H', H D = none → Same H H' → H' D = some (.lst ((List.range n).map f)) → Q (.ref D) H') :
    lcK g tYes te vs σ Q (Itr 0 n) H := fun D hD => by
  refine lc_range (lo := 0) (n := n) (fun i H2 => Same H H2 ∧ H2 D = some (.lst ((List.range i).map f))) ⟨Same.nw hD (Same.refl H), upd_same⟩ ?_ fun H2 ⟨S2, h2⟩ => k D H2 hD S2 h2
  rintro i H2 hi ⟨S2, h2⟩
  rw [Int.zero_add]
  refine hs i hi H2 _ S2 fun σ2 hw q => ⟨hw, yes (ift (q _ fun H4 S4 => ⟨_, S4 _ _ h2, Nat.lt_of_le_of_lt (m := 100000) (by simp; omega) (by decide), fun b o e => ?_, ?_⟩))⟩
  · rw [upd_ne (ne_of_none e hD)]
    exact S4 _ _ (S2 _ _ e)
  · rw [upd_same, List.range_succ, List.map_append]
    rfl
theorem lc_rngL {n : Nat} {lo : Int} {g : TG} {vs : List Nat} (f : Nat → V) (hn : n ≤ 100000) (hs : ∀ i : Nat, i < n → Turn1 g te σ vs (.int (lo + i)) (f i) H) (k : ∀ D H', H D = none → Same H H' → H' D = some (.lst ((List.range n).map f)) → Q (.ref D) H') :
    lcK g tYes te vs σ Q (Itr lo n) H := fun D hD => by
  refine lc_range (lo := lo) (n := n) (fun i H2 => Same H H2 ∧ H2 D = some (.lst ((List.range i).map f))) ⟨Same.nw hD (Same.refl H), upd_same⟩ ?_ fun H2 ⟨S2, h2⟩ => k D H2 hD S2 h2
  rintro i H2 hi ⟨S2, h2⟩
  refine hs i hi H2 _ S2 fun σ2 hw q => ⟨hw, yes (ift (q _ fun H4 S4 => ⟨_, S4 _ _ h2, Nat.lt_of_le_of_lt (m := 100000) (by simp; omega) (by decide), fun b o e => ?_, ?_⟩))⟩
  · rw [upd_ne (ne_of_none e hD)]
    exact S4 _ _ (S2 _ _ e)
  · rw [upd_same, List.range_succ, List.map_append]
    rfl
/-- a comprehension whose items are new objects: R tells what the i-th item is -/
theorem lc_rngR {n : Nat} {lo : Int} {idx : Nat} {vs : List Nat} (R : Nat → V → Hp → Prop) (hn : n ≤ 100000) (hw : ∀ v : V, wipe ((wipe σ vs).set idx (some v)) vs = wipe σ vs)
    (hs : ∀ i : Nat, i < n → ∀ H' D, H D = none → Same H H' → H' D ≠ none → ∀ Q' : VK, (∀ y H'', Same H' H'' → (∀ Hx, But D H'' Hx → R i y Hx) → Q' y H'') → te ((wipe σ vs).set idx (some (.int (lo + i)))) H' Q')
    (k : ∀ D ys H', H D = none → Same H H' → H' D = some (.lst ys) → ys.length = n → (∀ (i : Nat) y, ys[i]? = some y → R i y H') → Q (.ref D) H') : lcK (gName idx) tYes te vs σ Q (Itr lo n) H := fun D hD => by
  refine lc_range (lo := lo) (n := n) (fun i H2 => ∃ ys : List V, Same H H2 ∧ H2 D = some (.lst ys) ∧ ys.length = i ∧ ∀ (j : Nat) y, ys[j]? = some y → ∀ Hx, But D H2 Hx → R j y Hx) ⟨[], Same.nw hD (Same.refl H), upd_same, rfl, fun j y h => by cases h⟩ ?_ fun H2 ⟨ys, S2, h2, hl, hR⟩ => k D ys H2 hD S2 h2 hl fun j y h => hR j y h H2 fun _ _ _ e => e
  rintro i H2 hi ⟨ys, S2, h2, hl, hR⟩
  refine ⟨hw _, yes (ift (hs i hi H2 D hD S2 (by rw [h2]; simp) _ fun y H4 S4 hy => ⟨_, S4 _ _ h2, Nat.lt_of_le_of_lt (m := 100000) (by omega) (by decide), ys ++ [y], fun b o e => ?_, upd_same, by simp [hl], fun j z hz Hx hb => ?_⟩))⟩
  · rw [upd_ne (ne_of_none e hD)]
    exact S4 _ _ (S2 _ _ e)
  · have b4 : But D H4 Hx := fun b o ne e => hb b o ne (by rw [upd_ne ne]; exact e)
    rcases Nat.lt_or_ge j ys.length with lt1 | ge1
    · rw [List.getElem?_append_left lt1] at hz
      exact hR j z hz Hx fun b o ne e => b4 b o ne (S4 _ _ e)
    · rw [List.getElem?_append_right ge1] at hz
      have ej : j - ys.length = 0 := by
        have := (List.getElem?_eq_some_iff.mp hz).1
        simp at this
        omega
      rw [ej] at hz
      obtain rfl : y = z := Option.some.inj hz
      obtain rfl : j = i := by omega
      exact hy Hx b4
/-- over a range by steps -/
theorem for_itc {lo c : Int} {n : Nat} {g : TG} (Pv : Nat → L2.St → Hp → Prop) (h0 : Pv 0 σ H) (hs : ∀ (i : Nat) σ H, i < n → Pv i σ H → g (.int (lo + (i : Nat) * c)) σ H fun σ2 H2 => ts { D with nx := Pv (i + 1), ct := Pv (i + 1), bk := D.nx } σ2 H2) (hd : ∀ σ H, Pv n σ H → D.nx σ H) :
    forK g ts D σ (Itc lo c n) H := for_rangeC Pv h0 hs hd
def rng3K (R : It → Hp → Prop) : List V → Hp → Prop := fun vs H1 => ∃ (i j c : Int) (n : Nat), vs = [.int i, .int j, .int c] ∧ RgC i j c n ∧ R (Itc i c n) H1
theorem rng3 {R : It → Hp → Prop} (k : t σ H (rng3K R)) : iRng3 t σ H R := k
theorem rng3K_i {R : It → Hp → Prop} {i j c : Int} {n : Nat} (h : RgC i j c n) (k : R (Itc i c n) H) : rng3K R [.int i, .int j, .int c] H := ⟨i, j, c, n, rfl, h, k⟩
/-- [e for x in a list], e worth f of the place -/
theorem lc_lst {a : Addr} {xs : List V} {g : TG} {vs : List Nat} (f : Nat → V) (ha : SqL K H a xs) (hn : xs.length ≤ 100000) (hs : ∀ i x, xs[i]? = some x → Turn1 g te σ vs x (f i) H) (k : ∀ D H', H D = none → Same H H' → H' D = some (.lst ((List.range xs.length).map f)) → Q (.ref D) H') :
    lcK g tYes te vs σ Q (Itl K a) H := fun D hD => by
  refine lc_list (K := K) (a := a) (xs := xs) (fun i H2 => Same H H2 ∧ H2 D = some (.lst ((List.range i).map f))) ⟨Same.nw hD (Same.refl H), upd_same⟩ (fun i H2 _ ⟨S2, _⟩ => S2.seq ha) ?_ fun H2 ⟨S2, h2⟩ => k D H2 hD S2 h2
  rintro i x H2 hx ⟨S2, h2⟩
  have hi : i < xs.length := (List.getElem?_eq_some_iff.mp hx).1
  refine hs i x hx H2 _ S2 fun σ2 hw q => ⟨hw, yes (ift (q _ fun H4 S4 => ⟨_, S4 _ _ h2, Nat.lt_of_le_of_lt (m := 100000) (by simp; omega) (by decide), fun b o e => ?_, ?_⟩))⟩
  · rw [upd_ne (ne_of_none e hD)]
    exact S4 _ _ (S2 _ _ e)
  · rw [upd_same, List.range_succ, List.map_append]
    rfl
theorem lc_tpl {a : Addr} {xs : List V} {g : TG} {vs : List Nat} (f : Nat → V) (ha : SqT K H a xs) (hn : xs.length ≤ 100000) (hs : ∀ i x, xs[i]? = some x → Turn1 g te σ vs x (f i) H) (k : ∀ D H', H D = none → Same H H' → H' D = some (.lst ((List.range xs.length).map f)) → Q (.ref D) H') :
    lcK g tYes te vs σ Q (Itt K a) H := fun D hD => by
  refine lc_tup (K := K) (a := a) (xs := xs) (fun i H2 => Same H H2 ∧ H2 D = some (.lst ((List.range i).map f))) ⟨Same.nw hD (Same.refl H), upd_same⟩ (fun i H2 _ ⟨S2, _⟩ => sqt_sm S2 ha) ?_ fun H2 ⟨S2, h2⟩ => k D H2 hD S2 h2
  rintro i x H2 hx ⟨S2, h2⟩
  have hi : i < xs.length := (List.getElem?_eq_some_iff.mp hx).1
  refine hs i x hx H2 _ S2 fun σ2 hw q => ⟨hw, yes (ift (q _ fun H4 S4 => ⟨_, S4 _ _ h2, Nat.lt_of_le_of_lt (m := 100000) (by simp; omega) (by decide), fun b o e => ?_, ?_⟩))⟩
  · rw [upd_ne (ne_of_none e hD)]
    exact S4 _ _ (S2 _ _ e)
  · rw [upd_same, List.range_succ, List.map_append]
    rfl
/-- with an if: the test's answer, the item's worth -/
def Turn2 (g : TG) (tt : L2.TT) (te : TE) (σ : L2.St) (vs : List Nat) (x : V) (b : Bool) (y : V) (H0 : Hp) : Prop :=
  ∀ H' (QS : L2.St → Hp → Prop), Same H0 H' → (∀ σ2, wipe σ2 vs = wipe σ vs → (∀ Q' : Bool → Hp → Prop, (∀ H'', Same H' H'' → Q' b H'') → tt σ2 H' Q') → (∀ H1, Same H' H1 → b = true → ∀ Q' : VK, (∀ H'', Same H1 H'' → Q' y H'') → te σ2 H1 Q') → QS σ2 H') → g x (wipe σ vs) H' QS
theorem turn2 {i : Nat} {x y : V} {b : Bool} {H0 : Hp} {vs : List Nat} (hw : wipe ((wipe σ vs).set i (some x)) vs = wipe σ vs) (h1 : ∀ H', Same H0 H' → ∀ Q' : Bool → Hp → Prop, (∀ H'', Same H' H'' → Q' b H'') → tt ((wipe σ vs).set i (some x)) H' Q')
    (h2 : ∀ H', Same H0 H' → b = true → ∀ Q' : VK, (∀ H'', Same H' H'' → Q' y H'') → te ((wipe σ vs).set i (some x)) H' Q') : Turn2 (gName i) tt te σ vs x b y H0 :=
  fun H' QS S k => k _ hw (fun Q' q => h1 H' S Q' q) fun H1 S1 hb Q' q => h2 H1 (S.trans S1) hb Q' q
theorem lc_rng_if {n : Nat} {lo : Int} {g : TG} {vs : List Nat} (c : Nat → Bool) (f : Nat → V) (hn : n ≤ 100000) (hs : ∀ i : Nat, i < n → Turn2 g tt te σ vs (.int (lo + i)) (c i) (f i) H) (k : ∀ D H', H D = none → Same H H' → H' D = some (.lst (((List.range n).filter c).map f)) → Q (.ref D) H') :
    lcK g tt te vs σ Q (Itr lo n) H := fun D hD => by
  refine lc_range (lo := lo) (n := n) (fun i H2 => Same H H2 ∧ H2 D = some (.lst (((List.range i).filter c).map f))) ⟨Same.nw hD (Same.refl H), upd_same⟩ ?_ fun H2 ⟨S2, h2⟩ => k D H2 hD S2 h2
  rintro i H2 hi ⟨S2, h2⟩
  have e1 : (List.range (i + 1)).filter c = (List.range i).filter c ++ if c i = true then [i] else [] := by
    rw [List.range_succ, List.filter_append]
    congr 1
    by_cases h : c i = true <;> simp [h]
  have hl : ((List.range i).filter c).length ≤ i := by
    have := List.length_filter_le c (List.range i)
    rw [List.length_range] at this
    exact this
  refine hs i hi H2 _ S2 fun σ2 hw q1 q2 => ⟨hw, q1 _ fun H3 S3 => ?_⟩
  have h3 := S3 _ _ h2
  refine bb (fun hc => q2 H3 S3 hc _ fun H4 S4 => ⟨_, S4 _ _ h3, Nat.lt_of_le_of_lt (m := 100000) (by rw [List.length_map]; omega) (by decide), fun b o e => ?_, ?_⟩) fun hc => ⟨S2.trans S3, ?_⟩
  · rw [upd_ne (ne_of_none e hD)]
    exact S4 _ _ (S3 _ _ (S2 _ _ e))
  · rw [upd_same, e1, if_pos hc, List.map_append]
    rfl
  · rw [e1, if_neg (by rw [hc]; decide), List.append_nil]
    exact h3
theorem lc_rng0_if {n : Nat} {g : TG} {vs : List Nat} (c : Nat → Bool) (f : Nat → V) (hn : n ≤ 100000) (hs : ∀ i : Nat, i < n → Turn2 g tt te σ vs (.int (i : Int)) (c i) (f i) H) (k : ∀ D H', H D = none → Same H H' → H' D = some (.lst (((List.range n).filter c).map f)) → Q (.ref D) H') :
    lcK g tt te vs σ Q (Itr 0 n) H := lc_rng_if (lo := 0) c f hn (fun i hi => by have z := hs i hi; rw [Int.zero_add]; exact z) k
theorem lc_lst_if {a : Addr} {xs : List V} {g : TG} {vs : List Nat} (c : Nat → Bool) (f : Nat → V) (ha : SqL K H a xs) (hn : xs.length ≤ 100000) (hs : ∀ i x, xs[i]? = some x → Turn2 g tt te σ vs x (c i) (f i) H) (k : ∀ D H', H D = none → Same H H' → H' D = some (.lst (((List.range xs.length).filter c).map f)) → Q (.ref D) H') :
    lcK g tt te vs σ Q (Itl K a) H := fun D hD => by
  refine lc_list (K := K) (a := a) (xs := xs) (fun i H2 => Same H H2 ∧ H2 D = some (.lst (((List.range i).filter c).map f))) ⟨Same.nw hD (Same.refl H), upd_same⟩ (fun i H2 _ ⟨S2, _⟩ => S2.seq ha) ?_ fun H2 ⟨S2, h2⟩ => k D H2 hD S2 h2
  rintro i x H2 hx ⟨S2, h2⟩
  have hi : i < xs.length := (List.getElem?_eq_some_iff.mp hx).1
  have e1 : (List.range (i + 1)).filter c = (List.range i).filter c ++ if c i = true then [i] else [] := by
    rw [List.range_succ, List.filter_append]
    congr 1
    by_cases h : c i = true <;> simp [h]
  have hl : ((List.range i).filter c).length ≤ i := by
    have := List.length_filter_le c (List.range i)
    rw [List.length_range] at this
    exact this
  refine hs i x hx H2 _ S2 fun σ2 hw q1 q2 => ⟨hw, q1 _ fun H3 S3 => ?_⟩
  have h3 := S3 _ _ h2
  refine bb (fun hc => q2 H3 S3 hc _ fun H4 S4 => ⟨_, S4 _ _ h3, Nat.lt_of_le_of_lt (m := 100000) (by rw [List.length_map]; omega) (by decide), fun b o e => ?_, ?_⟩) fun hc => ⟨S2.trans S3, ?_⟩
  · rw [upd_ne (ne_of_none e hD)]
    exact S4 _ _ (S3 _ _ (S2 _ _ e))
  · rw [upd_same, e1, if_pos hc, List.map_append]
    rfl
  · rw [e1, if_neg (by rw [hc]; decide), List.append_nil]
    exact h3
end Rd
end Tk

namespace Tk
open PySem PySem.Spec PyProof.Rows L2
/-- a number that is not negative, as a value -/
abbrev vn (n : Nat) : V := .int (n : Int)
/-- all but d stands as before; d holds a source -/
structure Src (d : Addr) (H H' : Hp) : Prop where
  but : But d H H'
  at_ : ∃ cs, H' d = some (.lst cs) ∧ DSt cs
theorem But.free {d : Addr} {H H' : Hp} (b : But d H H') (hd : ∃ cs, H d = some (.lst cs)) {p : Addr} (h : H' p = none) (hd' : ∃ cs, H' d = some (.lst cs)) : H p = none := by
  cases q : H p with
  | none => rfl
  | some o =>
    by_cases e : p = d
    · obtain ⟨cs, z⟩ := hd'
      rw [e, z] at h
      cases h
    · rw [b p o e q] at h
      cases h
theorem But.refl (d : Addr) (H : Hp) : But d H H := fun _ _ _ h => h
theorem But.trans {d : Addr} {H H1 H2 : Hp} (a : But d H H1) (b : But d H1 H2) : But d H H2 := fun p o n h => b p o n (a p o n h)
theorem But.same {d : Addr} {H H1 : Hp} (a : Same H H1) : But d H H1 := fun p o _ h => a p o h
theorem But.at_d {d : Addr} {H : Hp} {o : HO} : But d H (upd H d o) := fun p u n h => by rw [upd_ne n]; exact h
theorem But.new {d p : Addr} {H : Hp} {o : HO} (h : H p = none) : But d H (upd H p o) := fun b u _ e => by rw [upd_ne (ne_of_none e h)]; exact e
theorem Same.new {p : Addr} {H : Hp} {o : HO} (h : H p = none) : Same H (upd H p o) := fun b u e => by rw [upd_ne (ne_of_none e h)]; exact e
theorem Same.free1 {H H1 : Hp} (a : Same H H1) {p : Addr} (h : H1 p = none) : H p = none := Same.free a h
/-- a pattern -/
structure Pat (ps : List Nat) : Prop where
  pos : 0 < ps.length
  len : ps.length ≤ 12
  nine : ∀ x ∈ ps, x ≤ 9
def spPattern : Sp := fun vs H Q _ => ∃ (d : Addr) (most : Nat) (cs : List V), vs = [.ref d, vn most] ∧ 0 < most ∧ most ≤ 12 ∧ H d = some (.lst cs) ∧ DSt cs ∧
  ∀ (t : Addr) (ps : List Nat) (H' : Hp), H t = none → Src d H H' → H' t = some (.tup (ps.map vn)) → Pat ps → ps.length ≤ most → Q (.ref t) H'
section
variable {P : Program} {w : World} {K : PySem.W.Frag} {mg : Str → Option Value} {base : Heap}
theorem high_of {r : Int} (h0 : 0 ≤ r) (h1 : r < 3) : ∃ v : Nat, atI [V.int 2, V.int 3, V.int 10] r = some (vn v) ∧ 0 < v ∧ v ≤ 10 := by
  have : r = ((0 : Nat) : Int) ∨ r = ((1 : Nat) : Int) ∨ r = ((2 : Nat) : Int) := by omega
  rcases this with e | e | e
  · exact ⟨2, by rw [e]; exact atn rfl, by omega, by omega⟩
  · exact ⟨3, by rw [e]; exact atn rfl, by omega, by omega⟩
  · exact ⟨10, by rw [e]; exact atn rfl, by omega, by omega⟩
theorem ok__law_pattern (T : Txt K mg) : OkF P w K mg base 2 (He.ga K "_law_pattern") ["_law_d", "_law_most_here"] spPattern := by
  have G__law_below : OkF P w K mg base 1 (He.ga K "_law_below") ["_law_d", "_law_limit"] spBelow := ok__law_below T
  refine FnP.okF T.f__law_pattern sc__law_pattern (fun _ _ _ _ _ _ us hl => match us, hl with | [_, _], _ => rfl) (fun vs H Q E h => ?_) (fun cdv A outer s H vs Q E hr h => ?_)
  · obtain ⟨d, most, cs, rfl, _⟩ := h
    rfl
  obtain ⟨d, most, cs, rfl, m0, m1, hd, hcs, k⟩ := h
  refine ⟨_, (pss_cons (ps_set (i := 2) sc__law_pattern.nd rfl (Or.inr rfl) (pe_ix (ixLK (K := K)) (pe_lst (pa_cons pe_int (pa_cons pe_int (pa_cons pe_int pa_nil)))) (pe_call G__law_below.one (hr.mono (by decide)) (by rfl) T.g__law_below G__law_below.kp G__law_below.two .nil passL (pa_cons (pv 0) (pa_cons pe_int pa_nil))) (fun _ _ => rfl)))
    (pss_one (ps_ret (pe_callTy (tplK (K := K)) (by rfl) T.g_tuple (by decide +kernel) (pa_cons (pe_lc (own := [("_law_k", 3)]) (g := gName 3) (tt := tYes) (by rfl) sc__law_pattern.nd (pi_range1 (by rfl) T.g_range (pa_cons (pe_op op_add pe_int (pe_call G__law_below.one (hr.mono (by decide)) (by rfl) T.g__law_below G__law_below.kp G__law_below.two .nil passL (pa_cons (pv 0) (pa_cons (pv 1) pa_nil)))) pa_nil)) (blkOk_by (own := [("_law_k", 3)]) (N := N__law_pattern) (sc := (defScope s__law_pattern)) (by decide +kernel)) (fun _ _ _ _ _ => pg_name (i := 3) sc__law_pattern.nd rfl (Or.inl rfl)) (fun _ _ _ _ _ => pts_nil) (fun _ _ _ _ _ => (pe_call G__law_below.one (hr.mono (by decide)) (by rfl) T.g__law_below G__law_below.kp G__law_below.two .nil passL (pa_cons (pv 0) (pa_cons (pv 2) pa_nil))))) pa_nil))))), ?_⟩
  -- high = [2, 3, 10][below(d, 3)]
  refine ⟨(by show 3 ≤ sizeLine; decide), fun l hl => ?_⟩
  have ndl : d ≠ l := ne_of_none hd hl
  refine ⟨_, rfl, d, 3, cs, rfl, by decide, by decide, by rw [upd_ne ndl]; exact hd, hcs, fun r cs1 r0 r1 hcs1 => ?_⟩
  obtain ⟨v, hv, v0, v1⟩ := high_of r0 r1
  refine ⟨l, _, r, _, rfl, rfl, SqL.of (by rw [upd_ne ndl.symm]; exact upd_same), hv, ?_⟩
  -- range(1 + below(d, most))
  refine ⟨_, rfl, _, rfl, d, most, cs1, rfl, by omega, by omega, upd_same, hcs1, fun r2 cs2 q0 q1 hcs2 => ?_⟩
  refine ⟨1, r2, rfl, rfl, ?_⟩
  refine ⟨_, rfl, by omega, by omega, fun D hD => ?_⟩
  rw [upd_upd] at hD ⊢
  have nDd : D ≠ d := fun e => by rw [e, upd_same] at hD; cases hD
  have nDl : D ≠ l := fun e => by rw [e, upd_ne ndl.symm, upd_same] at hD; cases hD
  have hD0 : H D = none := by rw [upd_ne nDd, upd_ne nDl] at hD; exact hD
  refine lc_range (lo := 0) (n := (1 + r2).toNat) (fun i H2 => ∃ ms : List Nat, But d H H2 ∧ (∃ cs, H2 d = some (.lst cs) ∧ DSt cs) ∧ H2 D = some (.lst (ms.map vn)) ∧ ms.length = i ∧ ∀ x ∈ ms, x ≤ 9) ?_ ?_ ?_
  · refine ⟨[], fun b o nb e => ?_, ⟨cs2, by rw [upd_ne nDd.symm, upd_same], hcs2⟩, upd_same, rfl, fun x hx => by cases hx⟩
    rw [upd_ne (ne_of_none e hD0), upd_ne nb, upd_ne (ne_of_none e hl)]
    exact e
  · rintro i H2 hi ⟨ms, hB, ⟨cs3, h3, hcs3⟩, hD2, hml, hm9⟩
    refine ⟨rfl, ?_⟩
    refine ⟨_, rfl, _, rfl, d, v, cs3, rfl, by omega, by omega, h3, hcs3, fun r4 cs4 p0 p1 hcs4 => ?_⟩
    refine ⟨ms.map vn, by rw [upd_ne nDd]; exact hD2, Nat.lt_of_le_of_lt (m := 12) (by rw [List.length_map]; omega) (by decide), ms ++ [r4.toNat], ?_, ⟨cs4, by rw [upd_ne nDd.symm, upd_same], hcs4⟩, ?_, ?_, ?_⟩
    · intro b o nb e
      rw [upd_ne (ne_of_none e hD0), upd_ne nb]
      exact hB b o nb e
    · rw [upd_same, List.map_append]
      show some (HO.lst (ms.map vn ++ [V.int r4])) = some (HO.lst (ms.map vn ++ [V.int ((r4.toNat : Nat) : Int)]))
      rw [Int.toNat_of_nonneg p0]
    · rw [List.length_append]
      show ms.length + 1 = i + 1
      omega
    · intro x hx
      rcases List.mem_append.mp hx with h | h
      · exact hm9 x h
      · rw [List.mem_singleton.mp h]
        omega
  · rintro H2 ⟨ms, hB, ⟨cs3, h3, hcs3⟩, hD2, hml, hm9⟩
    refine ⟨D, _, rfl, .inl ⟨SqL.of hD2, fun t ht => ?_⟩⟩
    have ht0 : H t = none := But.free hB ⟨_, hd⟩ ht ⟨_, h3⟩
    refine k t ms _ ht0 ⟨hB.trans (But.new ht), cs3, by rw [upd_ne (ne_of_none h3 ht)]; exact h3, hcs3⟩ upd_same ⟨by omega, by omega, hm9⟩ (by omega)
end
end Tk

namespace Tk
open PySem PySem.Spec PyProof.Rows L2
structure Parts (m : Nat) (tk cl : List Nat) (lt : Nat) : Prop where
  m2 : 2 ≤ m
  m4 : m ≤ 10000
  tkP : Pat tk
  clP : Pat cl
  l99 : lt ≤ 99
/-- at t the tuple of the parts -/
structure PartsAt (H : Hp) (t : Addr) (m : Nat) (tp : Addr) (tk : List Nat) (cp : Addr) (cl : List Nat) (lt : Nat) : Prop where
  at_ : H t = some (.tup [vn m, .ref tp, .ref cp, vn lt])
  tkA : H tp = some (.tup (tk.map vn))
  clA : H cp = some (.tup (cl.map vn))
  ok : Parts m tk cl lt
theorem PartsAt.but {d t tp cp : Addr} {H H' : Hp} {m lt : Nat} {tk cl : List Nat} {cs : List V} (p : PartsAt H t m tp tk cp cl lt) (b : But d H H') (hd : H d = some (.lst cs)) : PartsAt H' t m tp tk cp cl lt :=
  ⟨b _ _ (ne_of p.at_ hd (fun q => by cases q)) p.at_, b _ _ (ne_of p.tkA hd (fun q => by cases q)) p.tkA, b _ _ (ne_of p.clA hd (fun q => by cases q)) p.clA, p.ok⟩
theorem PartsAt.same {t tp cp : Addr} {H H' : Hp} {m lt : Nat} {tk cl : List Nat} (p : PartsAt H t m tp tk cp cl lt) (b : Same H H') : PartsAt H' t m tp tk cp cl lt :=
  ⟨b _ _ p.at_, b _ _ p.tkA, b _ _ p.clA, p.ok⟩
def spParts : Sp := fun vs H Q _ => ∃ (d : Addr) (most : Nat) (cs : List V), vs = [.ref d, vn most] ∧ 0 < most ∧ most ≤ 12 ∧ H d = some (.lst cs) ∧ DSt cs ∧
  ∀ (t tp cp : Addr) (m lt : Nat) (tk cl : List Nat) (H' : Hp), H t = none → Src d H H' → PartsAt H' t m tp tk cp cl lt → tk.length ≤ most → cl.length ≤ most → Q (.ref t) H'
def spSmall : Sp := fun vs H Q _ => ∃ (d : Addr) (cs : List V), vs = [.ref d] ∧ H d = some (.lst cs) ∧ DSt cs ∧
  ∀ (t tp cp : Addr) (m lt : Nat) (tk cl : List Nat) (H' : Hp), H t = none → Src d H H' → PartsAt H' t m tp tk cp cl lt → m ≤ 10 → tk.length ≤ 3 → cl.length ≤ 3 → lt ≤ 5 → Q (.ref t) H'
section
variable {P : Program} {w : World} {K : PySem.W.Frag} {mg : Str → Option Value} {base : Heap}
theorem three_of {a b c r : Int} (h0 : 0 ≤ r) (h1 : r < 3) : ∃ v : Int, atI [V.int a, V.int b, V.int c] r = some (V.int v) ∧ (v = a ∨ v = b ∨ v = c) := by
  have : r = ((0 : Nat) : Int) ∨ r = ((1 : Nat) : Int) ∨ r = ((2 : Nat) : Int) := by omega
  rcases this with e | e | e
  · exact ⟨a, by rw [e]; exact atn rfl, .inl rfl⟩
  · exact ⟨b, by rw [e]; exact atn rfl, .inr (.inl rfl)⟩
  · exact ⟨c, by rw [e]; exact atn rfl, .inr (.inr rfl)⟩
theorem ok__law_small (T : Txt K mg) : OkF P w K mg base 3 (He.ga K "_law_small") ["_law_d"] spSmall := by
  have G__law_below : OkF P w K mg base 1 (He.ga K "_law_below") ["_law_d", "_law_limit"] spBelow := ok__law_below T
  have G__law_pattern : OkF P w K mg base 2 (He.ga K "_law_pattern") ["_law_d", "_law_most_here"] spPattern := ok__law_pattern T
  refine FnP.okF T.f__law_small sc__law_small (fun _ _ _ _ _ _ us hl => match us, hl with | [_], _ => rfl) (fun vs H Q E h => ?_) (fun cdv A outer s H vs Q E hr h => ?_)
  · obtain ⟨d, cs, rfl, _⟩ := h
    rfl
  obtain ⟨d, cs, rfl, hd, hcs, k⟩ := h
  refine ⟨_, (pss_one (ps_ret (pe_tup (pa_cons (pe_op op_add pe_int (pe_call G__law_below.one (hr.mono (by decide)) (by rfl) T.g__law_below G__law_below.kp G__law_below.two .nil passL (pa_cons (pv 0) (pa_cons pe_int pa_nil)))) (pa_cons (pe_call G__law_pattern.one (hr.mono (by decide)) (by rfl) T.g__law_pattern G__law_pattern.kp G__law_pattern.two .nil passL (pa_cons (pv 0) (pa_cons pe_int pa_nil))) (pa_cons (pe_call G__law_pattern.one (hr.mono (by decide)) (by rfl) T.g__law_pattern G__law_pattern.kp G__law_pattern.two .nil passL (pa_cons (pv 0) (pa_cons pe_int pa_nil))) (pa_cons (pe_call G__law_below.one (hr.mono (by decide)) (by rfl) T.g__law_below G__law_below.kp G__law_below.two .nil passL (pa_cons (pv 0) (pa_cons pe_int pa_nil))) pa_nil))))))), ?_⟩
  refine ⟨_, rfl, d, 9, cs, rfl, by decide, by decide, hd, hcs, fun r1 c1 a1 b1 hc1 => ⟨2, r1, rfl, rfl, ?_⟩⟩
  have hB : But d H (upd H d (.lst c1)) := But.at_d
  have hd2 : upd H d (.lst c1) d = some (.lst c1) := upd_same
  generalize upd H d (.lst c1) = H2 at *
  refine ⟨_, rfl, d, 3, c1, rfl, by decide, by decide, hd2, hc1, fun tp tk H3 n3 S3 h3 p3 l3 => ?_⟩
  obtain ⟨c8, hd3, hc8⟩ := S3.at_
  refine ⟨_, rfl, d, 3, c8, rfl, by decide, by decide, hd3, hc8, fun cp cl H4 n4 S4 h4 p4 l4 => ?_⟩
  obtain ⟨c9, hd4, hc9⟩ := S4.at_
  refine ⟨_, rfl, d, 6, c9, rfl, by decide, by decide, hd4, hc9, fun r5 c5 a5 b5 hc5 => ?_⟩
  refine ⟨(by show 4 ≤ sizeLine; decide), fun t ht => ?_⟩
  have hB5 : But d H (upd H4 d (.lst c5)) := ((hB.trans S3.but).trans S4.but).trans But.at_d
  have h34 : H4 tp = some (.tup (tk.map vn)) := S4.but _ _ (ne_of h3 hd3 (fun q => by cases q)) h3
  have h35 : upd H4 d (.lst c5) tp = some (.tup (tk.map vn)) := by rw [upd_ne (ne_of h34 hd4 (fun q => by cases q))]; exact h34
  have h45 : upd H4 d (.lst c5) cp = some (.tup (cl.map vn)) := by rw [upd_ne (ne_of h4 hd4 (fun q => by cases q))]; exact h4
  have hd5 : upd H4 d (.lst c5) d = some (.lst c5) := upd_same
  generalize upd H4 d (.lst c5) = H5 at *
  obtain ⟨m, hm⟩ : ∃ m : Nat, 2 + r1 = (m : Int) := ⟨(2 + r1).toNat, by omega⟩
  obtain ⟨lt, hlt⟩ : ∃ n : Nat, r5 = (n : Int) := ⟨r5.toNat, by omega⟩
  dsimp only
  rw [hm]
  subst hlt
  refine k t tp cp m lt tk cl _ (But.free hB5 ⟨_, hd⟩ ht ⟨_, hd5⟩) ⟨hB5.trans (But.new ht), c5, by rw [upd_ne (ne_of_none hd5 ht)]; exact hd5, hc5⟩
    ⟨upd_same, by rw [upd_ne (ne_of_none h35 ht)]; exact h35, by rw [upd_ne (ne_of_none h45 ht)]; exact h45, ⟨by omega, by omega, p3, p4, by omega⟩⟩ (by omega) l3 l4 (by omega)
end
end Tk

/-! ### The mathematics of halls -/
namespace Mm
def atp (ps : List Nat) (t : Nat) : Nat := ps.getD (t % ps.length) 0
/-- tickets taken before a tick -/
def tak (tk : List Nat) : Nat → Nat
  | 0 => 0
  | t + 1 => tak tk t + atp tk t
/-- tickets called before a tick -/
def cal (tk cl : List Nat) : Nat → Nat
  | 0 => 0
  | t + 1 => min (tak tk (t + 1)) (cal tk cl t + atp cl t)
def per (tk cl : List Nat) : Nat := Nat.lcm tk.length cl.length
section
variable {tk cl : List Nat}
theorem cal_le : ∀ t, cal tk cl t ≤ tak tk t
  | 0 => Nat.le_refl _
  | t + 1 => Nat.min_le_left _ _
theorem atp_add (ps : List Nat) (t p : Nat) (h : ps.length ∣ p) : atp ps (t + p) = atp ps t := by
  unfold atp
  obtain ⟨c, rfl⟩ := h
  rw [Nat.add_mul_mod_self_left]
theorem tak_add (p : Nat) (h : tk.length ∣ p) : ∀ t, tak tk (t + p) = tak tk t + tak tk p
  | 0 => by simp [tak]
  | t + 1 => by
    rw [show t + 1 + p = (t + p) + 1 by omega]
    show tak tk (t + p) + atp tk (t + p) = tak tk t + atp tk t + tak tk p
    rw [tak_add p h t, atp_add tk t p h]
    omega
theorem tak_mono : ∀ {a b : Nat}, a ≤ b → tak tk a ≤ tak tk b := by
  intro a b h
  induction h with
  | refl => exact Nat.le_refl _
  | step _ ih => exact Nat.le_trans ih (Nat.le_add_right _ _)
/-- who waits before a tick -/
def wt (tk cl : List Nat) (t : Nat) : Nat := tak tk t - cal tk cl t
theorem wt_cal (t : Nat) : cal tk cl t + wt tk cl t = tak tk t := by
  have := cal_le (tk := tk) (cl := cl) t
  unfold wt
  omega
theorem wt_succ (t : Nat) : wt tk cl (t + 1) = wt tk cl t + atp tk t - atp cl t := by
  have h1 := wt_cal (tk := tk) (cl := cl) t
  have h2 : cal tk cl (t + 1) = min (tak tk t + atp tk t) (cal tk cl t + atp cl t) := rfl
  have h3 : tak tk (t + 1) = tak tk t + atp tk t := rfl
  unfold wt
  rw [h2, h3]
  have h4 : wt tk cl t = tak tk t - cal tk cl t := rfl
  omega
theorem cal_succ (t : Nat) : cal tk cl (t + 1) = cal tk cl t + min (wt tk cl t + atp tk t) (atp cl t) := by
  have h1 := wt_cal (tk := tk) (cl := cl) t
  have h2 : cal tk cl (t + 1) = min (tak tk t + atp tk t) (cal tk cl t + atp cl t) := rfl
  rw [h2]
  omega
theorem cal_mono {a b : Nat} (h : a ≤ b) : cal tk cl a ≤ cal tk cl b := by
  induction h with
  | refl => exact Nat.le_refl _
  | step _ ih =>
    rw [Nat.succ_eq_add_one, cal_succ]
    omega
variable {p : Nat} (hp : 0 < p) (ht : tk.length ∣ p) (hc : cl.length ∣ p)
include ht hc in
theorem wt_up (t : Nat) : wt tk cl t ≤ wt tk cl (t + p) := by
  induction t with
  | zero => simp [wt, tak, cal]
  | succ t ih =>
    rw [show t + 1 + p = (t + p) + 1 by omega, wt_succ, wt_succ, atp_add tk t p ht, atp_add cl t p hc]
    omega
include ht hc in
theorem wt_same {s : Nat} (h : wt tk cl s = wt tk cl (s + p)) : ∀ t, s ≤ t → wt tk cl t = wt tk cl (t + p) := by
  intro t hs
  induction hs with
  | refl => exact h
  | @step t _ ih =>
    rw [show t.succ + p = (t + p) + 1 by omega, Nat.succ_eq_add_one, wt_succ, wt_succ, atp_add tk t p ht, atp_add cl t p hc, ih]
/-- from the second period on each period calls the same -/
theorem now_same (hp : 0 < p) (ht : tk.length ∣ p) (hc : cl.length ∣ p) (t : Nat) (h : p ≤ t) : min (wt tk cl (t + p) + atp tk (t + p)) (atp cl (t + p)) = min (wt tk cl t + atp tk t) (atp cl t) := by
  rw [atp_add tk t p ht, atp_add cl t p hc]
  by_cases st : ∃ s, p ≤ s ∧ s ≤ t ∧ wt tk cl s + atp tk s ≤ atp cl s ∧ s < 2 * p
  · obtain ⟨s, h1, h2, h3, h4⟩ := st
    obtain ⟨r, rfl⟩ : ∃ r, s = r + p := ⟨s - p, by omega⟩
    have u := wt_up (tk := tk) (cl := cl) ht hc r
    rw [atp_add tk r p ht, atp_add cl r p hc] at h3
    have e : wt tk cl (r + 1) = wt tk cl (r + 1 + p) := by
      rw [show r + 1 + p = (r + p) + 1 by omega, wt_succ, wt_succ, atp_add tk r p ht, atp_add cl r p hc]
      omega
    have := wt_same ht hc e t (by omega)
    rw [← this]
  · have full : ∀ k s, p ≤ s → s < 2 * p → s + k * p ≤ t → atp cl (s + k * p) ≤ wt tk cl (s + k * p) + atp tk (s + k * p) := by
      intro k
      induction k with
      | zero =>
        intro s h1 h2 h3
        by_cases q : wt tk cl s + atp tk s ≤ atp cl s
        · exact absurd ⟨s, h1, by omega, q, h2⟩ st
        · simp only [Nat.zero_mul, Nat.add_zero]
          omega
      | succ k ih =>
        intro s h1 h2 h3
        rw [Nat.succ_mul] at h3 ⊢
        have := ih s h1 h2 (by omega)
        have u := wt_up (tk := tk) (cl := cl) ht hc (s + k * p)
        rw [← Nat.add_assoc, atp_add tk _ p ht, atp_add cl _ p hc]
        omega
    have e : t = p + (t - p) % p + (t - p) / p * p := by
      have := Nat.mod_add_div (t - p) p
      rw [Nat.mul_comm] at this
      omega
    have f := full ((t - p) / p) (p + (t - p) % p) (by omega) (by have := Nat.mod_lt (t - p) hp; omega) (by omega)
    rw [← e] at f
    have u := wt_up (tk := tk) (cl := cl) ht hc t
    omega
theorem cal_per (hp : 0 < p) (ht : tk.length ∣ p) (hc : cl.length ∣ p) {t : Nat} (h : p ≤ t) : cal tk cl (t + p) + cal tk cl p = cal tk cl t + cal tk cl (2 * p) := by
  induction h with
  | refl => rw [show p + p = 2 * p by omega, Nat.add_comm]
  | @step t h ih =>
    rw [show t.succ + p = (t + p) + 1 by omega, Nat.succ_eq_add_one, cal_succ, cal_succ, now_same hp ht hc t h]
    omega
theorem cal_far (hp : 0 < p) (ht : tk.length ∣ p) (hc : cl.length ∣ p) {t : Nat} (h : p ≤ t) : ∀ k, cal tk cl (t + k * p) = cal tk cl t + k * (cal tk cl (2 * p) - cal tk cl p)
  | 0 => by simp
  | k + 1 => by
    have ih := cal_far hp ht hc h k
    have m := cal_mono (tk := tk) (cl := cl) (show p ≤ 2 * p by omega)
    have q := cal_per (tk := tk) (cl := cl) hp ht hc (t := t + k * p) (by omega)
    rw [Nat.succ_mul, Nat.succ_mul, ← Nat.add_assoc]
    omega
/-- what the program reckons -/
theorem cal_is (hp : 0 < p) (ht : tk.length ∣ p) (hc : cl.length ∣ p) (t : Nat) : cal tk cl t = (t / p - 1) * (cal tk cl (2 * p) - cal tk cl p) + cal tk cl (t - (t / p - 1) * p) := by
  rcases Nat.eq_zero_or_pos (t / p - 1) with e | e
  · rw [e]
    simp
  · have h1 : t / p * p ≤ t := Nat.div_mul_le_self t p
    have h2 : (t / p - 1) * p + p = t / p * p := by
      rw [Nat.sub_mul, Nat.one_mul]
      have : p ≤ t / p * p := Nat.le_mul_of_pos_left p (by omega)
      omega
    have q := cal_far (tk := tk) (cl := cl) hp ht hc (t := t - (t / p - 1) * p) (by omega) (t / p - 1)
    rw [show t - (t / p - 1) * p + (t / p - 1) * p = t by omega] at q
    rw [q]
    exact Nat.add_comm _ _
theorem rest_lt (hp : 0 < p) (t : Nat) : t - (t / p - 1) * p < 2 * p := by
  have h := Nat.mod_add_div t p
  have m := Nat.mod_lt t hp
  rcases Nat.eq_zero_or_pos (t / p) with e | e
  · rw [e] at h ⊢
    omega
  · obtain ⟨k, hk⟩ : ∃ k, t / p = k + 1 := ⟨t / p - 1, by omega⟩
    rw [hk] at h ⊢
    rw [Nat.mul_comm, Nat.succ_mul] at h
    simp only [Nat.add_sub_cancel]
    omega
theorem take_sum (tk : List Nat) : ∀ i, i ≤ tk.length → tak tk i = (tk.take i).sum
  | 0, _ => by simp [tak]
  | i + 1, h => by
    show tak tk i + atp tk i = _
    rw [take_sum tk i (by omega)]
    unfold atp
    rw [Nat.mod_eq_of_lt (by omega), List.getD_eq_getElem?_getD, List.getElem?_eq_getElem (by omega)]
    have e : tk.take (i + 1) = tk.take i ++ [tk[i]] := by simp
    rw [e, List.sum_append]
    simp
theorem tak_mul (tk : List Nat) : ∀ q r, tak tk (r + q * tk.length) = q * tk.sum + tak tk r
  | 0, r => by simp
  | q + 1, r => by
    rw [Nat.succ_mul, ← Nat.add_assoc, tak_add tk.length (Nat.dvd_refl _), tak_mul tk q r, take_sum tk tk.length (Nat.le_refl _), List.take_length, Nat.succ_mul]
    omega
theorem tak_is (tk : List Nat) (h : 0 < tk.length) (t : Nat) : tak tk t = t / tk.length * tk.sum + (tk.take (t % tk.length)).sum := by
  rw [← take_sum tk (t % tk.length) (Nat.le_of_lt (Nat.mod_lt t h)), ← tak_mul tk (t / tk.length)]
  congr 1
  have := Nat.mod_add_div t tk.length
  rw [Nat.mul_comm] at this
  omega
theorem per_tk : tk.length ∣ per tk cl := Nat.dvd_lcm_left _ _
theorem per_cl : cl.length ∣ per tk cl := Nat.dvd_lcm_right _ _
theorem per_pos (h1 : 0 < tk.length) (h2 : 0 < cl.length) : 0 < per tk cl := Nat.lcm_pos h1 h2
theorem per_le : per tk cl ≤ tk.length * cl.length := by
  unfold per Nat.lcm
  exact Nat.div_le_self _ _
theorem atp_le {ps : List Nat} (h9 : ∀ x ∈ ps, x ≤ 9) (t : Nat) : atp ps t ≤ 9 := by
  unfold atp
  rw [List.getD_eq_getElem?_getD]
  cases e : ps[t % ps.length]? with
  | none => simp
  | some x =>
    simp only [Option.getD_some]
    exact h9 x (List.mem_of_getElem? e)
theorem tak_le {tk : List Nat} (h9 : ∀ x ∈ tk, x ≤ 9) : ∀ t, tak tk t ≤ 9 * t
  | 0 => Nat.le_refl _
  | t + 1 => by
    have h1 := tak_le h9 t
    have h2 := atp_le h9 t
    show tak tk t + atp tk t ≤ 9 * (t + 1)
    omega
end
end Mm

/-! ### The checks of arguments -/
namespace Tk
open PySem PySem.Spec PyProof.Rows L2
/-- values of the kinds that are passed -/
inductive Arg (H : Hp) : V → Prop where
  | non : Arg H .non
  | bl (b : Bool) : Arg H (.bl b)
  | int (i : Int) : Arg H (.int i)
  | str (x : Str) : Arg H (.str x)
  | lst {a : Addr} {xs : List V} (e : H a = some (.lst xs)) : Arg H (.ref a)
  | tup {a : Addr} {xs : List V} (e : H a = some (.tup xs)) : Arg H (.ref a)
def isInt : V → Bool
  | .int _ => true
  | _ => false
def inB (lo hi : Int) : V → Bool
  | .int i => decide (lo ≤ i) && decide (i ≤ hi)
  | _ => false
def spWithin : Sp := fun vs H Q _ => ∃ (v : V) (lo hi : Int), vs = [v, .int lo, .int hi] ∧ Arg H v ∧ Q (.bl (inB lo hi v)) H
section
variable {P : Program} {w : World} {K : PySem.W.Frag} {mg : Str → Option Value} {base : Heap}
theorem boot_ty_bool : bootBuiltins "bool" = some (.type "bool") := by decide +kernel
theorem boot_ty_int : bootBuiltins "int" = some (.type "int") := by decide +kernel
theorem boot_ty_str : bootBuiltins "str" = some (.type "str") := by decide +kernel
theorem boot_ty_tuple : bootBuiltins "tuple" = some (.type "tuple") := by decide +kernel
theorem boot_ty_list : bootBuiltins "list" = some (.type "list") := by decide +kernel
theorem kit_at {a b : String} {r : Bool} (h : kitB a b = some r) : PySem.W.kitOne K (.type a) (.type b) = some r := kit_ty h
/-- the type of such a value and what isinstance says of five classes -/
theorem Arg.ty {H : Hp} {v : V} (h : Arg H v) : ∃ n : String, TyX K H v (.type n) ∧ (∃ b, kitB n "bool" = some b ∧ (b = true ↔ ∃ x, v = .bl x)) ∧ (∃ b, kitB n "int" = some b ∧ (b = true ↔ ((∃ x, v = .bl x) ∨ ∃ i, v = .int i))) := by
  cases h with
  | non => exact ⟨_, .base .non, ⟨false, by decide +kernel, by simp⟩, ⟨false, by decide +kernel, by simp⟩⟩
  | bl b => exact ⟨_, .base (.bl b), ⟨true, by decide +kernel, by simp⟩, ⟨true, by decide +kernel, by simp⟩⟩
  | int i => exact ⟨_, .base (.int i), ⟨false, by decide +kernel, by simp⟩, ⟨true, by decide +kernel, by simp⟩⟩
  | str x => exact ⟨_, .base (.str x), ⟨false, by decide +kernel, by simp⟩, ⟨false, by decide +kernel, by simp⟩⟩
  | lst e => exact ⟨_, .base (.lst e), ⟨false, by decide +kernel, by simp⟩, ⟨false, by decide +kernel, by simp⟩⟩
  | tup e => exact ⟨_, .base (.tup e), ⟨false, by decide +kernel, by simp⟩, ⟨false, by decide +kernel, by simp⟩⟩
theorem ok_is_integer_within (T : Txt K mg) : OkF P w K mg base 1 (He.ga K "is_integer_within") ["value", "low", "high"] spWithin := by
  refine FnP.okF T.f_is_integer_within sc_is_integer_within (fun _ _ _ _ _ _ us hl => match us, hl with | [_, _, _], _ => rfl) (fun vs H Q E h => ?_) (fun cdv A outer s H vs Q E hr h => ?_)
  · obtain ⟨v, lo, hi, rfl, _⟩ := h
    rfl
  obtain ⟨v, lo, hi, rfl, hv, k⟩ := h
  refine ⟨_, (pss_cons (ps_if (PW.pt (pw_or (pt_val (pe_callB (isiK (K := K)) (by rfl) T.g_isinstance (by decide +kernel) (pa_cons (pv 0) (pa_cons (pe_bltn (v := .ty "bool") (by rfl) T.g_bool boot_ty_bool rfl) pa_nil)))) (pw_or1 (pt_not (pt_val (pe_callB (isiK (K := K)) (by rfl) T.g_isinstance (by decide +kernel) (pa_cons (pv 0) (pa_cons (pe_bltn (v := .ty "int") (by rfl) T.g_int boot_ty_int rfl) pa_nil)))))))) (pss_one (ps_ret pe_bl)) pss_nil)
    (pss_one (ps_ret (pe_chain op_le op_le (pv 1) (pv 0) (pv 2))))), ?_⟩
  obtain ⟨n, ty, ⟨b1, k1, e1⟩, ⟨b2, k2, e2⟩⟩ := Arg.ty (K := K) hv
  refine ⟨_, rfl, v, .ty "bool", _, _, b1, rfl, .ty "bool", ty, kit_at k1, b1, rfl, ?_⟩
  cases b1 with
  | true =>
    obtain ⟨x, rfl⟩ := e1.mp rfl
    exact k
  | false =>
    refine ⟨_, rfl, v, .ty "int", _, _, b2, rfl, .ty "int", ty, kit_at k2, b2, rfl, ?_⟩
    cases b2 with
    | false =>
      have no : inB lo hi v = false := by
        cases v with
        | int i => exact absurd (e2.mpr (.inr ⟨i, rfl⟩)) (by simp)
        | _ => rfl
      rw [no] at k
      exact k
    | true =>
      rcases e2.mp rfl with ⟨x, rfl⟩ | ⟨i, rfl⟩
      · exact absurd (e1.mpr ⟨x, rfl⟩) (by simp)
      · refine ⟨_, rfl, _, rfl, _, _, rfl, rfl, _, rfl, ?_⟩
        refine ite2 (fun c => ?_) (fun c => ?_)
        · refine ⟨_, rfl, _, _, rfl, rfl, ?_⟩
          have c1 : decide (lo ≤ i) = true := c
          show Q (V.bl (decide (i ≤ hi))) H
          have k' : Q (V.bl (decide (lo ≤ i) && decide (i ≤ hi))) H := k
          rw [c1, Bool.true_and] at k'
          exact k'
        · have c1 : decide (lo ≤ i) = false := by
            cases q : decide (lo ≤ i) with
            | true => exact absurd q c
            | false => rfl
          have k' : Q (V.bl (decide (lo ≤ i) && decide (i ≤ hi))) H := k
          rw [c1, Bool.false_and] at k'
          exact k'
end
end Tk

/-! ### for i, x in enumerate(a tuple) -/
namespace Tk
open PySem PySem.Spec PyProof.Rows L2
set_option maxHeartbeats 1000000 in
theorem meets_enum1 {v : Value} {o : Obj} {Hs : Heap → Prop} (B : Begins v o Hs) : Meets (Builtin.«enumerate.__new__» ⟨[.type "enumerate", v], []⟩) (fun _ R s => Hs s.heap ∧
    R (.ok (.ret (.ref (s.heap.push o).objs.size))) { s with heap := (s.heap.push o).push { cls := .type "enumerate", data := .fields #[.none, .bool false, .ref s.heap.objs.size, rawInt 0, .none, .none] } }) :=
  .of_wp fun prog w A R s h => by
    obtain ⟨hp, g, d, tk, os⟩ := s
    obtain ⟨b0, b1⟩ := h
    have us := sub_enumerate
    have step : ∀ {A' : Around} {E : Value → Shared → Prop} {Q : Value → Shared → Prop}, Q (.ref hp.objs.size) ⟨hp.push o, g, d, tk, os⟩ → wpAny (model prog w) A' (pyIter v) Q E ⟨hp, g, d, tk, os⟩ :=
      fun z => B.iter prog w _ _ ⟨hp, g, d, tk, os⟩ _ b0 z
    wp_walk using step
    refine wpAny_stack_any fun st => wpAny_pure ?_
    split
    · rename_i c _ _ _ _ _
      cases (c == Value.type "enumerate") <;> (wp_walk using step; exact ⟨_, rfl, b1⟩)
    · wp_walk using step
      exact ⟨_, rfl, b1⟩
theorem enum_of_tuple {prog : Program} {w : World} {A : Around} {E : Value → Shared → Prop} {s : Shared} {t : Addr} {items : Array Value} {Q : Value → Shared → Prop} (ht : s.heap.IsTuple t items)
    (h : ∀ h', IsEnum h' (s.heap.objs.size + 1) s.heap.objs.size 0 .none → h'.IsTupleIter s.heap.objs.size t 0 → (∀ b o, s.heap.get? b = some o → h'.get? b = some o) → Q (.ref (s.heap.objs.size + 1)) { s with heap := h' }) :
    wpAny (model prog w) A (call (.type "enumerate") [.ref t]) Q E s := by
  refine callType_new F.called_enumerate (by decide) (F.typeCall_enumerate_1 _) (F.newCall_enumerate_1 _) (fun obj => F.args_object_init_2 obj _) F.entry_enumerate_new (meets_enum1 (begins_tuple t items)) ⟨ht, ?_⟩
  have z : (s.heap.push { cls := .type "tuple_iterator", data := .fields #[.ref t, .int 0 0] }).objs.size = s.heap.objs.size + 1 := Heap.size_push ..
  have e2 := Heap.get?_push_size (s.heap.push { cls := .type "tuple_iterator", data := .fields #[.ref t, .int 0 0] }) (o := { cls := .type "enumerate", data := .fields #[.none, .bool false, .ref s.heap.objs.size, rawInt 0, .none, .none] }) rfl
  show _ ∧ _
  rw [z] at e2 ⊢
  exact ⟨⟨_, e2, rfl⟩, h _ e2 ⟨_, Heap.get?_push_of_some _ (Heap.get?_push_size _ rfl), rfl, rfl⟩ fun b o x => Heap.get?_push_of_some _ (Heap.get?_push_of_some _ x)⟩
/-- the tuple at a, each item in a new pair -/
def Itu (K : PySem.W.Frag) (a : Addr) : It :=
  ⟨fun i H => ∃ (xs : List V) (x : V), SqT K H a xs ∧ xs[i]? = some x, fun i H v H' => ∃ T x, v = .ref T ∧ H T = none ∧ H' = upd H T (.tup [vnI i, x]) ∧ ∀ xs, SqT K H a xs → xs[i]? = some x, fun i H => ∃ xs : List V, SqT K H a xs ∧ xs.length ≤ i⟩
/-- an iterator at a tuple's end -/
theorem draws_end {prog : Program} {w : World} {A : Around} (hh : A.handled = none) (it t : Addr) (i : Nat) (items : Array Value) (hx : items[i]? = none) :
    Draws prog w A it [it, t] i (fun _ _ => False) (fun j h => j = i ∧ h.IsTupleIter it t i ∧ h.IsTuple t items) where
  live := fun _ _ st => let ⟨_, ⟨o, ho, _⟩, _⟩ := st; ⟨o, ho⟩
  frame := fun _ _ _ st hk => by
    obtain ⟨e, ⟨o, ho, r⟩, o2, ho2, r2⟩ := st
    exact ⟨e, ⟨o, hk it (by simp) o ho, r⟩, o2, hk t (by simp) o2 ho2, r2⟩
  item := fun j s Q E hj st _ => absurd st.1 (by omega)
  done := fun s Q E st hE => wpAny_nextOf_tuple_end hh st.2.1 st.2.2 hx hE
theorem turn_enumT {P : Program} {w : World} {K : PySem.W.Frag} {elts : List Expr} {kk : Nat} {tpos : Pos} (a e it : Addr) (h1 : e ≠ it) (h2 : a ≠ it) (h3 : a ≠ e) :
    Turn P w K (.Tuple elts kk tpos) (Itu K a) [e, it] e (fun i h => (∃ old, IsEnum h e it ((i : Nat) : Int) old) ∧ h.IsTupleIter it a i) where
  mem := List.mem_cons_self
  obj := fun i h st b hb => by
    obtain ⟨⟨old, he⟩, o, ho, hc, hd⟩ := st
    rcases List.mem_cons.mp hb with z | z
    · rw [z]
      exact ⟨_, he, fun v q => nomatch q⟩
    · exact ⟨o, by rw [List.mem_singleton.mp z]; exact ho, fun v q => by rw [hd] at q; cases q⟩
  keep := fun i h h' st k => by
    obtain ⟨⟨old, he⟩, o, ho, r⟩ := st
    exact ⟨⟨old, k e (by simp) _ he⟩, o, k it (by simp) o ho, r⟩
  item := by
    intro X hP hw hK hc i pins s σ H E I hf st hg
    subst hP hw hK
    obtain ⟨⟨old, he⟩, hit⟩ := st
    obtain ⟨xs, x, hq, hx⟩ := hg
    obtain ⟨its, rv, p, hz⟩ := I.tuple hq
    obtain ⟨u, hu, ru⟩ := rv.get hx
    have le : e < s.heap.objs.size := Heap.lt_size he
    have li : it < s.heap.objs.size := by
      obtain ⟨_, q, _⟩ := hit
      exact Heap.lt_size q
    have hi : i < its.toArray.size := by
      have := (List.getElem?_eq_some_iff.mp hu).1
      simpa using this
    refine wpAny_pyNext_enum_itemD (Draws.tuple (A := X.A.in1) (I.ok.hd hc) it a h2 its.toArray) he ⟨hit, istup_old p⟩ hi h1 (by simp [h1, h3.symm]) fun y h' tk hy ho hs hT hsz hk => ?_
    have ey : y = u := by
      have q : its[i]? = some y := by simpa using hy
      rw [hu] at q
      exact (Option.some.inj q).symm
    subst ey
    refine ⟨_, rfl, wpAny_letOwnedTupleGo_enum (s := { s with heap := h', toks := tk + 1 }) ho fun h2' he2 sb => ?_⟩
    have T2 : h2'.get? s.heap.objs.size = some { cls := .type "tuple", data := .seq #[.int i tk, y] } := (sb.2 _ (Nat.ne_of_gt le)).trans hT
    have I1 := I.turnedNew (t' := tk + 1) (ch := [e, it]) (h' := h2') (T := s.heap.objs.size) (ob := .tup [vnI i, x]) (fun b ob hb q => (sb.2 b (fun z => hb (by simp [z]))).trans (hk b ob (fun z => hb (by simp [z])) (fun z => hb (by simp [z])) q)) hf (Nat.le_refl _)
      ⟨by show 2 ≤ sizeLine; decide, [.int i tk, y], .cons ⟨_, rfl⟩ (.cons ru .nil), ⟨_, T2, rfl, _, rfl⟩⟩
    refine ⟨.ref s.heap.objs.size, _, I1, rfl, ⟨_, x, rfl, I.hok.fresh (Nat.le_refl _), rfl, fun ys hy2 => by rw [I.tuple_inj hy2 hq]; exact hx⟩, ⟨⟨y, ?_⟩, ?_⟩, fun b hb => ?_⟩
    · rw [show ((i + 1 : Nat) : Int) = (i : Int) + 1 by omega]
      exact he2
    · obtain ⟨⟨o, ho2, r⟩, _⟩ := hs
      exact ⟨o, (sb.2 it h1.symm).trans ho2, r⟩
    · have lb : b < s.heap.objs.size := by
        rcases List.mem_cons.mp hb with z | z
        · rw [z]; exact le
        · rw [List.mem_singleton.mp z]; exact li
      rw [upd_ne (Nat.ne_of_lt lb)]
      exact (hf b hb).1
  done := by
    intro X hP hw hK hc i pins s σ H E I hf st hg
    subst hP hw hK
    obtain ⟨⟨old, he⟩, hit⟩ := st
    obtain ⟨xs, hq, hx⟩ := hg
    obtain ⟨its, rv, p, hz⟩ := I.tuple hq
    have hl := rv.length
    refine wpAny_pyNext_enum_endD (draws_end (A := X.A.in1) (I.ok.hd hc) it a i its.toArray (by simp; omega)) he ⟨rfl, hit, istup_old p⟩ fun h' q => ⟨rfl, ?_⟩
    exact I.turnedL (t' := s.toks) (ch := [it]) (fun b o hb r => q b o (fun z => hb (by simp [z])) r) fun b hb => hf b (by rw [List.mem_singleton.mp hb]; simp)
  self := fun A i s Q E st h => by
    obtain ⟨⟨_, he⟩, _⟩ := st
    exact wpAny_pyIter_enum he h
def iEnumT (K : PySem.W.Frag) (ta : TA) : TI := fun σ H R => ta σ H fun vs H1 => ∃ a xs, vs = [.ref a] ∧ SqT K H1 a xs ∧ R (Itu K a) H1
theorem pi_enumT {X : Cx} {e : Expr} {ta : TA} {p pos tpos : Pos} {elts : List Expr} {kk : Nat} (hg : Gl X "enumerate") (hm : X.mg "enumerate" = none) (ha : PA X [e] ta) (hs : starEach [e] X.env = [(false, eval e X.env)] := by rfl) :
    PI X (.Tuple elts kk tpos) (.Call (.Name "enumerate" p) [e] [] pos) (iEnumT X.K ta) := by
  refine ⟨fun pins s σ H R I h => Call_ (ld_blt I hg hm boot_enumerate (PyProof.Rows.callWith_type1 (thn (ha.run pos pins s σ H _ I h) fun us s1 ⟨vs, H1, I1, r1, q1⟩ => ?_) hs rfl))⟩
  obtain ⟨a, xs, rfl, hq, q⟩ := q1
  cases r1 with
  | cons r rr =>
    cases rr
    cases r
    obtain ⟨its, rv, p', hz⟩ := I1.tuple hq
    have la : a < s1.heap.objs.size := p'.lt
    refine enum_of_tuple (istup_old p') fun h' he hit hk => wpAny_pyIter_enum he ?_
    refine ⟨s1.heap.objs.size + 1, [s1.heap.objs.size + 1, s1.heap.objs.size], _, _, H1, rfl, I1.kept (t' := s1.toks) hk, turn_enumT a (s1.heap.objs.size + 1) s1.heap.objs.size (Nat.succ_ne_self _) (Nat.ne_of_lt la) (Nat.ne_of_lt (Nat.lt_succ_of_lt la)), ⟨⟨.none, he⟩, hit⟩, fun b hb => ?_, q⟩
    have hle : s1.heap.objs.size ≤ b := by
      rcases List.mem_cons.mp hb with z | z
      · rw [z]; exact Nat.le_succ _
      · rw [List.mem_singleton.mp z]; exact Nat.le_refl _
    exact I1.fpOk hle (I1.hok.fresh hle)
/-- its loop -/
theorem for_enumT {K : PySem.W.Frag} {a : Addr} {xs : List V} {g : TG} {tb : TS} {D : Ends} {σ : L2.St} {H : Hp} (Pv : Nat → L2.St → Hp → Prop) (h0 : Pv 0 σ H) (hl : ∀ i σ H, i ≤ xs.length → Pv i σ H → SqT K H a xs)
    (hs : ∀ i x σ H, xs[i]? = some x → Pv i σ H → ∀ T, H T = none → g (.ref T) σ (upd H T (.tup [vnI i, x])) fun σ2 H2 => tb { D with nx := Pv (i + 1), ct := Pv (i + 1), bk := D.nx } σ2 H2) (hd : ∀ σ H, Pv xs.length σ H → D.nx σ H) :
    ∃ W : Nat → Nat → L2.St → Hp → Prop, (∃ m, W 0 m σ H) ∧ ∀ i m σ H, W i m σ H →
      ((Itu K a).stop i H ∧ D.nx σ H) ∨ ((Itu K a).go i H ∧ ∃ N : L2.St → Hp → Prop, (∀ σ' H', N σ' H' → ∃ m', m' < m ∧ W (i + 1) m' σ' H') ∧ ∀ x H', (Itu K a).yld i H x H' → g x σ H' fun σ2 H2 => tb { D with nx := N, ct := N, bk := D.nx } σ2 H2) := by
  refine ⟨fun i m σ H => m = xs.length - i ∧ i ≤ xs.length ∧ Pv i σ H, ⟨_, rfl, Nat.zero_le _, h0⟩, fun i m σ H w => ?_⟩
  obtain ⟨rfl, hi, p⟩ := w
  have sq := hl i σ H hi p
  rcases Nat.lt_or_ge i xs.length with lt | ge
  · have at_ : xs[i]? = some xs[i] := by simp [lt]
    refine .inr ⟨⟨xs, xs[i], sq, at_⟩, Pv (i + 1), fun σ' H' p' => ⟨_, (by omega : xs.length - (i + 1) < xs.length - i), rfl, lt, p'⟩, fun x H' y => ?_⟩
    obtain ⟨T, x', rfl, hT, rfl, hx⟩ := y
    exact hs i x' σ H (hx xs sq) p T hT
  · obtain rfl : i = xs.length := by omega
    exact .inl ⟨⟨xs, sq, Nat.le_refl _⟩, hd σ H p⟩
end Tk

/-! ### The checks, of what is valid -/
namespace Tk
open PySem PySem.Spec PyProof.Rows L2
def spTick : Sp := fun vs H Q _ => ∃ t : Int, vs = [.int t] ∧ 0 ≤ t ∧ t ≤ 1000000000000000000 ∧ Q .non H
def spFii : Sp := fun vs H Q _ => ∃ (p : Addr) (ps : List Nat), vs = [.ref p] ∧ H p = some (.tup (ps.map vn)) ∧ Pat ps ∧ ∀ H', Same H H' → Q .non H'
def spChk : Sp := fun vs H Q _ => ∃ (v : V) (p : Addr) (ps : List Nat), vs = [v, .ref p] ∧ H p = some (.tup (ps.map vn)) ∧ Pat ps ∧ ∀ H', Same H H' → Q .non H'
def spChall : Sp := fun vs H Q _ => ∃ (tp cp : Addr) (m lt : Nat) (tk cl : List Nat), vs = [vn m, .ref tp, .ref cp, vn lt] ∧ H tp = some (.tup (tk.map vn)) ∧ H cp = some (.tup (cl.map vn)) ∧ Parts m tk cl lt ∧ ∀ H', Same H H' → Q .non H'
theorem inB_in {lo hi i : Int} (h1 : lo ≤ i) (h2 : i ≤ hi) : inB lo hi (.int i) = true := by
  show (decide (lo ≤ i) && decide (i ≤ hi)) = true
  rw [decide_eq_true h1, decide_eq_true h2]
  rfl
theorem Same.upd2 {H : Hp} {a : Addr} {o : HO} (h : H a = none) {H0 : Hp} (s : Same H0 H) : Same H0 (upd H a o) := s.trans (Same.new h)
section
variable {P : Program} {w : World} {K : PySem.W.Frag} {mg : Str → Option Value} {base : Heap}
theorem ok_check_tick (T : Txt K mg) : OkF P w K mg base 2 (He.ga K "check_tick") ["tick"] spTick := by
  have G_is_integer_within : OkF P w K mg base 1 (He.ga K "is_integer_within") ["value", "low", "high"] spWithin := ok_is_integer_within T
  refine FnP.okF T.f_check_tick sc_check_tick (fun _ _ _ _ _ _ us hl => match us, hl with | [_], _ => rfl) (fun vs H Q E h => ?_) (fun cdv A outer s H vs Q E hr h => ?_)
  · obtain ⟨t, rfl, _⟩ := h
    rfl
  obtain ⟨t, rfl, t0, t1, k⟩ := h
  refine ⟨_, (pss_one (ps_if (pt_not (pt_val (pe_call G_is_integer_within.one (hr.mono (by decide)) (by rfl) T.g_is_integer_within G_is_integer_within.kp G_is_integer_within.two .nil passL (pa_cons (pv 0) (pa_cons pe_int (pa_cons (pe_gint (by rfl) T.c_LAST_TICK) pa_nil)))))) (pss_one ps_never) pss_nil)), ?_⟩
  refine ⟨_, rfl, .int t, 0, 1000000000000000000, rfl, .int t, true, by rw [inB_in t0 t1], ?_⟩
  exact k
theorem ok_first_invalid_item (T : Txt K mg) : OkF P w K mg base 2 (He.ga K "first_invalid_item") ["pattern"] spFii := by
  have G_is_integer_within : OkF P w K mg base 1 (He.ga K "is_integer_within") ["value", "low", "high"] spWithin := ok_is_integer_within T
  refine FnP.okF T.f_first_invalid_item sc_first_invalid_item (fun _ _ _ _ _ _ us hl => match us, hl with | [_], _ => rfl) (fun vs H Q E h => ?_) (fun cdv A outer s H vs Q E hr h => ?_)
  · obtain ⟨p, ps, rfl, _⟩ := h
    rfl
  obtain ⟨p, ps, rfl, hp, hP, k⟩ := h
  refine ⟨_, (pss_cons (ps_if (PW.pt (pw_or (pt_not (pt_val (pe_callB (isiK (K := K)) (by rfl) T.g_isinstance (by decide +kernel) (pa_cons (pv 0) (pa_cons (pe_bltn (v := .ty "tuple") (by rfl) T.g_tuple boot_ty_tuple rfl) pa_nil))))) (pw_or1 (pt_cmpR op_eq (pe_callB (lenK (K := K)) (by rfl) T.g_len (by decide +kernel) (pa_cons (pv 0) pa_nil)) pe_int (nomark _))))) (pss_one (ps_ret pe_int)) pss_nil)
    (pss_cons (ps_for own_cx rfl (pi_enumT (by rfl) T.g_enumerate (pa_cons (pv 0) pa_nil)) (pg_tup rfl (pgs_cons (pg_name (i := 1) sc_first_invalid_item.nd rfl (Or.inl rfl)) (pgs_cons (pg_name (i := 2) sc_first_invalid_item.nd rfl (Or.inl rfl)) pgs_nil)))
      (pss_one (ps_if (PW.pt (pw_or (pt_cmpR op_eq (pv 1) (pe_gint (by rfl) T.c_MOST_ITEMS) (nomark _)) (pw_or1 (pt_not (pt_val (pe_call G_is_integer_within.one (hr.mono (by decide)) (by rfl) T.g_is_integer_within G_is_integer_within.kp G_is_integer_within.two .nil passL (pa_cons (pv 2) (pa_cons pe_int (pa_cons (pe_gint (by rfl) T.c_GREATEST_ITEM) pa_nil))))))))) (pss_one (ps_ret (pv 1))) pss_nil)))
    (pss_one (ps_ret pe_non)))), ?_⟩
  -- not a tuple, or empty
  refine ⟨_, rfl, .ref p, .ty "tuple", .type "tuple", _, true, rfl, .ty "tuple", .base (.tup hp), kit_at (by decide +kernel), true, rfl, ?_⟩
  refine ⟨_, rfl, p, _, rfl, .inr (SqT.of hp), rfl, _, rfl, ?_⟩
  refine ite2 (fun c => ?_) (fun _ => ?_)
  · exfalso
    have e : V.int ((ps.map vn).length : Int) = V.int 0 := of_decide_eq_true c
    have e2 : ((ps.map vn).length : Int) = 0 := by injection e
    rw [List.length_map] at e2
    have := hP.pos
    omega
  refine ⟨_, rfl, p, _, rfl, SqT.of hp, for_enumT (K := K) (a := p) (xs := ps.map vn) (fun i σ H2 => ∃ a b, σ = [some (.ref p), a, b] ∧ Same H H2) ⟨_, _, rfl, Same.refl H⟩
    (fun i σ H2 _ ⟨_, _, _, e⟩ => SqT.of (e _ _ hp)) ?_ ?_⟩
  · rintro i x σ H2 hx ⟨a, b, rfl, hS⟩ Tp hT
    have hi : i < ps.length := by
      have := (List.getElem?_eq_some_iff.mp hx).1
      rwa [List.length_map] at this
    obtain ⟨y, rfl, hy⟩ : ∃ y, x = vn y ∧ ps[i]? = some y := by
      rw [List.getElem?_map] at hx
      cases e : ps[i]? with
      | none => rw [e] at hx; cases hx
      | some u => rw [e] at hx; exact ⟨u, (Option.some.inj hx).symm, rfl⟩
    have y9 := hP.nine y (List.mem_of_getElem? hy)
    have hS2 : Same H (upd H2 Tp (.tup [vnI i, vn y])) := Same.upd2 hT hS
    refine ⟨Tp, _, rfl, SqT.of upd_same, rfl, _, _, rfl, _, _, rfl, rfl, ?_⟩
    refine ⟨_, rfl, rfl, _, rfl, ?_⟩
    refine ite2 (fun c => ?_) (fun _ => ?_)
    · exfalso
      have e : V.int (i : Int) = V.int 12 := of_decide_eq_true c
      have e2 : (i : Int) = 12 := by injection e
      have := hP.len
      omega
    refine ⟨_, rfl, vn y, 0, 9, rfl, .int _, true, by rw [inB_in (by omega) (by omega)], ?_⟩
    exact ⟨_, _, rfl, hS2⟩
  · rintro σ H2 ⟨a, b, rfl, hS⟩
    exact k H2 hS
theorem ok_check_pattern (T : Txt K mg) : OkF P w K mg base 3 (He.ga K "check_pattern") ["part", "pattern"] spChk := by
  have G_first_invalid_item : OkF P w K mg base 2 (He.ga K "first_invalid_item") ["pattern"] spFii := ok_first_invalid_item T
  refine FnP.okF T.f_check_pattern sc_check_pattern (fun _ _ _ _ _ _ us hl => match us, hl with | [_, _], _ => rfl) (fun vs H Q E h => ?_) (fun cdv A outer s H vs Q E hr h => ?_)
  · obtain ⟨v, p, ps, rfl, _⟩ := h
    rfl
  obtain ⟨v, p, ps, rfl, hp, hP, k⟩ := h
  refine ⟨_, (pss_cons (ps_set (i := 2) sc_check_pattern.nd rfl (Or.inl rfl) (pe_call G_first_invalid_item.one (hr.mono (by decide)) (by rfl) T.g_first_invalid_item G_first_invalid_item.kp G_first_invalid_item.two .nil passL (pa_cons (pv 1) pa_nil)))
    (pss_one (ps_if (pt_cmpR (show OpR _ (compareOp .IsNot) Rd.rNotN from op_notN) (pv 2) pe_non (nomark _)) (pss_one ps_never) pss_nil))), ?_⟩
  refine ⟨_, rfl, p, ps, rfl, hp, hP, fun H' hS => ?_⟩
  refine ⟨_, rfl, rfl, _, rfl, ?_⟩
  exact k H' hS
theorem ok_check_hall (T : Txt K mg) : OkF P w K mg base 4 (He.ga K "check_hall") ["modulus", "takes", "calls", "lateness"] spChall := by
  have G_is_integer_within : OkF P w K mg base 1 (He.ga K "is_integer_within") ["value", "low", "high"] spWithin := ok_is_integer_within T
  have G_check_pattern : OkF P w K mg base 3 (He.ga K "check_pattern") ["part", "pattern"] spChk := ok_check_pattern T
  refine FnP.okF T.f_check_hall sc_check_hall (fun _ _ _ _ _ _ us hl => match us, hl with | [_, _, _, _], _ => rfl) (fun vs H Q E h => ?_) (fun cdv A outer s H vs Q E hr h => ?_)
  · obtain ⟨tp, cp, m, lt, tk, cl, rfl, _⟩ := h
    rfl
  obtain ⟨tp, cp, m, lt, tk, cl, rfl, htp, hcp, hP, k⟩ := h
  refine ⟨_, (pss_cons (ps_if (pt_not (pt_val (pe_call G_is_integer_within.one (hr.mono (by decide)) (by rfl) T.g_is_integer_within G_is_integer_within.kp G_is_integer_within.two .nil passL (pa_cons (pv 0) (pa_cons (pe_gint (by rfl) T.c_LEAST_MODULUS) (pa_cons (pe_gint (by rfl) T.c_GREATEST_MODULUS) pa_nil)))))) (pss_one ps_never) pss_nil)
    (pss_cons (ps_expr (pe_call G_check_pattern.one (hr.mono (by decide)) (by rfl) T.g_check_pattern G_check_pattern.kp G_check_pattern.two .nil passL (pa_cons pe_str (pa_cons (pv 1) pa_nil))))
    (pss_cons (ps_expr (pe_call G_check_pattern.one (hr.mono (by decide)) (by rfl) T.g_check_pattern G_check_pattern.kp G_check_pattern.two .nil passL (pa_cons pe_str (pa_cons (pv 2) pa_nil))))
    (pss_one (ps_if (pt_not (pt_val (pe_call G_is_integer_within.one (hr.mono (by decide)) (by rfl) T.g_is_integer_within G_is_integer_within.kp G_is_integer_within.two .nil passL (pa_cons (pv 3) (pa_cons pe_int (pa_cons (pe_gint (by rfl) T.c_GREATEST_LATENESS) pa_nil)))))) (pss_one ps_never) pss_nil))))), ?_⟩
  have m2 := hP.m2
  have m4 := hP.m4
  have l9 := hP.l99
  refine ⟨_, rfl, vn m, 2, 10000, rfl, .int _, true, by rw [inB_in (by omega) (by omega)], ?_⟩
  refine ⟨_, rfl, _, tp, tk, rfl, htp, hP.tkP, fun H1 S1 => ?_⟩
  refine ⟨_, rfl, _, cp, cl, rfl, S1 _ _ hcp, hP.clP, fun H2 S2 => ?_⟩
  refine ⟨_, rfl, vn lt, 0, 99, rfl, .int _, true, by rw [inB_in (by omega) (by omega)], ?_⟩
  exact k H2 (S1.trans S2)
end
end Tk

/-! ### The hall -/
namespace Tk
open PySem PySem.Spec PyProof.Rows L2 Mm
def calV (tk cl : List Nat) (n : Nat) : List V := (List.range (n + 1)).map fun t => vn (cal tk cl t)
theorem calV_len {tk cl : List Nat} {n : Nat} : (calV tk cl n).length = n + 1 := by unfold calV; simp
theorem calV_at {tk cl : List Nat} {n t : Nat} (h : t ≤ n) : (calV tk cl n)[t]? = some (vn (cal tk cl t)) := by
  unfold calV
  rw [List.getElem?_map, List.getElem?_range (by omega)]
  rfl
theorem calV_succ {tk cl : List Nat} {n : Nat} : calV tk cl (n + 1) = calV tk cl n ++ [vn (cal tk cl (n + 1))] := by
  unfold calV
  rw [List.range_succ, List.map_append]
  rfl
theorem pat_at {ps : List Nat} (h : 0 < ps.length) {z : Int} {i : Nat} (e : z = (i : Int)) : atI (ps.map vn) (z % ((ps.map vn).length : Int)) = some (vn (atp ps i)) := by
  subst e
  rw [List.length_map, show (i : Int) % (ps.length : Int) = ((i % ps.length : Nat) : Int) from (Int.natCast_emod _ _).symm]
  refine atn ?_
  have lt := Nat.mod_lt i h
  rw [List.getElem?_map]
  unfold atp
  rw [List.getD_eq_getElem?_getD, List.getElem?_eq_getElem lt]
  rfl
def hfs (m : Nat) (tp cp : Addr) (lt : Nat) (lp : Addr) : List (Str × V) := putF "_called" (.ref lp) (putF "lateness" (vn lt) (putF "calls" (.ref cp) (putF "takes" (.ref tp) (putF "modulus" (vn m) []))))
theorem hfs_no {m : Nat} {tp cp : Addr} {lt : Nat} {lp : Addr} {x : Str} (h1 : ¬ x = "_called") (h2 : ¬ x = "lateness") (h3 : ¬ x = "calls") (h4 : ¬ x = "takes") (h5 : ¬ x = "modulus") : (hfs m tp cp lt lp).lookup x = none := by
  unfold hfs
  rw [lookup_putF, if_neg h1, lookup_putF, if_neg h2, lookup_putF, if_neg h3, lookup_putF, if_neg h4, lookup_putF, if_neg h5]
  rfl
theorem hfs_takes {m : Nat} {tp cp : Addr} {lt : Nat} {lp : Addr} : (hfs m tp cp lt lp).lookup ("takes" : Str) = some (.ref tp) := by
  unfold hfs
  rw [lookup_putF, if_neg (by decide +kernel), lookup_putF, if_neg (by decide +kernel), lookup_putF, if_neg (by decide +kernel), lookup_putF, if_pos rfl]
theorem hfs_calls {m : Nat} {tp cp : Addr} {lt : Nat} {lp : Addr} : (hfs m tp cp lt lp).lookup ("calls" : Str) = some (.ref cp) := by
  unfold hfs
  rw [lookup_putF, if_neg (by decide +kernel), lookup_putF, if_neg (by decide +kernel), lookup_putF, if_pos rfl]
theorem hfs_lateness {m : Nat} {tp cp : Addr} {lt : Nat} {lp : Addr} : (hfs m tp cp lt lp).lookup ("lateness" : Str) = some (vn lt) := by
  unfold hfs
  rw [lookup_putF, if_neg (by decide +kernel), lookup_putF, if_pos rfl]
theorem hfs_called {m : Nat} {tp cp : Addr} {lt : Nat} {lp : Addr} : (hfs m tp cp lt lp).lookup ("_called" : Str) = some (.ref lp) := by
  unfold hfs
  rw [lookup_putF, if_pos rfl]
theorem hfs_modulus {m : Nat} {tp cp : Addr} {lt : Nat} {lp : Addr} : (hfs m tp cp lt lp).lookup ("modulus" : Str) = some (vn m) := by
  unfold hfs
  rw [lookup_putF, if_neg (by decide +kernel), lookup_putF, if_neg (by decide +kernel), lookup_putF, if_neg (by decide +kernel), lookup_putF, if_neg (by decide +kernel), lookup_putF, if_pos rfl]
/-- a hall at h, its numbers of calls at lp -/
structure HallAt (C : Addr) (H : Hp) (h : Addr) (m : Nat) (tk cl : List Nat) (lt : Nat) (lp : Addr) : Prop where
  ex : ∃ dx tp cp, H h = some (.ins C dx (hfs m tp cp lt lp)) ∧ H tp = some (.tup (tk.map vn)) ∧ H cp = some (.tup (cl.map vn))
  lst : H lp = some (.lst (calV tk cl (2 * per tk cl)))
  ok : Parts m tk cl lt
theorem HallAt.but {C d h lp : Addr} {H H' : Hp} {m lt : Nat} {tk cl : List Nat} {cs : List V} (p : HallAt C H h m tk cl lt lp) (b : But d H H') (hd : H d = some (.lst cs)) (n : lp ≠ d) : HallAt C H' h m tk cl lt lp := by
  obtain ⟨dx, tp, cp, h1, h2, h3⟩ := p.ex
  exact ⟨⟨dx, tp, cp, b _ _ (ne_of h1 hd (fun q => by cases q)) h1, b _ _ (ne_of h2 hd (fun q => by cases q)) h2, b _ _ (ne_of h3 hd (fun q => by cases q)) h3⟩, b _ _ n p.lst, p.ok⟩
theorem HallAt.same {C h lp : Addr} {H H' : Hp} {m lt : Nat} {tk cl : List Nat} (p : HallAt C H h m tk cl lt lp) (b : Same H H') : HallAt C H' h m tk cl lt lp := by
  obtain ⟨dx, tp, cp, h1, h2, h3⟩ := p.ex
  exact ⟨⟨dx, tp, cp, b _ _ h1, b _ _ h2, b _ _ h3⟩, b _ _ p.lst, p.ok⟩
def spCount : Sp := fun vs H Q _ => ∃ (tp cp : Addr) (tk cl : List Nat) (n : Nat), vs = [.ref tp, .ref cp, vn n] ∧ H tp = some (.tup (tk.map vn)) ∧ H cp = some (.tup (cl.map vn)) ∧ Pat tk ∧ Pat cl ∧ n ≤ 1000 ∧
  ∀ l H', H l = none → Same H H' → H' l = some (.lst (calV tk cl n)) → Q (.ref l) H'
def spPeriod (C : Addr) : Sp := fun vs H Q _ => ∃ (h dx tp cp : Addr) (fs : List (Str × V)) (tk cl : List Nat), vs = [.ref h] ∧ H h = some (.ins C dx fs) ∧ fs.lookup ("takes" : Str) = some (.ref tp) ∧ fs.lookup ("calls" : Str) = some (.ref cp) ∧
  H tp = some (.tup (tk.map vn)) ∧ H cp = some (.tup (cl.map vn)) ∧ Pat tk ∧ Pat cl ∧ Q (vn (per tk cl)) H
def spInit (C : Addr) : Sp := fun vs H Q _ => ∃ (x dx tp cp : Addr) (m lt : Nat) (tk cl : List Nat), vs = [.ref x, vn m, .ref tp, .ref cp, vn lt] ∧ H x = some (.ins C dx []) ∧ H tp = some (.tup (tk.map vn)) ∧ H cp = some (.tup (cl.map vn)) ∧ Parts m tk cl lt ∧
  ∀ H' lp, But x H H' → H lp = none → HallAt C H' x m tk cl lt lp → Q .non H'
theorem per_144 {tk cl : List Nat} (h1 : Pat tk) (h2 : Pat cl) : per tk cl ≤ 144 := by
  have := per_le (tk := tk) (cl := cl)
  have a := Nat.mul_le_mul h1.len h2.len
  omega
theorem vn_int {z : Int} {n : Nat} (h : z = (n : Int)) : V.int z = vn n := by rw [h]
section
variable {P : Program} {w : World} {K : PySem.W.Frag} {mg : Str → Option Value} {base : Heap}
theorem ok_count_calls (T : Txt K mg) : OkF P w K mg base 1 (He.ga K "count_calls") ["takes", "calls", "ticks"] spCount := by
  refine FnP.okF T.f_count_calls sc_count_calls (fun _ _ _ _ _ _ us hl => match us, hl with | [_, _, _], _ => rfl) (fun vs H Q E h => ?_) (fun cdv A outer s H vs Q E hr h => ?_)
  · obtain ⟨tp, cp, tk, cl, n, rfl, _⟩ := h
    rfl
  obtain ⟨tp, cp, tk, cl, n, rfl, htp, hcp, hT, hC, hn, k⟩ := h
  refine ⟨_, (pss_cons (ps_set (i := 3) sc_count_calls.nd rfl (Or.inl rfl) (pe_lst (pa_cons pe_int pa_nil)))
    (pss_cons (ps_set (i := 4) sc_count_calls.nd rfl (Or.inl rfl) pe_int)
    (pss_cons (ps_for own_cx rfl (pi_range1 (by rfl) T.g_range (pa_cons (pv 2) pa_nil)) (pg_name (i := 5) sc_count_calls.nd rfl (Or.inl rfl))
      (pss_cons (ps_aug (i := 4) sc_count_calls.nd rfl (Or.inl rfl) (pe_ix (ixTK (K := K)) (pv 0) (pe_op op_mod (pv 5) (pe_callB (lenK (K := K)) (by rfl) T.g_len (by decide +kernel) (pa_cons (pv 0) pa_nil))) (fun _ _ => rfl)) ip_add)
    (pss_cons (ps_set (i := 6) sc_count_calls.nd rfl (Or.inl rfl) (pe_callB (show CallR _ (.builtin "min") Rd.rMin2 from call_min2 (by rfl)) (by rfl) T.g_min (by decide +kernel) (pa_cons (pv 4) (pa_cons (pe_ix (ixTK (K := K)) (pv 1) (pe_op op_mod (pv 5) (pe_callB (lenK (K := K)) (by rfl) T.g_len (by decide +kernel) (pa_cons (pv 1) pa_nil))) (fun _ _ => rfl)) pa_nil))))
    (pss_cons (ps_aug (i := 4) sc_count_calls.nd rfl (Or.inl rfl) (pv 6) ip_sub)
    (pss_one (ps_expr (pe_bm PySem.F.plainAttrs_list PySem.F.slot_list_append PySem.F.type_list_append mt_append (pv 3) (pa_cons (pe_op op_add (pe_ix (ixLK (K := K)) (pv 3) (pv 5) (fun _ _ => rfl)) (pv 6)) pa_nil))))))))
    (pss_one (ps_ret (pv 3)))))), ?_⟩
  refine ⟨(by show 1 ≤ sizeLine; decide), fun l hl => ?_⟩
  have nl : ∀ {q : Addr} {o : HO}, H q = some o → q ≠ l := fun e => ne_of_none e hl
  refine ⟨_, rfl, (n : Int), rfl, by omega, by omega, for_range (lo := 0) (n := ((n : Int)).toNat) (fun i σ H2 => ∃ a b, σ = [some (.ref tp), some (.ref cp), some (vn n), some (.ref l), some (vn (wt tk cl i)), a, b] ∧ H2 = upd H l (.lst (calV tk cl i)))
    ⟨_, _, rfl, rfl⟩ ?_ ?_⟩
  · rintro i σ H2 hi ⟨a, b, rfl, rfl⟩
    have hi2 : i < n := by simpa using hi
    have t1 : upd H l (.lst (calV tk cl i)) tp = some (.tup (tk.map vn)) := by rw [upd_ne (nl htp)]; exact htp
    have t2 : upd H l (.lst (calV tk cl i)) cp = some (.tup (cl.map vn)) := by rw [upd_ne (nl hcp)]; exact hcp
    have L1 := hT.pos
    have L2 := hC.pos
    -- waiting += takes[tick % len(takes)]
    refine ⟨_, rfl, _, rfl, _, rfl, _, rfl, tp, _, rfl, .inr (SqT.of t1), _, _, rfl, rfl, (by show (0 : Int) < ((tk.map vn).length : Int); rw [List.length_map]; omega), tp, _, _, _, rfl, rfl, SqT.of t1, pat_at L1 (Int.zero_add _), _, _, rfl, rfl, ?_⟩
    -- now = min(waiting, calls[tick % len(calls)])
    refine ⟨_, rfl, _, rfl, _, rfl, _, rfl, cp, _, rfl, .inr (SqT.of t2), _, _, rfl, rfl, (by show (0 : Int) < ((cl.map vn).length : Int); rw [List.length_map]; omega), cp, _, _, _, rfl, rfl, SqT.of t2, pat_at L2 (Int.zero_add _), _, _, rfl, ?_⟩
    have em : V.int (if (atp cl i : Int) < ((wt tk cl i : Int) + (atp tk i : Int)) then (atp cl i : Int) else ((wt tk cl i : Int) + (atp tk i : Int))) = vn (min (wt tk cl i + atp tk i) (atp cl i)) := by
      refine vn_int ?_
      split <;> omega
    rw [em]
    -- waiting -= now
    refine ⟨_, rfl, _, rfl, _, _, rfl, rfl, ?_⟩
    -- called.append(called[tick] + now)
    refine ⟨_, rfl, .inl ⟨rfl, _, SqL.of upd_same⟩, _, rfl, _, rfl, l, _, _, _, rfl, rfl, SqL.of upd_same, (show atI (calV tk cl i) ((0 : Int) + (i : Int)) = some (vn (cal tk cl i)) by rw [Int.zero_add]; exact atn (calV_at (Nat.le_refl i))), _, rfl, _, _, rfl, rfl, ?_⟩
    refine ⟨l, _, _, rfl, rfl, upd_same, small1000 (by rw [calV_len]; omega), some (.int (0 + (i : Int))), some (vn (min (wt tk cl i + atp tk i) (atp cl i))), ?_, ?_⟩
    · have e1 : V.int ((wt tk cl i : Int) + (atp tk i : Int) - ((min (wt tk cl i + atp tk i) (atp cl i) : Nat) : Int)) = vn (wt tk cl (i + 1)) := vn_int (by rw [wt_succ]; omega)
      rw [← e1]
      rfl
    · rw [upd_upd, calV_succ]
      have e2 : V.int ((cal tk cl i : Int) + ((min (wt tk cl i + atp tk i) (atp cl i) : Nat) : Int)) = vn (cal tk cl (i + 1)) := vn_int (by rw [cal_succ]; omega)
      rw [← e2]
  · rintro σ H2 ⟨a, b, rfl, rfl⟩
    refine ⟨_, rfl, k l _ hl (Same.new hl) ?_⟩
    rw [upd_same]
    simp
theorem ok_period (T : Txt K mg) : OkF P w K mg base 1 (getAt K (He.ga K "Hall") "period") ["self"] (spPeriod (He.ga K "Hall")) := by
  refine FnP.okF T.f_period sc_period (fun _ _ _ _ _ _ us hl => match us, hl with | [_], _ => rfl) (fun vs H Q E h => ?_) (fun cdv A outer s H vs Q E hr h => ?_)
  · obtain ⟨h, _, _, _, _, _, _, rfl, _⟩ := h
    rfl
  obtain ⟨h, dx, tp, cp, fs, tk, cl, rfl, hh, f1, f2, htp, hcp, hT, hC, k⟩ := h
  refine ⟨_, (pss_one (ps_ret (pfun cr_lcm (by rfl) T.g_lcm (pa_cons (pe_callB (lenK (K := K)) (by rfl) T.g_len (by decide +kernel) (pa_cons (pe_fld (pv 0) rfl) pa_nil)) (pa_cons (pe_callB (lenK (K := K)) (by rfl) T.g_len (by decide +kernel) (pa_cons (pe_fld (pv 0) rfl) pa_nil)) pa_nil))))), ?_⟩
  have a1 := hT.len
  have a2 := hC.len
  refine ⟨_, rfl, h, _, dx, fs, _, rfl, hh, T.cl_Hall, T.n_takes, f1, tp, _, rfl, .inr (SqT.of htp), ?_⟩
  refine ⟨_, rfl, h, _, dx, fs, _, rfl, hh, T.cl_Hall, T.n_calls, f2, cp, _, rfl, .inr (SqT.of hcp), ?_⟩
  refine ⟨_, _, rfl, by rw [List.length_map]; omega, by rw [List.length_map]; omega, ?_⟩
  rw [List.length_map, List.length_map]
  exact k
theorem ok_init (T : Txt K mg) : OkF P w K mg base 5 (He.ma K (He.ga K "Hall") "__init__") ["self", "modulus", "takes", "calls", "lateness"] (spInit (He.ga K "Hall")) := by
  have G_check_hall : OkF P w K mg base 4 (He.ga K "check_hall") ["modulus", "takes", "calls", "lateness"] spChall := ok_check_hall T
  have G_count_calls : OkF P w K mg base 1 (He.ga K "count_calls") ["takes", "calls", "ticks"] spCount := ok_count_calls T
  have G_period : OkF P w K mg base 1 (getAt K (He.ga K "Hall") "period") ["self"] (spPeriod (He.ga K "Hall")) := ok_period T
  refine FnP.okF T.f_init sc_init (fun _ _ _ _ _ _ us hl => match us, hl with | [_, _, _, _, _], _ => rfl) (fun vs H Q E h => ?_) (fun cdv A outer s H vs Q E hr h => ?_)
  · obtain ⟨x, _, _, _, _, _, _, _, rfl, _⟩ := h
    rfl
  obtain ⟨x, dx, tp, cp, m, lt, tk, cl, rfl, hx, htp, hcp, hP, k⟩ := h
  refine ⟨_, (pss_cons (ps_expr (pe_call G_check_hall.one (hr.mono (by decide)) (by rfl) T.g_check_hall G_check_hall.kp G_check_hall.two .nil passL (pa_cons (pv 1) (pa_cons (pv 2) (pa_cons (pv 3) (pa_cons (pv 4) pa_nil))))))
    (pss_cons (ps_fld (pv 0) (pv 1) rfl)
    (pss_cons (ps_fld (pv 0) (pv 2) rfl)
    (pss_cons (ps_fld (pv 0) (pv 3) rfl)
    (pss_cons (ps_fld (pv 0) (pv 4) rfl)
    (pss_one (ps_fld (pv 0) (pe_call G_count_calls.one (hr.mono (by decide)) (by rfl) T.g_count_calls G_count_calls.kp G_count_calls.two .nil passL (pa_cons (pv 2) (pa_cons (pv 3) (pa_cons (pe_op op_mul pe_int (pe_prop (pv 0) T.cl_Hall T.p_period G_period.one (hr.mono (by decide)) G_period.two .nil passL (by rfl))) pa_nil)))) rfl))))))), ?_⟩
  refine ⟨_, rfl, _, rfl, _, rfl, _, rfl, tp, cp, m, lt, tk, cl, rfl, htp, hcp, hP, fun H1 S1 => ?_⟩
  have x1 := S1 _ _ hx
  have n1 : tp ≠ x := ne_of htp hx (fun q => by cases q)
  have n2 : cp ≠ x := ne_of hcp hx (fun q => by cases q)
  have len1 : ∀ (f : Str) (v : V) (fs : List (Str × V)) (n : Nat), fs.length ≤ n → (putF f v fs).length ≤ n + 1 := fun f v fs n h => Nat.le_trans (length_putF f v fs) (Nat.succ_le_succ h)
  refine ⟨_, rfl, _, rfl, x, _, dx, _, rfl, x1, T.cl_Hall, T.n_modulus, (by decide), ?_⟩
  refine ⟨_, rfl, _, rfl, x, _, dx, _, rfl, upd_same, T.cl_Hall, T.n_takes, Nat.lt_of_le_of_lt (len1 _ _ _ 0 (Nat.le_refl 0)) (by decide), ?_⟩
  refine ⟨_, rfl, _, rfl, x, _, dx, _, rfl, upd_same, T.cl_Hall, T.n_calls, Nat.lt_of_le_of_lt (len1 _ _ _ 1 (len1 _ _ _ 0 (Nat.le_refl 0))) (by decide), ?_⟩
  refine ⟨_, rfl, _, rfl, x, _, dx, _, rfl, upd_same, T.cl_Hall, T.n_lateness, Nat.lt_of_le_of_lt (len1 _ _ _ 2 (len1 _ _ _ 1 (len1 _ _ _ 0 (Nat.le_refl 0)))) (by decide), ?_⟩
  rw [upd_upd, upd_upd, upd_upd]
  have t1 : ∀ o, upd H1 x o tp = some (.tup (tk.map vn)) := fun o => by rw [upd_ne n1]; exact S1 _ _ htp
  have t2 : ∀ o, upd H1 x o cp = some (.tup (cl.map vn)) := fun o => by rw [upd_ne n2]; exact S1 _ _ hcp
  have p144 := per_144 hP.tkP hP.clP
  -- self._called = count_calls(takes, calls, 2 * self.period)
  refine ⟨_, rfl, _, rfl, _, rfl, x, dx, _, rfl, upd_same, x, dx, tp, cp, _, tk, cl, rfl, upd_same, ?_, ?_, t1 _, t2 _, hP.tkP, hP.clP, ?_⟩
  · rw [lookup_putF, if_neg (by decide +kernel), lookup_putF, if_neg (by decide +kernel), lookup_putF, if_pos rfl]
  · rw [lookup_putF, if_neg (by decide +kernel), lookup_putF, if_pos rfl]
  refine ⟨2, _, rfl, rfl, .inl ⟨by decide, by decide⟩, tp, cp, tk, cl, 2 * per tk cl, by simp, t1 _, t2 _, hP.tkP, hP.clP, by omega, fun lp H2 n3 S2 h2 => ?_⟩
  have nx : x ≠ lp := fun e => by rw [e, upd_same] at n3; cases n3
  have n4 : H lp = none := by
    rw [upd_ne (Ne.symm nx)] at n3
    exact S1.free n3
  refine ⟨_, rfl, x, _, dx, _, rfl, S2 _ _ upd_same, T.cl_Hall, T.n__called, Nat.lt_of_le_of_lt (len1 _ _ _ 3 (len1 _ _ _ 2 (len1 _ _ _ 1 (len1 _ _ _ 0 (Nat.le_refl 0))))) (by decide), ?_⟩
  refine k _ lp (fun b o nb e => ?_) n4 ⟨⟨dx, tp, cp, upd_same, ?_, ?_⟩, ?_, hP⟩
  · rw [upd_ne nb]
    exact S2 _ _ (by rw [upd_ne nb]; exact S1 _ _ e)
  · rw [upd_ne n1]
    exact S2 _ _ (t1 _)
  · rw [upd_ne n2]
    exact S2 _ _ (t2 _)
  · rw [upd_ne (Ne.symm nx)]
    exact h2
end
end Tk

/-! ### The hall's methods -/
namespace Tk
open PySem PySem.Spec PyProof.Rows L2 Mm
def spTaken (C : Addr) : Sp := fun vs H Q _ => ∃ (h lp : Addr) (z : Int) (m lt : Nat) (tk cl : List Nat), vs = [.ref h, .int z] ∧ HallAt C H h m tk cl lt lp ∧ ∀ H', Same H H' → Q (vn (tak tk z.toNat)) H'
def spCalled (C : Addr) : Sp := fun vs H Q _ => ∃ (h lp : Addr) (z : Int) (m lt : Nat) (tk cl : List Nat), vs = [.ref h, .int z] ∧ HallAt C H h m tk cl lt lp ∧ Q (vn (cal tk cl z.toNat)) H
def spWaiting (C : Addr) : Sp := fun vs H Q _ => ∃ (h lp : Addr) (n : Nat) (m lt : Nat) (tk cl : List Nat), vs = [.ref h, vn n] ∧ n ≤ 1000000000000000000 ∧ HallAt C H h m tk cl lt lp ∧ ∀ H', Same H H' → Q (vn (wt tk cl (n + 1))) H'
def grow (tk cl : List Nat) : Nat := wt tk cl (2 * per tk cl + 1) - wt tk cl (per tk cl + 1)
def spGrowth (C : Addr) : Sp := fun vs H Q _ => ∃ (h lp : Addr) (m lt : Nat) (tk cl : List Nat), vs = [.ref h] ∧ HallAt C H h m tk cl lt lp ∧ ∀ H', Same H H' → Q (vn (grow tk cl)) H'
theorem map_vn (tk : List Nat) : (tk.map (fun n : Nat => (n : Int))).map V.int = tk.map vn := by rw [List.map_map]; rfl
theorem sum_cast (tk : List Nat) : (tk.map (fun n : Nat => (n : Int))).sum = ((tk.sum : Nat) : Int) := by
  induction tk with
  | nil => rfl
  | cons a r ih => rw [List.map_cons, List.sum_cons, List.sum_cons, ih]; omega
theorem max0 (z : Int) : (if (0 : Int) > z then (0 : Int) else z) = ((z.toNat : Nat) : Int) := by split <;> omega
section
variable {P : Program} {w : World} {K : PySem.W.Frag} {mg : Str → Option Value} {base : Heap}
theorem ok_called (T : Txt K mg) : OkF P w K mg base 3 (He.ma K (He.ga K "Hall") "called") ["self", "tick"] (spCalled (He.ga K "Hall")) := by
  have G_period : OkF P w K mg base 1 (getAt K (He.ga K "Hall") "period") ["self"] (spPeriod (He.ga K "Hall")) := ok_period T
  refine FnP.okF T.f_called sc_called (fun _ _ _ _ _ _ us hl => match us, hl with | [_, _], _ => rfl) (fun vs H Q E h => ?_) (fun cdv A outer s H vs Q E hr h => ?_)
  · obtain ⟨h, _, _, _, _, _, _, rfl, _⟩ := h
    rfl
  obtain ⟨h, lp, z, m, lt, tk, cl, rfl, hA, k⟩ := h
  obtain ⟨dx, tp, cp, hh, htp, hcp⟩ := hA.ex
  have p0 := per_pos hA.ok.tkP.pos hA.ok.clP.pos
  have p144 := per_144 hA.ok.tkP hA.ok.clP
  have ht := per_tk (tk := tk) (cl := cl)
  have hc := per_cl (tk := tk) (cl := cl)
  generalize hp : per tk cl = p at *
  have hL : SqL K H lp (calV tk cl (2 * p)) := SqL.of (by rw [← hp]; exact hA.lst)
  refine ⟨_, (pss_cons (ps_set (i := 2) sc_called.nd rfl (Or.inl rfl) (pe_prop (pv 0) T.cl_Hall T.p_period G_period.one (hr.mono (by decide)) G_period.two .nil passL (by rfl)))
    (pss_cons (ps_set (i := 3) sc_called.nd rfl (Or.inl rfl) (pe_callB (show CallR _ (.builtin "max") Rd.rMax2 from call_max2 (by rfl)) (by rfl) T.g_max (by decide +kernel) (pa_cons (pe_op op_sub (pe_op op_fdiv (pv 1) (pv 2)) pe_int) (pa_cons pe_int pa_nil))))
    (pss_cons (ps_set (i := 4) sc_called.nd rfl (Or.inl rfl) (pe_op op_sub (pe_ix (ixLK (K := K)) (pe_fld (pv 0) rfl) (pe_op op_mul pe_int (pv 2)) (fun _ _ => rfl)) (pe_ix (ixLK (K := K)) (pe_fld (pv 0) rfl) (pv 2) (fun _ _ => rfl))))
    (pss_one (ps_ret (pe_op op_add (pe_op op_mul (pv 3) (pv 4)) (pe_ix (ixLK (K := K)) (pe_fld (pv 0) rfl) (pe_op op_sub (pe_callB (show CallR _ (.builtin "max") Rd.rMax2 from call_max2 (by rfl)) (by rfl) T.g_max (by decide +kernel) (pa_cons (pv 1) (pa_cons pe_int pa_nil))) (pe_op op_mul (pv 3) (pv 2))) (fun _ _ => rfl)))))))), ?_⟩
  refine ⟨_, rfl, h, dx, _, rfl, hh, h, dx, tp, cp, _, tk, cl, rfl, hh, hfs_takes, hfs_calls, htp, hcp, hA.ok.tkP, hA.ok.clP, ?_⟩
  rw [hp]
  -- skipped
  refine ⟨_, rfl, _, rfl, _, _, rfl, rfl, ⟨by omega, by omega⟩, _, _, rfl, rfl, _, _, rfl, ?_⟩
  have es : (if (0 : Int) > z / (p : Int) - 1 then (0 : Int) else z / (p : Int) - 1) = ((z.toNat / p - 1 : Nat) : Int) := by
    rcases Int.lt_or_le z 0 with n | n
    · have h1 : z / (p : Int) < 0 := Int.ediv_lt_of_lt_mul (by omega) (by omega)
      have h2 : z.toNat = 0 := by omega
      rw [h2, Nat.zero_div]
      split <;> omega
    · obtain ⟨q, rfl⟩ : ∃ q : Nat, z = (q : Int) := ⟨z.toNat, by omega⟩
      have h1 : (q : Int) / (p : Int) = ((q / p : Nat) : Int) := (Int.natCast_ediv _ _).symm
      rw [h1, Int.toNat_natCast]
      split <;> omega
  rw [es]
  generalize hs : z.toNat / p - 1 = sk
  -- in_period
  have mono := cal_mono (tk := tk) (cl := cl) (show p ≤ 2 * p by omega)
  have a1 : atI (calV tk cl (2 * p)) ((2 : Int) * (p : Int)) = some (vn (cal tk cl (2 * p))) := by
    rw [show (2 : Int) * (p : Int) = ((2 * p : Nat) : Int) by omega]
    exact atn (calV_at (Nat.le_refl _))
  have a2 : atI (calV tk cl (2 * p)) (p : Int) = some (vn (cal tk cl p)) := atn (calV_at (by omega))
  refine ⟨_, rfl, h, _, dx, _, _, rfl, hh, T.cl_Hall, T.n__called, hfs_called, _, rfl, _, _, rfl, rfl, .inl ⟨by decide, by decide⟩, lp, _, _, _, rfl, rfl, hL, a1, ?_⟩
  refine ⟨_, rfl, h, _, dx, _, _, rfl, hh, T.cl_Hall, T.n__called, hfs_called, _, rfl, lp, _, _, _, rfl, rfl, hL, a2, _, _, rfl, rfl, ?_⟩
  -- the end
  have small : cal tk cl (2 * p) - cal tk cl p ≤ 100000 := by
    have := cal_le (tk := tk) (cl := cl) (2 * p)
    have := tak_le hA.ok.tkP.nine (2 * p)
    omega
  refine ⟨_, rfl, _, rfl, _, _, rfl, rfl, .inr ⟨by omega, by omega⟩, ?_⟩
  refine ⟨_, rfl, h, _, dx, _, _, rfl, hh, T.cl_Hall, T.n__called, hfs_called, _, rfl, _, _, rfl, ?_⟩
  rw [max0]
  refine ⟨_, rfl, _, rfl, _, _, rfl, rfl, .inr ⟨by omega, by omega⟩, _, _, rfl, rfl, ?_⟩
  have sk_le : sk * p ≤ z.toNat := by
    rw [← hs]
    have := Nat.div_mul_le_self z.toNat p
    have := Nat.mul_le_mul_right p (Nat.sub_le (z.toNat / p) 1)
    omega
  have a3 : atI (calV tk cl (2 * p)) ((z.toNat : Int) - (sk : Int) * (p : Int)) = some (vn (cal tk cl (z.toNat - sk * p))) := by
    rw [show (z.toNat : Int) - (sk : Int) * (p : Int) = ((z.toNat - sk * p : Nat) : Int) by rw [Int.ofNat_sub sk_le, Int.natCast_mul]]
    refine atn (calV_at ?_)
    have := rest_lt p0 z.toNat
    rw [hs] at this
    omega
  refine ⟨lp, _, _, _, rfl, rfl, hL, a3, _, _, rfl, rfl, ?_⟩
  have e := cal_is p0 ht hc z.toNat
  rw [hs] at e
  have ev : V.int ((sk : Int) * ((cal tk cl (2 * p) : Int) - (cal tk cl p : Int)) + (cal tk cl (z.toNat - sk * p) : Int)) = vn (cal tk cl z.toNat) := by
    refine vn_int ?_
    rw [e, Int.natCast_add, Int.natCast_mul, Int.ofNat_sub mono]
  show Q (V.int ((sk : Int) * ((cal tk cl (2 * p) : Int) - (cal tk cl p : Int)) + (cal tk cl (z.toNat - sk * p) : Int))) H
  rw [ev]
  exact k
theorem ok_taken (T : Txt K mg) : OkF P w K mg base 1 (He.ma K (He.ga K "Hall") "taken") ["self", "tick"] (spTaken (He.ga K "Hall")) := by
  refine FnP.okF T.f_taken sc_taken (fun _ _ _ _ _ _ us hl => match us, hl with | [_, _], _ => rfl) (fun vs H Q E h => ?_) (fun cdv A outer s H vs Q E hr h => ?_)
  · obtain ⟨h, _, _, _, _, _, _, rfl, _⟩ := h
    rfl
  obtain ⟨h, lp, z, m, lt, tk, cl, rfl, hA, k⟩ := h
  obtain ⟨dx, tp, cp, hh, htp, hcp⟩ := hA.ex
  have n0 := hA.ok.tkP.pos
  have n12 := hA.ok.tkP.len
  refine ⟨_, (pss_cons (ps_asg (pe_callB call_divmod (by rfl) T.g_divmod (by decide +kernel) (pa_cons (pe_callB (show CallR _ (.builtin "max") Rd.rMax2 from call_max2 (by rfl)) (by rfl) T.g_max (by decide +kernel) (pa_cons (pv 1) (pa_cons pe_int pa_nil))) (pa_cons (pe_callB (lenK (K := K)) (by rfl) T.g_len (by decide +kernel) (pa_cons (pe_fld (pv 0) rfl) pa_nil)) pa_nil))) (pg_tup rfl (pgs_cons (pg_name (i := 2) sc_taken.nd rfl (Or.inl rfl)) (pgs_cons (pg_name (i := 3) sc_taken.nd rfl (Or.inl rfl)) pgs_nil))))
    (pss_one (ps_ret (pe_op op_add (pe_op op_mul (pv 2) (pe_callB (sumTK (K := K)) (by rfl) T.g_sum (by decide +kernel) (pa_cons (pe_fld (pv 0) rfl) pa_nil))) (pe_callB (sumTK (K := K)) (by rfl) T.g_sum (by decide +kernel) (pa_cons (pe_slice (slAK (K := K)) (pe_fld (pv 0) rfl) po_none (po_some (pv 3))) pa_nil)))))), ?_⟩
  -- rounds, rest = divmod(max(tick, 0), len(self.takes))
  refine ⟨_, rfl, _, _, rfl, ?_⟩
  rw [max0]
  refine ⟨_, rfl, h, _, dx, _, _, rfl, hh, T.cl_Hall, T.n_takes, hfs_takes, tp, _, rfl, .inr (SqT.of htp), _, _, rfl, ⟨by rw [List.length_map]; omega, by rw [List.length_map]; omega⟩, fun d hd => ?_⟩
  rw [List.length_map, show (z.toNat : Int) / (tk.length : Int) = ((z.toNat / tk.length : Nat) : Int) from (Int.natCast_ediv _ _).symm, show (z.toNat : Int) % (tk.length : Int) = ((z.toNat % tk.length : Nat) : Int) from (Int.natCast_emod _ _).symm]
  have rl := Nat.mod_lt z.toNat n0
  have S1 : Same H (upd H d (.tup [vn (z.toNat / tk.length), vn (z.toNat % tk.length)])) := Same.new hd
  generalize hH1 : upd H d (.tup [vn (z.toNat / tk.length), vn (z.toNat % tk.length)]) = H1 at S1
  refine ⟨d, _, rfl, SqT.of (by rw [← hH1]; exact upd_same), rfl, _, _, rfl, _, _, rfl, rfl, ?_⟩
  -- rounds * sum(self.takes) + sum(self.takes[:rest])
  have sm : ∀ x ∈ tk, x ≤ 9 := hA.ok.tkP.nine
  have s108 : tk.sum ≤ 108 := by
    have h1 := take_sum tk tk.length (Nat.le_refl _)
    have h2 := tak_le sm tk.length
    rw [List.take_length] at h1
    omega
  refine ⟨_, rfl, _, rfl, h, _, dx, _, _, rfl, S1 _ _ hh, T.cl_Hall, T.n_takes, hfs_takes, tp, tk.map (fun n : Nat => (n : Int)), rfl, by rw [map_vn]; exact SqT.of (S1 _ _ htp), _, _, rfl, rfl, .inr (by rw [sum_cast]; omega), ?_⟩
  have T1 : SqT K H1 tp (tk.map vn) := SqT.of (S1 _ _ htp)
  refine ⟨_, rfl, h, _, dx, _, _, rfl, S1 _ _ hh, T.cl_Hall, T.n_takes, hfs_takes, _, rfl, _, rfl, tp, _, rfl, T1, fun c => ?_, fun _ t ht => ?_⟩
  · exfalso
    have c2 := c.2
    rw [HT.sIx_nat, List.length_map] at c2
    omega
  have S2 : Same H (upd H1 t (.tup (cutV (tk.map vn) none (some ((z.toNat % tk.length : Nat) : Int))))) := S1.trans (Same.new ht)
  have ec : cutV (tk.map vn) none (some ((z.toNat % tk.length : Nat) : Int)) = (tk.take (z.toNat % tk.length)).map vn := by
    unfold cutV
    rw [HT.sIx_none, HT.sIx_nat, List.drop_zero, List.length_map, Nat.sub_zero, Nat.min_eq_left (Nat.le_of_lt rl), List.map_take]
  refine ⟨t, (tk.take (z.toNat % tk.length)).map (fun n : Nat => (n : Int)), rfl, by rw [map_vn, ec]; exact SqT.of upd_same, _, _, rfl, rfl, ?_⟩
  have ev : V.int (((z.toNat / tk.length : Nat) : Int) * (tk.map (fun n : Nat => (n : Int))).sum + ((tk.take (z.toNat % tk.length)).map (fun n : Nat => (n : Int))).sum) = vn (tak tk z.toNat) := by
    refine vn_int ?_
    rw [sum_cast, sum_cast, tak_is tk n0 z.toNat, Int.natCast_add, Int.natCast_mul]
  have q := k _ S2
  rw [← ev] at q
  exact q
theorem ok_waiting (T : Txt K mg) : OkF P w K mg base 4 (He.ma K (He.ga K "Hall") "waiting") ["self", "tick"] (spWaiting (He.ga K "Hall")) := by
  have G_check_tick : OkF P w K mg base 2 (He.ga K "check_tick") ["tick"] spTick := ok_check_tick T
  have G_taken : OkF P w K mg base 1 (He.ma K (He.ga K "Hall") "taken") ["self", "tick"] (spTaken (He.ga K "Hall")) := ok_taken T
  have G_called : OkF P w K mg base 3 (He.ma K (He.ga K "Hall") "called") ["self", "tick"] (spCalled (He.ga K "Hall")) := ok_called T
  refine FnP.okF T.f_waiting sc_waiting (fun _ _ _ _ _ _ us hl => match us, hl with | [_, _], _ => rfl) (fun vs H Q E h => ?_) (fun cdv A outer s H vs Q E hr h => ?_)
  · obtain ⟨h, _, _, _, _, _, _, rfl, _⟩ := h
    rfl
  obtain ⟨h, lp, n, m, lt, tk, cl, rfl, hn, hA, k⟩ := h
  obtain ⟨dx, tp, cp, hh, htp, hcp⟩ := hA.ex
  refine ⟨_, (pss_cons (ps_expr (pe_call G_check_tick.one (hr.mono (by decide)) (by rfl) T.g_check_tick G_check_tick.kp G_check_tick.two .nil passL (pa_cons (pv 1) pa_nil)))
    (pss_one (ps_ret (pe_op op_sub (pe_meth (pv 0) T.cl_Hall T.m_taken G_taken.one (hr.mono (by decide)) G_taken.two .nil passL (pa_cons (pe_op op_add (pv 1) pe_int) pa_nil)) (pe_meth (pv 0) T.cl_Hall T.m_called G_called.one (hr.mono (by decide)) G_called.two .nil passL (pa_cons (pe_op op_add (pv 1) pe_int) pa_nil)))))), ?_⟩
  refine ⟨_, rfl, (n : Int), rfl, by omega, by omega, ?_⟩
  refine ⟨_, rfl, h, dx, _, rfl, hh, hfs_no (by decide +kernel) (by decide +kernel) (by decide +kernel) (by decide +kernel) (by decide +kernel), _, rfl, _, _, rfl, rfl, h, lp, (n : Int) + 1, m, lt, tk, cl, rfl, hA, fun H1 S1 => ?_⟩
  refine ⟨_, rfl, h, dx, _, rfl, S1 _ _ hh, hfs_no (by decide +kernel) (by decide +kernel) (by decide +kernel) (by decide +kernel) (by decide +kernel), _, rfl, _, _, rfl, rfl, h, lp, (n : Int) + 1, m, lt, tk, cl, rfl, hA.same S1, ?_⟩
  refine ⟨_, _, rfl, rfl, ?_⟩
  have e : ((n : Int) + 1).toNat = n + 1 := by omega
  rw [e]
  have c := cal_le (tk := tk) (cl := cl) (n + 1)
  have ev : V.int ((tak tk (n + 1) : Int) - (cal tk cl (n + 1) : Int)) = vn (wt tk cl (n + 1)) := vn_int (by unfold wt; omega)
  have q := k H1 S1
  rw [← ev] at q
  exact q
theorem ok_growth (T : Txt K mg) : OkF P w K mg base 5 (getAt K (He.ga K "Hall") "growth") ["self"] (spGrowth (He.ga K "Hall")) := by
  have G_period : OkF P w K mg base 1 (getAt K (He.ga K "Hall") "period") ["self"] (spPeriod (He.ga K "Hall")) := ok_period T
  have G_waiting : OkF P w K mg base 4 (He.ma K (He.ga K "Hall") "waiting") ["self", "tick"] (spWaiting (He.ga K "Hall")) := ok_waiting T
  refine FnP.okF T.f_growth sc_growth (fun _ _ _ _ _ _ us hl => match us, hl with | [_], _ => rfl) (fun vs H Q E h => ?_) (fun cdv A outer s H vs Q E hr h => ?_)
  · obtain ⟨h, _, _, _, _, _, rfl, _⟩ := h
    rfl
  obtain ⟨h, lp, m, lt, tk, cl, rfl, hA, k⟩ := h
  obtain ⟨dx, tp, cp, hh, htp, hcp⟩ := hA.ex
  have p144 := per_144 hA.ok.tkP hA.ok.clP
  refine ⟨_, (pss_one (ps_ret (pe_op op_sub (pe_meth (pv 0) T.cl_Hall T.m_waiting G_waiting.one (hr.mono (by decide)) G_waiting.two .nil passL (pa_cons (pe_op op_mul pe_int (pe_prop (pv 0) T.cl_Hall T.p_period G_period.one (hr.mono (by decide)) G_period.two .nil passL (by rfl))) pa_nil)) (pe_meth (pv 0) T.cl_Hall T.m_waiting G_waiting.one (hr.mono (by decide)) G_waiting.two .nil passL (pa_cons (pe_prop (pv 0) T.cl_Hall T.p_period G_period.one (hr.mono (by decide)) G_period.two .nil passL (by rfl)) pa_nil))))), ?_⟩
  have no : (hfs m tp cp lt lp).lookup ("waiting" : Str) = none := hfs_no (by decide +kernel) (by decide +kernel) (by decide +kernel) (by decide +kernel) (by decide +kernel)
  refine ⟨_, rfl, h, dx, _, rfl, hh, no, _, rfl, h, dx, _, rfl, hh, h, dx, tp, cp, _, tk, cl, rfl, hh, hfs_takes, hfs_calls, htp, hcp, hA.ok.tkP, hA.ok.clP, _, _, rfl, rfl, .inl ⟨by decide, by decide⟩, h, lp, 2 * per tk cl, m, lt, tk, cl, by simp, by omega, hA, fun H1 S1 => ?_⟩
  refine ⟨_, rfl, h, dx, _, rfl, S1 _ _ hh, no, _, rfl, h, dx, _, rfl, S1 _ _ hh, h, dx, tp, cp, _, tk, cl, rfl, S1 _ _ hh, hfs_takes, hfs_calls, S1 _ _ htp, S1 _ _ hcp, hA.ok.tkP, hA.ok.clP, h, lp, per tk cl, m, lt, tk, cl, rfl, by omega, hA.same S1, fun H2 S2 => ?_⟩
  refine ⟨_, _, rfl, rfl, ?_⟩
  have u := wt_up (tk := tk) (cl := cl) per_tk per_cl (per tk cl + 1)
  have e2 : per tk cl + 1 + per tk cl = 2 * per tk cl + 1 := by omega
  rw [e2] at u
  have ev : V.int ((wt tk cl (2 * per tk cl + 1) : Int) - (wt tk cl (per tk cl + 1) : Int)) = vn (grow tk cl) := vn_int (by unfold grow; omega)
  have q := k H2 (S1.trans S2)
  rw [← ev] at q
  exact q
end
end Tk

/-! ### The law's own defs: hall, length, counts -/
namespace Tk
open PySem PySem.Spec PyProof.Rows L2 Mm
def fV (f : Nat → Nat) (n : Nat) : List V := (List.range (n + 1)).map fun t => vn (f t)
theorem fV_len {f : Nat → Nat} {n : Nat} : (fV f n).length = n + 1 := by unfold fV; simp
theorem fV_at {f : Nat → Nat} {n t : Nat} (h : t ≤ n) : (fV f n)[t]? = some (vn (f t)) := by
  unfold fV
  rw [List.getElem?_map, List.getElem?_range (by omega)]
  rfl
theorem fV_succ {f : Nat → Nat} {n : Nat} : fV f (n + 1) = fV f n ++ [vn (f (n + 1))] := by
  unfold fV
  rw [List.range_succ, List.map_append]
  rfl
theorem at_last {xs : List V} {n : Nat} {x : V} (hl : xs.length = n + 1) (h : xs[n]? = some x) : atI xs (-(1 : Int)) = some x := by
  unfold atI ixN
  rw [hl, if_neg (by omega), if_pos (by omega)]
  show xs[(-(1 : Int) + ((n + 1 : Nat) : Int)).toNat]? = some x
  rw [show (-(1 : Int) + ((n + 1 : Nat) : Int)).toNat = n by omega]
  exact h
def spLHall (C : Addr) : Sp := fun vs H Q _ => ∃ (t tp cp : Addr) (m lt : Nat) (tk cl : List Nat), vs = [.ref t] ∧ PartsAt H t m tp tk cp cl lt ∧
  ∀ h lp H', H h = none → H lp = none → Same H H' → HallAt C H' h m tk cl lt lp → Q (.ref h) H'
theorem small10k {n : Nat} (h : n ≤ 10000) : n + 1 ≤ sizeLine := Nat.le_trans (Nat.succ_le_succ h) (by decide)
def spLength : Sp := fun vs H Q _ => ∃ (t tp cp : Addr) (m lt : Nat) (tk cl : List Nat), vs = [.ref t] ∧ PartsAt H t m tp tk cp cl lt ∧ Q (vn (per tk cl)) H
def spCounts : Sp := fun vs H Q _ => ∃ (t tp cp : Addr) (m lt : Nat) (tk cl : List Nat) (n : Nat), vs = [.ref t, vn n] ∧ PartsAt H t m tp tk cp cl lt ∧ n ≤ 10000 ∧
  ∀ r a b H', H r = none → H a = none → H b = none → a ≠ b → Same H H' → H' r = some (.tup [.ref a, .ref b]) → H' a = some (.lst (fV (tak tk) n)) → H' b = some (.lst (fV (cal tk cl) n)) → Q (.ref r) H'
theorem at3 {a b c d : V} {j : Nat} {x : V} (h : [a, b, c, d][j]? = some x) : atI [a, b, c, d] (j : Int) = some x := atn h
/-- the least multiple of n that c divides -/
theorem least_lcm {n c k : Nat} (hk : 0 < k) (h : c ∣ k * n) (no : ∀ j, 0 < j → j < k → ¬ c ∣ j * n) (hn : 0 < n) (hc : 0 < c) : k * n = Nat.lcm n c := by
  have d1 : Nat.lcm n c ∣ k * n := Nat.lcm_dvd (Nat.dvd_mul_left n k) h
  obtain ⟨j, hj⟩ := Nat.dvd_lcm_left n c
  have hp : 0 < Nat.lcm n c := Nat.lcm_pos hn hc
  have j0 : 0 < j := by
    rcases Nat.eq_zero_or_pos j with e | e
    · rw [e] at hj
      omega
    · exact e
  have e2 : Nat.lcm n c = j * n := by rw [hj, Nat.mul_comm]
  rcases Nat.lt_or_ge j k with lt | ge
  · exact absurd (by rw [← e2]; exact Nat.dvd_lcm_right n c) (no j j0 lt)
  · have h1 := Nat.le_of_dvd (Nat.mul_pos hk hn) d1
    have h2 := Nat.mul_le_mul_right n ge
    omega
theorem below_lcm {n c k : Nat} (no : ∀ j, 0 < j → j < k → ¬ c ∣ j * n) (hn : 0 < n) (hc : 0 < c) : k * n ≤ Nat.lcm n c := by
  obtain ⟨j, hj⟩ := Nat.dvd_lcm_left n c
  have hp : 0 < Nat.lcm n c := Nat.lcm_pos hn hc
  have e2 : Nat.lcm n c = j * n := by rw [hj, Nat.mul_comm]
  have j0 : 0 < j := by
    rcases Nat.eq_zero_or_pos j with e | e
    · rw [e] at hj
      omega
    · exact e
  rcases Nat.lt_or_ge j k with lt | ge
  · exact absurd (by rw [← e2]; exact Nat.dvd_lcm_right n c) (no j j0 lt)
  · rw [e2]
    exact Nat.mul_le_mul_right n ge
section
variable {P : Program} {w : World} {K : PySem.W.Frag} {mg : Str → Option Value} {base : Heap}
theorem ok__law_hall (T : Txt K mg) : OkF P w K mg base 7 (He.ga K "_law_hall") ["_law_parts"] (spLHall (He.ga K "Hall")) := by
  have G_init : OkF P w K mg base 5 (He.ma K (He.ga K "Hall") "__init__") ["self", "modulus", "takes", "calls", "lateness"] (spInit (He.ga K "Hall")) := ok_init T
  refine FnP.okF T.f__law_hall sc__law_hall (fun _ _ _ _ _ _ us hl => match us, hl with | [_], _ => rfl) (fun vs H Q E h => ?_) (fun cdv A outer s H vs Q E hr h => ?_)
  · obtain ⟨t, _, _, _, _, _, _, rfl, _⟩ := h
    rfl
  obtain ⟨t, tp, cp, m, lt, tk, cl, rfl, hP, k⟩ := h
  refine ⟨_, (pss_one (ps_ret (pe_make T.mk_Hall G_init.one (hr.mono (by decide)) (by rfl) T.g_Hall G_init.two .nil passL (pa_cons (pe_ix (ixTK (K := K)) (pv 0) pe_int (fun _ _ => rfl)) (pa_cons (pe_ix (ixTK (K := K)) (pv 0) pe_int (fun _ _ => rfl)) (pa_cons (pe_ix (ixTK (K := K)) (pv 0) pe_int (fun _ _ => rfl)) (pa_cons (pe_ix (ixTK (K := K)) (pv 0) pe_int (fun _ _ => rfl)) pa_nil))))))), ?_⟩
  have S := SqT.of (K := K) hP.at_
  refine ⟨_, rfl, t, _, 0, _, rfl, rfl, S, at3 (j := 0) rfl, _, rfl, t, _, 1, _, rfl, rfl, S, at3 (j := 1) rfl, _, rfl, t, _, 2, _, rfl, rfl, S, at3 (j := 2) rfl, _, rfl, t, _, 3, _, rfl, rfl, S, at3 (j := 3) rfl, fun x dx nx ndx nex => ?_⟩
  have S1 : Same H (upd (upd H dx (.own x)) x (.ins (He.ga K "Hall") dx [])) := fun b o e => by
    rw [upd_ne (ne_of_none e nx), upd_ne (ne_of_none e ndx)]
    exact e
  refine ⟨x, dx, tp, cp, m, lt, tk, cl, rfl, upd_same, S1 _ _ hP.tkA, S1 _ _ hP.clA, hP.ok, fun H' lp B n hA => ⟨rfl, ?_⟩⟩
  refine k x lp H' nx (S1.free n) (fun b o e => ?_) hA
  exact B b o (ne_of_none e nx) (S1 b o e)
theorem ok__law_length (T : Txt K mg) : OkF P w K mg base 1 (He.ga K "_law_length") ["_law_parts"] spLength := by
  refine FnP.okF T.f__law_length sc__law_length (fun _ _ _ _ _ _ us hl => match us, hl with | [_], _ => rfl) (fun vs H Q E h => ?_) (fun cdv A outer s H vs Q E hr h => ?_)
  · obtain ⟨t, _, _, _, _, _, _, rfl, _⟩ := h
    rfl
  obtain ⟨t, tp, cp, m, lt, tk, cl, rfl, hP, k⟩ := h
  have n0 := hP.ok.tkP.pos
  have c0 := hP.ok.clP.pos
  have p144 := per_144 hP.ok.tkP hP.ok.clP
  refine ⟨_, (pss_cons (ps_set (i := 1) sc__law_length.nd rfl (Or.inl rfl) (pe_callB (lenK (K := K)) (by rfl) T.g_len (by decide +kernel) (pa_cons (pe_ix (ixTK (K := K)) (pv 0) pe_int (fun _ _ => rfl)) pa_nil)))
    (pss_cons (ps_while own_cx (pt_cmpR op_gt (pe_op op_mod (pv 1) (pe_callB (lenK (K := K)) (by rfl) T.g_len (by decide +kernel) (pa_cons (pe_ix (ixTK (K := K)) (pv 0) pe_int (fun _ _ => rfl)) pa_nil))) pe_int (nomark _))
      (pss_one (ps_set (i := 1) sc__law_length.nd rfl (Or.inl rfl) (pe_op op_add (pv 1) (pe_callB (lenK (K := K)) (by rfl) T.g_len (by decide +kernel) (pa_cons (pe_ix (ixTK (K := K)) (pv 0) pe_int (fun _ _ => rfl)) pa_nil))))))
    (pss_one (ps_ret (pv 1))))), ?_⟩
  have S := SqT.of (K := K) hP.at_
  have St := SqT.of (K := K) hP.tkA
  have Sc := SqT.of (K := K) hP.clA
  refine ⟨_, rfl, t, _, 1, _, rfl, rfl, S, at3 (j := 1) rfl, tp, _, rfl, .inr St, ?_⟩
  refine ⟨fun mm σ H2 => ∃ q : Nat, 0 < q ∧ (∀ j, 0 < j → j < q → ¬ cl.length ∣ j * tk.length) ∧ σ = [some (.ref t), some (vn (q * tk.length))] ∧ H2 = H ∧ mm = 300 - q * tk.length, ⟨_, 1, by omega, fun j h1 h2 => by omega, ?_, rfl, rfl⟩, ?_⟩
  · rw [Nat.one_mul, List.length_map]
    rfl
  · rintro mm σ H2 ⟨q, q0, no, rfl, rfl, rfl⟩
    have le := below_lcm (c := cl.length) no n0 c0
    have le2 : q * tk.length ≤ 144 := Nat.le_trans le p144
    refine ⟨_, rfl, _, rfl, t, _, 2, _, rfl, rfl, S, at3 (j := 2) rfl, cp, _, rfl, .inr Sc, _, _, rfl, rfl, (by show (0 : Int) < ((cl.map vn).length : Int); rw [List.length_map]; omega), _, _, rfl, rfl, _, rfl, ?_⟩
    have em : ((q * tk.length : Nat) : Int) % ((cl.map vn).length : Int) = ((q * tk.length % cl.length : Nat) : Int) := by rw [List.length_map]; exact (Int.natCast_emod _ _).symm
    rw [em]
    refine ite2 (fun c => ?_) (fun c => ?_)
    · have c2 : (0 : Int) < ((q * tk.length % cl.length : Nat) : Int) := of_decide_eq_true c
      refine ⟨_, fun σ' H' z => z, ?_⟩
      refine ⟨_, rfl, _, rfl, t, _, 1, _, rfl, rfl, S, at3 (j := 1) rfl, tp, _, rfl, .inr St, _, _, rfl, rfl, ?_⟩
      refine ⟨300 - (q + 1) * tk.length, by rw [Nat.succ_mul]; omega, q + 1, by omega, fun j j0 jq => ?_, ?_, rfl, rfl⟩
      · rcases Nat.lt_or_ge j q with lt | ge
        · exact no j j0 lt
        · obtain rfl : j = q := by omega
          intro d
          have := Nat.mod_eq_zero_of_dvd d
          omega
      · rw [List.length_map, Nat.succ_mul]
        have e : V.int (((q * tk.length : Nat) : Int) + ((tk.length : Nat) : Int)) = vn (q * tk.length + tk.length) := vn_int (Int.natCast_add _ _).symm
        rw [← e]
        rfl
    · have c2 : ¬ (0 : Int) < ((q * tk.length % cl.length : Nat) : Int) := fun h => c (decide_eq_true h)
      have d : cl.length ∣ q * tk.length := Nat.dvd_of_mod_eq_zero (by omega)
      have e := least_lcm q0 d no n0 c0
      refine ⟨_, rfl, ?_⟩
      show Q (vn (q * tk.length)) _
      rw [e]
      exact k
theorem ok__law_counts (T : Txt K mg) : OkF P w K mg base 1 (He.ga K "_law_counts") ["_law_parts", "_law_ticks"] spCounts := by
  refine FnP.okF T.f__law_counts sc__law_counts (fun _ _ _ _ _ _ us hl => match us, hl with | [_, _], _ => rfl) (fun vs H Q E h => ?_) (fun cdv A outer s H vs Q E hr h => ?_)
  · obtain ⟨t, _, _, _, _, _, _, _, rfl, _⟩ := h
    rfl
  obtain ⟨t, tp, cp, m, lt, tk, cl, n, rfl, hP, hn, k⟩ := h
  have n0 := hP.ok.tkP.pos
  have c0 := hP.ok.clP.pos
  refine ⟨_, (pss_cons (ps_par (i := 2) (j := 3) (by rfl) sc__law_counts.nd rfl rfl (by decide) rfl rfl (pa_cons (pe_lst (pa_cons pe_int pa_nil)) (pa_cons (pe_lst (pa_cons pe_int pa_nil)) pa_nil)) (by rfl))
    (pss_cons (ps_for own_cx rfl (pi_range1 (by rfl) T.g_range (pa_cons (pv 1) pa_nil)) (pg_name (i := 4) sc__law_counts.nd rfl (Or.inl rfl))
      (pss_cons (ps_expr (pe_bm PySem.F.plainAttrs_list PySem.F.slot_list_append PySem.F.type_list_append mt_append (pv 2) (pa_cons (pe_op op_add (pe_ix (ixLK (K := K)) (pv 2) (pe_un un_neg pe_int) (fun _ _ => rfl)) (pe_ix (ixTK (K := K)) (pe_ix (ixTK (K := K)) (pv 0) pe_int (fun _ _ => rfl)) (pe_op op_mod (pv 4) (pe_callB (lenK (K := K)) (by rfl) T.g_len (by decide +kernel) (pa_cons (pe_ix (ixTK (K := K)) (pv 0) pe_int (fun _ _ => rfl)) pa_nil))) (fun _ _ => rfl))) pa_nil)))
    (pss_one (ps_expr (pe_bm PySem.F.plainAttrs_list PySem.F.slot_list_append PySem.F.type_list_append mt_append (pv 3) (pa_cons (pe_callB (show CallR _ (.builtin "min") Rd.rMin2 from call_min2 (by rfl)) (by rfl) T.g_min (by decide +kernel) (pa_cons (pe_ix (ixLK (K := K)) (pv 2) (pe_un un_neg pe_int) (fun _ _ => rfl)) (pa_cons (pe_op op_add (pe_ix (ixLK (K := K)) (pv 3) (pe_un un_neg pe_int) (fun _ _ => rfl)) (pe_ix (ixTK (K := K)) (pe_ix (ixTK (K := K)) (pv 0) pe_int (fun _ _ => rfl)) (pe_op op_mod (pv 4) (pe_callB (lenK (K := K)) (by rfl) T.g_len (by decide +kernel) (pa_cons (pe_ix (ixTK (K := K)) (pv 0) pe_int (fun _ _ => rfl)) pa_nil))) (fun _ _ => rfl))) pa_nil))) pa_nil))))))
    (pss_one (ps_ret (pe_tup (pa_cons (pv 2) (pa_cons (pv 3) pa_nil))))))), ?_⟩
  refine ⟨(by show 1 ≤ sizeLine; decide), fun a ha => ⟨(by show 1 ≤ sizeLine; decide), fun b hb => ⟨_, _, rfl, ?_⟩⟩⟩
  have nab : a ≠ b := fun e => by rw [← e, upd_same] at hb; cases hb
  have hb0 : H b = none := by rw [upd_ne nab.symm] at hb; exact hb
  have Sab : ∀ x y, Same H (upd (upd H a x) b y) := fun x y q o e => by
    rw [upd_ne (ne_of_none e hb0), upd_ne (ne_of_none e ha)]
    exact e
  refine ⟨_, rfl, (n : Int), rfl, by omega, by omega, for_range (lo := 0) (n := ((n : Int)).toNat) (fun i σ H2 => ∃ v, σ = [some (.ref t), some (vn n), some (.ref a), some (.ref b), v] ∧ H2 = upd (upd H a (.lst (fV (tak tk) i))) b (.lst (fV (cal tk cl) i)))
    ⟨_, rfl, rfl⟩ ?_ ?_⟩
  · rintro i σ H2 hi ⟨v, rfl, rfl⟩
    have hi2 : i < n := by simpa using hi
    have P2 : ∀ x y, PartsAt (upd (upd H a x) b y) t m tp tk cp cl lt := fun x y => hP.same (Sab x y)
    generalize hX : HO.lst (fV (tak tk) i) = X
    have hA : ∀ y, upd (upd H a X) b y a = some X := fun y => by rw [upd_ne nab]; exact upd_same
    have La : ∀ y, SqL K (upd (upd H a X) b y) a (fV (tak tk) i) := fun y => SqL.of (by rw [hA, hX])
    have St := fun x y => SqT.of (K := K) (P2 x y).at_
    have last1 : atI (fV (tak tk) i) (-(1 : Int)) = some (vn (tak tk i)) := at_last fV_len (fV_at (Nat.le_refl i))
    -- taken.append(taken[-1] + takes[tick % n])
    refine ⟨_, rfl, .inl ⟨rfl, _, La _⟩, _, rfl, 1, rfl, a, _, _, _, rfl, rfl, La _, last1, _, rfl, t, _, 1, _, rfl, rfl, St _ _, at3 (j := 1) rfl, _, rfl, _, rfl, t, _, 1, _, rfl, rfl, St _ _, at3 (j := 1) rfl, tp, _, rfl, .inr (SqT.of (P2 _ _).tkA), _, _, rfl, rfl,
      (by show (0 : Int) < ((tk.map vn).length : Int); rw [List.length_map]; omega), tp, _, _, _, rfl, rfl, SqT.of (P2 _ _).tkA, pat_at n0 (Int.zero_add _), _, _, rfl, rfl, ?_⟩
    refine ⟨a, _, _, rfl, rfl, by rw [hA, hX], small10k (by rw [fV_len]; omega), ?_⟩
    have e1 : fV (tak tk) i ++ [V.int ((tak tk i : Int) + (atp tk i : Int))] = fV (tak tk) (i + 1) := by
      rw [fV_succ]
      rfl
    rw [e1]
    have sw : upd (upd (upd H a X) b (.lst (fV (cal tk cl) i))) a (.lst (fV (tak tk) (i + 1))) = upd (upd H a (.lst (fV (tak tk) (i + 1)))) b (.lst (fV (cal tk cl) i)) := by
      funext q
      unfold upd
      by_cases h1 : q = a
      · rw [if_pos h1, if_neg (by rw [h1]; exact nab), if_pos h1]
      · rw [if_neg h1, if_neg h1]
        by_cases h2 : q = b
        · rw [if_pos h2, if_pos h2]
        · rw [if_neg h2, if_neg h2, if_neg h1]
    rw [sw]
    have La2 : SqL K (upd (upd H a (.lst (fV (tak tk) (i + 1)))) b (.lst (fV (cal tk cl) i))) a (fV (tak tk) (i + 1)) := SqL.of (by rw [upd_ne nab]; exact upd_same)
    have Lb2 : SqL K (upd (upd H a (.lst (fV (tak tk) (i + 1)))) b (.lst (fV (cal tk cl) i))) b (fV (cal tk cl) i) := SqL.of upd_same
    have last2 : atI (fV (tak tk) (i + 1)) (-(1 : Int)) = some (vn (tak tk (i + 1))) := at_last fV_len (fV_at (Nat.le_refl (i + 1)))
    have last3 : atI (fV (cal tk cl) i) (-(1 : Int)) = some (vn (cal tk cl i)) := at_last fV_len (fV_at (Nat.le_refl i))
    -- called.append(min(taken[-1], called[-1] + calls[tick % n]))
    refine ⟨_, rfl, .inl ⟨rfl, _, Lb2⟩, _, rfl, 1, rfl, a, _, _, _, rfl, rfl, La2, last2, _, rfl, 1, rfl, b, _, _, _, rfl, rfl, Lb2, last3, _, rfl, t, _, 2, _, rfl, rfl, St _ _, at3 (j := 2) rfl, _, rfl, _, rfl, t, _, 2, _, rfl, rfl, St _ _, at3 (j := 2) rfl, cp, _, rfl, .inr (SqT.of (P2 _ _).clA), _, _, rfl, rfl,
      (by show (0 : Int) < ((cl.map vn).length : Int); rw [List.length_map]; omega), cp, _, _, _, rfl, rfl, SqT.of (P2 _ _).clA, pat_at c0 (Int.zero_add _), _, _, rfl, rfl, _, _, rfl, ?_⟩
    refine ⟨b, _, _, rfl, rfl, upd_same, small10k (by rw [fV_len]; omega), _, rfl, ?_⟩
    rw [upd_upd, fV_succ (f := cal tk cl)]
    have e2 : V.int (if ((cal tk cl i : Int) + (atp cl i : Int)) < (tak tk (i + 1) : Int) then ((cal tk cl i : Int) + (atp cl i : Int)) else (tak tk (i + 1) : Int)) = vn (cal tk cl (i + 1)) := by
      refine vn_int ?_
      have : cal tk cl (i + 1) = min (tak tk (i + 1)) (cal tk cl i + atp cl i) := rfl
      rw [this]
      split <;> omega
    rw [← e2]
  · rintro σ H2 ⟨v, rfl, rfl⟩
    have en : ((n : Int)).toNat = n := by simp
    rw [en]
    refine ⟨_, rfl, _, rfl, (by show 2 ≤ sizeLine; decide), fun r hr' => ?_⟩
    have nra : r ≠ a := fun e => by rw [e, upd_ne nab, upd_same] at hr'; cases hr'
    have nrb : r ≠ b := fun e => by rw [e, upd_same] at hr'; cases hr'
    have hr0 : H r = none := by rw [upd_ne nrb, upd_ne nra] at hr'; exact hr'
    refine k r a b _ hr0 ha hb0 nab ((Sab _ _).trans (Same.new hr')) upd_same (by rw [upd_ne nra.symm, upd_ne nab]; exact upd_same) (by rw [upd_ne nrb.symm]; exact upd_same)
end
end Tk

/-! ### Equal data -/
namespace Tk
open PySem PySem.Spec PyProof.Rows L2
def flat : V → Bool
  | .non => true
  | .bl _ => true
  | .int _ => true
  | .str _ => true
  | _ => false
/-- one level of data -/
def Nx (K : PySem.W.Frag) (R : Hp → V → V → Prop) (H : Hp) (v u : V) : Prop :=
  (v = u ∧ flat v = true) ∨ (∃ a b xs ys, v = .ref a ∧ u = .ref b ∧ SqL K H a xs ∧ SqL K H b ys ∧ xs.length = ys.length ∧ xs.length ≤ 100000 ∧ ∀ (i : Nat) x y, xs[i]? = some x → ys[i]? = some y → R H x y) ∨
  (∃ a b xs ys, v = .ref a ∧ u = .ref b ∧ SqT K H a xs ∧ SqT K H b ys ∧ xs.length = ys.length ∧ xs.length ≤ 100000 ∧ ∀ (i : Nat) x y, xs[i]? = some x → ys[i]? = some y → R H x y)
/-- the same data, at most n deep -/
def Sm (K : PySem.W.Frag) : Nat → Hp → V → V → Prop
  | 0 => fun _ _ _ => False
  | n + 1 => Nx K (Sm K n)
def spEqOf (R : Hp → V → V → Prop) : Sp := fun vs H Q _ => ∃ v u, vs = [v, u] ∧ R H v u ∧ ∀ H', Same H H' → Q (.bl true) H'
theorem sqt_same {K : PySem.W.Frag} {H H' : Hp} {a : Addr} {xs : List V} (e : Same H H') (h : SqT K H a xs) : SqT K H' a xs := by
  rcases h with (h | ⟨o, h⟩) | h
  · exact .inl (.inl (e _ _ h))
  · exact .inl (.inr ⟨o, e _ _ h⟩)
  · exact .inr h
theorem Sm.same {K : PySem.W.Frag} {H H' : Hp} (e : Same H H') : ∀ {n : Nat} {v u : V}, Sm K n H v u → Sm K n H' v u
  | 0, _, _, h => h
  | n + 1, _, _, h => by
    rcases h with h | ⟨a, b, xs, ys, h1, h2, h3, h4, h5, h6, h7⟩ | ⟨a, b, xs, ys, h1, h2, h3, h4, h5, h6, h7⟩
    · exact .inl h
    · exact .inr (.inl ⟨a, b, xs, ys, h1, h2, e.seq h3, e.seq h4, h5, h6, fun i x y p q => Sm.same e (h7 i x y p q)⟩)
    · exact .inr (.inr ⟨a, b, xs, ys, h1, h2, sqt_same e h3, sqt_same e h4, h5, h6, fun i x y p q => Sm.same e (h7 i x y p q)⟩)
theorem tyx_l {K : PySem.W.Frag} {H : Hp} {a : Addr} {xs : List V} (h : SqL K H a xs) : TyX K H (.ref a) (.type "list") := by
  rcases h with (h | ⟨o, h⟩) | ⟨o, its, n, h1, h2, _⟩
  · exact .base (.lst h)
  · exact .base (.frz h)
  · exact .kList h1 h2
theorem tyx_t {K : PySem.W.Frag} {H : Hp} {a : Addr} {xs : List V} (h : SqT K H a xs) : TyX K H (.ref a) (.type "tuple") := by
  rcases h with (h | ⟨o, h⟩) | ⟨o, its, n, h1, h2, _⟩
  · exact .base (.tup h)
  · exact .fTuple h
  · exact .kTuple h1 h2
theorem rix {K : PySem.W.Frag} {H : Hp} {a : Addr} {xs : List V} {i : Int} {v : V} {Q : VK} (s : SqL K H a xs ∨ SqT K H a xs) (g : atI xs i = some v) (q : Q v H) : rIx K (.ref a) (.int i) H Q := by
  rcases s with s | s
  · exact .inl ⟨a, xs, i, v, rfl, rfl, s, g, q⟩
  · exact .inr (.inl ⟨a, xs, i, v, rfl, rfl, s, g, q⟩)
section
variable {P : Program} {w : World} {K : PySem.W.Frag} {mg : Str → Option Value} {base : Heap}
theorem eq_never (T : Txt K mg) : OkF P w K mg base 1 (He.ga K "_law_equal") ["_law_actual", "_law_expected"] (spEqOf fun _ _ _ => False) :=
  FnP.okF T.f__law_equal sc__law_equal (fun _ _ _ _ _ _ us hl => match us, hl with | [_, _], _ => rfl) (fun vs H Q E h => by obtain ⟨v, u, rfl, _⟩ := h; rfl) (fun cdv A outer s H vs Q E hr h => by obtain ⟨v, u, _, f, _⟩ := h; exact f.elim)
theorem eq_step {k : Nat} {R : Hp → V → V → Prop} (hR : ∀ H H' v u, Same H H' → R H v u → R H' v u) (T : Txt K mg) (G__law_equal : OkF P w K mg base k (He.ga K "_law_equal") ["_law_actual", "_law_expected"] (spEqOf R)) :
    OkF P w K mg base (k + 1) (He.ga K "_law_equal") ["_law_actual", "_law_expected"] (spEqOf (Nx K R)) := by
  refine FnP.okF T.f__law_equal sc__law_equal (fun _ _ _ _ _ _ us hl => match us, hl with | [_, _], _ => rfl) (fun vs H Q E h => ?_) (fun cdv A outer s H vs Q E hr h => ?_)
  · obtain ⟨v, u, rfl, _⟩ := h
    rfl
  obtain ⟨v, u, rfl, hS, q⟩ := h
  refine ⟨_, (pss_cons (ps_if (pt_cmpR (show OpR _ (compareOp .Is) Rd.rIsN from op_isN) (pv 1) pe_non (nomark _)) (pss_one (ps_ret (pe_cmpR (show OpR _ (compareOp .Is) Rd.rIsN from op_isN) (pv 0) pe_non (nomark _)))) pss_nil)
    (pss_cons (ps_if (pt_val (pe_callB (isiK (K := K)) (by rfl) T.g_isinstance (by decide +kernel) (pa_cons (pv 1) (pa_cons (pe_bltn (v := .ty "bool") (by rfl) T.g_bool boot_ty_bool rfl) pa_nil)))) (pss_one (ps_ret (pe_and (pe_callB (isiK (K := K)) (by rfl) T.g_isinstance (by decide +kernel) (pa_cons (pv 0) (pa_cons (pe_bltn (v := .ty "bool") (by rfl) T.g_bool boot_ty_bool rfl) pa_nil))) (pe_one (pe_cmpR op_eq (pv 0) (pv 1) (nomark _)))))) pss_nil)
    (pss_cons (ps_if (pt_val (pe_callB (isiK (K := K)) (by rfl) T.g_isinstance (by decide +kernel) (pa_cons (pv 1) (pa_cons (pe_bltn (v := .ty "int") (by rfl) T.g_int boot_ty_int rfl) pa_nil)))) (pss_one (ps_ret (pe_and (pe_callB (isiK (K := K)) (by rfl) T.g_isinstance (by decide +kernel) (pa_cons (pv 0) (pa_cons (pe_bltn (v := .ty "int") (by rfl) T.g_int boot_ty_int rfl) pa_nil))) (pe_and (pe_not (pe_callB (isiK (K := K)) (by rfl) T.g_isinstance (by decide +kernel) (pa_cons (pv 0) (pa_cons (pe_bltn (v := .ty "bool") (by rfl) T.g_bool boot_ty_bool rfl) pa_nil)))) (pe_one (pe_cmpR op_eq (pv 0) (pv 1) (nomark _))))))) pss_nil)
    (pss_cons (ps_if (pt_val (pe_callB (isiK (K := K)) (by rfl) T.g_isinstance (by decide +kernel) (pa_cons (pv 1) (pa_cons (pe_bltn (v := .ty "str") (by rfl) T.g_str boot_ty_str rfl) pa_nil)))) (pss_one (ps_ret (pe_and (pe_callB (isiK (K := K)) (by rfl) T.g_isinstance (by decide +kernel) (pa_cons (pv 0) (pa_cons (pe_bltn (v := .ty "str") (by rfl) T.g_str boot_ty_str rfl) pa_nil))) (pe_one (pe_cmpR op_eq (pv 0) (pv 1) (nomark _)))))) pss_nil)
    (pss_cons (ps_if (pt_cmpR op_ne (pe_callB (isiK (K := K)) (by rfl) T.g_isinstance (by decide +kernel) (pa_cons (pv 1) (pa_cons (pe_bltn (v := .ty "tuple") (by rfl) T.g_tuple boot_ty_tuple rfl) pa_nil))) (pe_callB (isiK (K := K)) (by rfl) T.g_isinstance (by decide +kernel) (pa_cons (pv 0) (pa_cons (pe_bltn (v := .ty "tuple") (by rfl) T.g_tuple boot_ty_tuple rfl) pa_nil))) (nomark _)) (pss_one (ps_ret pe_bl)) pss_nil)
    (pss_cons (ps_if (pt_cmpR op_ne (pe_callB (isiK (K := K)) (by rfl) T.g_isinstance (by decide +kernel) (pa_cons (pv 1) (pa_cons (pe_bltn (v := .ty "list") (by rfl) T.g_list boot_ty_list rfl) pa_nil))) (pe_callB (isiK (K := K)) (by rfl) T.g_isinstance (by decide +kernel) (pa_cons (pv 0) (pa_cons (pe_bltn (v := .ty "list") (by rfl) T.g_list boot_ty_list rfl) pa_nil))) (nomark _)) (pss_one (ps_ret pe_bl)) pss_nil)
    (pss_cons (ps_if (pt_cmpR op_ne (pe_callB (lenK (K := K)) (by rfl) T.g_len (by decide +kernel) (pa_cons (pv 0) pa_nil)) (pe_callB (lenK (K := K)) (by rfl) T.g_len (by decide +kernel) (pa_cons (pv 1) pa_nil)) (nomark _)) (pss_one (ps_ret pe_bl)) pss_nil)
    (pss_one (ps_ret (pe_callB (allLK (K := K)) (by rfl) T.g_all (by decide +kernel) (pa_cons (pe_lc (own := [("_law_k", 2)]) (g := gName 2) (tt := tYes) (by rfl) sc__law_equal.nd (pi_range1 (by rfl) T.g_range (pa_cons (pe_callB (lenK (K := K)) (by rfl) T.g_len (by decide +kernel) (pa_cons (pv 1) pa_nil)) pa_nil)) (blkOk_by (own := [("_law_k", 2)]) (N := N__law_equal) (sc := (defScope s__law_equal)) (by decide +kernel)) (fun _ _ _ _ _ => pg_name (i := 2) sc__law_equal.nd rfl (Or.inl rfl)) (fun _ _ _ _ _ => pts_nil) (fun _ _ _ _ _ => (pe_call G__law_equal.one hr (by rfl) T.g__law_equal G__law_equal.kp G__law_equal.two .nil passL (pa_cons (pe_ix (ixSK (K := K)) (pv 0) (pv 2) (fun _ _ => rfl)) (pa_cons (pe_ix (ixSK (K := K)) (pv 1) (pv 2) (fun _ _ => rfl)) pa_nil))))) pa_nil))))))))))), ?_⟩
  have q0 := q H (Same.refl H)
  -- isinstance(x, n)
  rcases hS with ⟨rfl, hf⟩ | hS
  · cases v with
    | non => exact ⟨_, rfl, rfl, _, rfl, _, rfl, rfl, q0⟩
    | bl x =>
      refine ⟨_, rfl, rfl, _, rfl, ?_⟩
      refine ⟨_, rfl, .bl x, .ty "bool", _, _, true, rfl, .ty "bool", .base (.bl x), kit_at (by decide +kernel), true, rfl, ?_⟩
      refine ⟨_, rfl, .bl x, .ty "bool", _, _, true, rfl, .ty "bool", .base (.bl x), kit_at (by decide +kernel), true, rfl, ?_⟩
      refine ⟨_, rfl, _, rfl, rfl, ?_⟩
      show Q (V.bl (decide (V.bl x = V.bl x))) H
      rw [decide_eq_true rfl]
      exact q0
    | int x =>
      refine ⟨_, rfl, rfl, _, rfl, ?_⟩
      refine ⟨_, rfl, .int x, .ty "bool", _, _, false, rfl, .ty "bool", .base (.int x), kit_at (by decide +kernel), false, rfl, ?_⟩
      refine ⟨_, rfl, .int x, .ty "int", _, _, true, rfl, .ty "int", .base (.int x), kit_at (by decide +kernel), true, rfl, ?_⟩
      refine ⟨_, rfl, .int x, .ty "int", _, _, true, rfl, .ty "int", .base (.int x), kit_at (by decide +kernel), true, rfl, ?_⟩
      refine ⟨_, rfl, .int x, .ty "bool", _, _, false, rfl, .ty "bool", .base (.int x), kit_at (by decide +kernel), false, rfl, true, rfl, ?_⟩
      refine ⟨_, rfl, _, rfl, rfl, ?_⟩
      show Q (V.bl (decide (V.int x = V.int x))) H
      rw [decide_eq_true rfl]
      exact q0
    | str x =>
      refine ⟨_, rfl, rfl, _, rfl, ?_⟩
      refine ⟨_, rfl, .str x, .ty "bool", _, _, false, rfl, .ty "bool", .base (.str x), kit_at (by decide +kernel), false, rfl, ?_⟩
      refine ⟨_, rfl, .str x, .ty "int", _, _, false, rfl, .ty "int", .base (.str x), kit_at (by decide +kernel), false, rfl, ?_⟩
      refine ⟨_, rfl, .str x, .ty "str", _, _, true, rfl, .ty "str", .base (.str x), kit_at (by decide +kernel), true, rfl, ?_⟩
      refine ⟨_, rfl, .str x, .ty "str", _, _, true, rfl, .ty "str", .base (.str x), kit_at (by decide +kernel), true, rfl, ?_⟩
      refine ⟨_, rfl, _, rfl, rfl, ?_⟩
      show Q (V.bl (decide (V.str x = V.str x))) H
      rw [decide_eq_true rfl]
      exact q0
    | _ => cases hf
  · -- two lists, two tuples: what both want
    obtain ⟨kind, a, b, xs, ys, tya, tyb, rfl, rfl, st, hl, hz, hi, ka, kb, kc, tt1, tl1⟩ : ∃ (kind : String) (a b : Addr) (xs ys : List V), TyX K H (.ref a) (.type kind) ∧ TyX K H (.ref b) (.type kind) ∧ v = .ref a ∧ u = .ref b ∧
        (∀ H', Same H H' → (SqL K H' a xs ∨ SqT K H' a xs) ∧ (SqL K H' b ys ∨ SqT K H' b ys)) ∧ xs.length = ys.length ∧ xs.length ≤ 100000 ∧ (∀ (i : Nat) x y, xs[i]? = some x → ys[i]? = some y → R H x y) ∧
        kitB kind "bool" = some false ∧ kitB kind "int" = some false ∧ kitB kind "str" = some false ∧ (∃ b, kitB kind "tuple" = some b) ∧ (∃ b, kitB kind "list" = some b) := by
      rcases hS with ⟨a, b, xs, ys, h1, h2, h3, h4, h5, h6, h7⟩ | ⟨a, b, xs, ys, h1, h2, h3, h4, h5, h6, h7⟩
      · exact ⟨"list", a, b, xs, ys, tyx_l h3, tyx_l h4, h1, h2, fun H' e => ⟨.inl (e.seq h3), .inl (e.seq h4)⟩, h5, h6, h7, by decide +kernel, by decide +kernel, by decide +kernel, ⟨false, by decide +kernel⟩, ⟨true, by decide +kernel⟩⟩
      · exact ⟨"tuple", a, b, xs, ys, tyx_t h3, tyx_t h4, h1, h2, fun H' e => ⟨.inr (sqt_same e h3), .inr (sqt_same e h4)⟩, h5, h6, h7, by decide +kernel, by decide +kernel, by decide +kernel, ⟨true, by decide +kernel⟩, ⟨false, by decide +kernel⟩⟩
    obtain ⟨tt, htt⟩ := tt1
    obtain ⟨tl, htl⟩ := tl1
    refine ⟨_, rfl, rfl, _, rfl, ?_⟩
    refine ⟨_, rfl, .ref b, .ty "bool", _, _, false, rfl, .ty "bool", tyb, kit_at ka, false, rfl, ?_⟩
    refine ⟨_, rfl, .ref b, .ty "int", _, _, false, rfl, .ty "int", tyb, kit_at kb, false, rfl, ?_⟩
    refine ⟨_, rfl, .ref b, .ty "str", _, _, false, rfl, .ty "str", tyb, kit_at kc, false, rfl, ?_⟩
    refine ⟨_, rfl, .ref b, .ty "tuple", _, _, tt, rfl, .ty "tuple", tyb, kit_at htt, _, rfl, .ref a, .ty "tuple", _, _, tt, rfl, .ty "tuple", tya, kit_at htt, (by cases tt <;> rfl), _, rfl, ?_⟩
    refine iteNS rfl ?_
    refine ⟨_, rfl, .ref b, .ty "list", _, _, tl, rfl, .ty "list", tyb, kit_at htl, _, rfl, .ref a, .ty "list", _, _, tl, rfl, .ty "list", tya, kit_at htl, (by cases tl <;> rfl), _, rfl, ?_⟩
    refine iteNS rfl ?_
    have s0 := st H (Same.refl H)
    refine ⟨_, rfl, a, xs, rfl, s0.1, _, rfl, b, ys, rfl, s0.2, rfl, _, rfl, ?_⟩
    refine iteNS (by rw [hl]) ?_
    -- all([..])
    refine ⟨_, rfl, b, ys, rfl, s0.2, _, rfl, by omega, by omega, fun D hD => ?_⟩
    refine lc_range (lo := 0) (n := ((ys.length : Int)).toNat) (fun i H2 => Same H H2 ∧ H2 D = some (.lst ((List.replicate i true).map V.bl))) ⟨Same.new hD, upd_same⟩ ?_ ?_
    · rintro i H2 hi2 ⟨S2, hD2⟩
      have iy : i < ys.length := by simpa using hi2
      have ix : i < xs.length := by omega
      have s2 := st H2 S2
      have gx : atI xs ((0 : Int) + (i : Int)) = some xs[i] := by rw [Int.zero_add]; exact atn (List.getElem?_eq_getElem ix)
      have gy : atI ys ((0 : Int) + (i : Int)) = some ys[i] := by rw [Int.zero_add]; exact atn (List.getElem?_eq_getElem iy)
      refine ⟨rfl, ?_⟩
      refine ⟨_, rfl, _, rfl, rix s2.1 gx ?_⟩
      refine ⟨_, rfl, _, rfl, rix s2.2 gy ?_⟩
      refine ⟨_, _, rfl, hR _ _ _ _ S2 (hi i _ _ (List.getElem?_eq_getElem ix) (List.getElem?_eq_getElem iy)), fun H3 S3 => ?_⟩
      refine ⟨(List.replicate i true).map V.bl, S3 _ _ hD2, Nat.lt_of_le_of_lt (m := 100000) (by simp; omega) (by decide), ?_, ?_⟩
      · intro b' o e
        rw [upd_ne (ne_of_none e hD)]
        exact S3 _ _ (S2 _ _ e)
      · rw [upd_same, List.replicate_succ', List.map_append]
        rfl
    · rintro H2 ⟨S2, hD2⟩
      refine ⟨D, _, rfl, SqL.of hD2, ?_⟩
      have e : (List.replicate ((ys.length : Int)).toNat true).all id = true := by simp
      rw [e]
      exact q H2 S2
theorem ok__law_equal (T : Txt K mg) : ∀ n : Nat, OkF P w K mg base (n + 1) (He.ga K "_law_equal") ["_law_actual", "_law_expected"] (spEqOf (Sm K n))
  | 0 => eq_never T
  | n + 1 => eq_step (fun H H' v u e h => Sm.same e h) T (ok__law_equal T n)
end
theorem Sm.flats {K : PySem.W.Frag} {n : Nat} {H : Hp} {a b : Addr} {xs : List V} (h1 : SqL K H a xs) (h2 : SqL K H b xs) (hl : xs.length ≤ 100000) (hf : ∀ x ∈ xs, flat x = true) : Sm K (n + 2) H (.ref a) (.ref b) :=
  .inr (.inl ⟨a, b, xs, xs, rfl, rfl, h1, h2, rfl, hl, fun i x y hx hy => .inl ⟨Option.some.inj (hx.symm.trans hy), hf x (List.mem_of_getElem? hx)⟩⟩)
theorem Sm.int {K : PySem.W.Frag} {n : Nat} {H : Hp} {i j : Int} (h : i = j) : Sm K (n + 1) H (.int i) (.int j) := .inl ⟨by rw [h], rfl⟩
end Tk

namespace Tk
open PySem PySem.Spec PyProof.Rows L2 Mm
/-- what a turn of a law holds: the hall, the counts up to n, away from d -/
structure EnvN (C : Addr) (H : Hp) (d hh a1 b1 : Addr) (m : Nat) (tk cl : List Nat) (lt : Nat) (lp : Addr) (n : Nat) : Prop where
  hall : HallAt C H hh m tk cl lt lp
  one : H a1 = some (.lst (fV (tak tk) n))
  two : H b1 = some (.lst (fV (cal tk cl) n))
  nl : lp ≠ d
  n1 : a1 ≠ d
  n2 : b1 ≠ d
theorem EnvN.but {C : Addr} {H H' : Hp} {d hh a1 b1 lp : Addr} {m lt n : Nat} {tk cl : List Nat} {cs : List V} (e : EnvN C H d hh a1 b1 m tk cl lt lp n) (b : But d H H') (hd : H d = some (.lst cs)) : EnvN C H' d hh a1 b1 m tk cl lt lp n :=
  ⟨e.hall.but b hd e.nl, b _ _ e.n1 e.one, b _ _ e.n2 e.two, e.nl, e.n1, e.n2⟩
theorem EnvN.same {C : Addr} {H H' : Hp} {d hh a1 b1 lp : Addr} {m lt n : Nat} {tk cl : List Nat} (e : EnvN C H d hh a1 b1 m tk cl lt lp n) (b : Same H H') : EnvN C H' d hh a1 b1 m tk cl lt lp n :=
  ⟨e.hall.same b, b _ _ e.one, b _ _ e.two, e.nl, e.n1, e.n2⟩
theorem hfs_meth {m : Nat} {tp cp : Addr} {lt : Nat} {lp : Addr} {x : Str} (h : (["_called", "lateness", "calls", "takes", "modulus"] : List Str).contains x = false) : (hfs m tp cp lt lp).lookup x = none := by
  simp only [List.contains_cons, Bool.or_eq_false_iff, beq_eq_false_iff_ne] at h
  obtain ⟨h1, h2, h3, h4, h5, _⟩ := h
  exact hfs_no h1 h2 h3 h4 h5
theorem Sm.flatsT {K : PySem.W.Frag} {n : Nat} {H : Hp} {a b : Addr} {xs : List V} (h1 : SqT K H a xs) (h2 : SqT K H b xs) (hl : xs.length ≤ 100000) (hf : ∀ x ∈ xs, flat x = true) : Sm K (n + 2) H (.ref a) (.ref b) :=
  .inr (.inr ⟨a, b, xs, xs, rfl, rfl, h1, h2, rfl, hl, fun i x y hx hy => .inl ⟨Option.some.inj (hx.symm.trans hy), hf x (List.mem_of_getElem? hx)⟩⟩)
theorem Sm.flat1 {K : PySem.W.Frag} {n : Nat} {H : Hp} {v : V} (h : flat v = true) : Sm K (n + 1) H v v := .inl ⟨rfl, h⟩
theorem flat_vn {ps : List Nat} : ∀ x ∈ ps.map vn, flat x = true := fun x hx => by
  obtain ⟨n, _, rfl⟩ := List.mem_map.mp hx
  rfl
end Tk

/-! ### Readings of halls -/
namespace Tk
open PySem PySem.Spec PyProof.Rows L2 Mm
theorem HallAt.sm {C h lp : Addr} {H H' : Hp} {m lt : Nat} {tk cl : List Nat} (b : Same H H') (p : HallAt C H h m tk cl lt lp) : HallAt C H' h m tk cl lt lp := p.same b
theorem PartsAt.sm {t tp cp : Addr} {H H' : Hp} {m lt : Nat} {tk cl : List Nat} (b : Same H H') (p : PartsAt H t m tp tk cp cl lt) : PartsAt H' t m tp tk cp cl lt := p.same b
theorem PartsAt.sq {K : PySem.W.Frag} {t tp cp : Addr} {H : Hp} {m lt : Nat} {tk cl : List Nat} (p : PartsAt H t m tp tk cp cl lt) : SqT K H t [vn m, .ref tp, .ref cp, vn lt] := SqT.of p.at_
theorem Sm.sm {K : PySem.W.Frag} {H H' : Hp} {n : Nat} {v u : V} (e : Same H H') (h : Sm K n H v u) : Sm K n H' v u := Sm.same e h
inductive SmL (R : V → V → Prop) : List V → List V → Prop where
  | nil : SmL R [] []
  | cons {x y : V} {xs ys : List V} (h : R x y) (t : SmL R xs ys) : SmL R (x :: xs) (y :: ys)
theorem SmL.len {R : V → V → Prop} : ∀ {xs ys : List V}, SmL R xs ys → xs.length = ys.length
  | _, _, .nil => rfl
  | _, _, .cons _ t => by rw [List.length_cons, List.length_cons, t.len]
theorem SmL.at {R : V → V → Prop} : ∀ {xs ys : List V}, SmL R xs ys → ∀ (i : Nat) x y, xs[i]? = some x → ys[i]? = some y → R x y
  | _, _, .nil, i, x, y, h, _ => by cases h
  | _, _, .cons h t, 0, x, y, h1, h2 => by
    obtain rfl := Option.some.inj h1
    obtain rfl := Option.some.inj h2
    exact h
  | _, _, .cons h t, i + 1, x, y, h1, h2 => t.at i x y h1 h2
theorem Sm.lst {K : PySem.W.Frag} {n : Nat} {H : Hp} {a b : Addr} {xs ys : List V} (h1 : SqL K H a xs) (h2 : SqL K H b ys) (hz : xs.length ≤ 100000) (h : SmL (Sm K n H) xs ys) : Sm K (n + 1) H (.ref a) (.ref b) := .inr (.inl ⟨a, b, xs, ys, rfl, rfl, h1, h2, h.len, hz, h.at⟩)
theorem Sm.tpl {K : PySem.W.Frag} {n : Nat} {H : Hp} {a b : Addr} {xs ys : List V} (h1 : SqT K H a xs) (h2 : SqT K H b ys) (hz : xs.length ≤ 100000) (h : SmL (Sm K n H) xs ys) : Sm K (n + 1) H (.ref a) (.ref b) := .inr (.inr ⟨a, b, xs, ys, rfl, rfl, h1, h2, h.len, hz, h.at⟩)
theorem Sm.rfl1 {K : PySem.W.Frag} {n : Nat} {H : Hp} {v : V} (h : flat v = true := by rfl) : Sm K (n + 1) H v v := .inl ⟨rfl, h⟩
namespace Rd
variable {K : PySem.W.Frag} {mg : Str → Option Value} {σ : L2.St} {H : Hp} {Q : VK} {E : XK} {t : TA} {C h lp : Addr} {m lt : Nat} {tk cl : List Nat}
theorem rgK_ab {a b : Int} {lo n : Nat} (ea : a = (lo : Int)) (eb : b = ((lo + n : Nat) : Int)) (h1 : lo ≤ 4000000000000000000) (hn : n ≤ 100000) (k : ∀ q H', H q = none → Same H H' → H' q = some (.lst ((List.range n).map fun i => vn (lo + i))) → Q (.ref q) H') : rgK Q a b H := by
  subst ea eb
  have e : rgV (lo : Int) ((lo + n : Nat) : Int) = (List.range n).map fun i => vn (lo + i) := by
    unfold rgV
    rw [show (((lo + n : Nat) : Int) - (lo : Int)).toNat = n by omega]
    rfl
  refine ⟨⟨by omega, by omega, by omega, by omega, by omega⟩, fun q hq => ?_⟩
  · rw [e]
    exact k q _ hq (Same.nw hq (Same.refl H)) upd_same
theorem rgK_n {b : Int} {n : Nat} (eb : b = (n : Int)) (hn : n ≤ 100000) (k : ∀ q H', H q = none → Same H H' → H' q = some (.lst ((List.range n).map vn)) → Q (.ref q) H') : rgK Q 0 b H :=
  rgK_ab (lo := 0) rfl (by rw [Nat.zero_add]; exact eb) (by decide) hn fun q H' nq S hq => k q H' nq S (by rw [hq]; simp)
theorem f_modulus (T : Txt K mg) (hA : HallAt (He.ga K "Hall") H h m tk cl lt lp) (k : Q (vn m) H) : fldK K "modulus" Q (.ref h) H := by
  obtain ⟨dx, tp, cp, hh, htp, hcp⟩ := hA.ex
  exact ⟨h, _, dx, _, _, rfl, hh, T.cl_Hall, T.n_modulus, hfs_modulus, k⟩
theorem f_lateness (T : Txt K mg) (hA : HallAt (He.ga K "Hall") H h m tk cl lt lp) (k : Q (vn lt) H) : fldK K "lateness" Q (.ref h) H := by
  obtain ⟨dx, tp, cp, hh, htp, hcp⟩ := hA.ex
  exact ⟨h, _, dx, _, _, rfl, hh, T.cl_Hall, T.n_lateness, hfs_lateness, k⟩
theorem f_takes (T : Txt K mg) (hA : HallAt (He.ga K "Hall") H h m tk cl lt lp) (k : ∀ tp, H tp = some (.tup (tk.map vn)) → Q (.ref tp) H) : fldK K "takes" Q (.ref h) H := by
  obtain ⟨dx, tp, cp, hh, htp, hcp⟩ := hA.ex
  exact ⟨h, _, dx, _, _, rfl, hh, T.cl_Hall, T.n_takes, hfs_takes, k tp htp⟩
theorem f_calls (T : Txt K mg) (hA : HallAt (He.ga K "Hall") H h m tk cl lt lp) (k : ∀ cp, H cp = some (.tup (cl.map vn)) → Q (.ref cp) H) : fldK K "calls" Q (.ref h) H := by
  obtain ⟨dx, tp, cp, hh, htp, hcp⟩ := hA.ex
  exact ⟨h, _, dx, _, _, rfl, hh, T.cl_Hall, T.n_calls, hfs_calls, k cp hcp⟩
theorem h_meth {x : Str} {sp : Sp} (hA : HallAt C H h m tk cl lt lp) (hx : (["_called", "lateness", "calls", "takes", "modulus"] : List Str).contains x = false) (k : t σ H fun vs H2 => sp (.ref h :: vs) H2 Q E) : methK x sp C [] E t σ Q (.ref h) H := by
  obtain ⟨dx, tp, cp, hh, htp, hcp⟩ := hA.ex
  refine ⟨h, dx, _, rfl, hh, hfs_meth hx, ?_⟩
  simp only [List.append_nil]
  exact k
theorem h_prop {sp : Sp} {dvs : List V} (hA : HallAt C H h m tk cl lt lp) (k : sp (.ref h :: dvs) H Q E) : propK sp C dvs E Q (.ref h) H := by
  obtain ⟨dx, tp, cp, hh, htp, hcp⟩ := hA.ex
  exact ⟨h, dx, _, rfl, hh, k⟩
theorem h_taken {n : Nat} {z : Int} {r : List V} (hA : HallAt C H h m tk cl lt lp) (e : z.toNat = n) (k : ∀ H', Same H H' → Q (vn (tak tk n)) H') : spTaken C [.ref h, .int z] H Q E :=
  ⟨h, lp, z, m, lt, tk, cl, rfl, hA, by rw [e]; exact k⟩
theorem h_taken0 {n : Nat} (hA : HallAt C H h m tk cl lt lp) (k : ∀ H', Same H H' → Q (vn (tak tk n)) H') : spTaken C [.ref h, .int (n : Int)] H Q E := h_taken (r := []) hA (by omega) k
theorem h_taken1 {n : Nat} (hA : HallAt C H h m tk cl lt lp) (k : ∀ H', Same H H' → Q (vn (tak tk (n + 1))) H') : spTaken C [.ref h, .int ((n : Int) + 1)] H Q E := h_taken (r := []) hA (by omega) k
theorem h_takenL {n j : Nat} (hA : HallAt C H h m tk cl lt lp) (k : ∀ H', Same H H' → Q (vn (tak tk (n - j))) H') : spTaken C [.ref h, .int ((n : Int) - (j : Int))] H Q E := h_taken (r := []) hA (by omega) k
theorem h_called {n : Nat} {z : Int} {r : List V} (hA : HallAt C H h m tk cl lt lp) (e : z.toNat = n) (k : Q (vn (cal tk cl n)) H) : spCalled C [.ref h, .int z] H Q E :=
  ⟨h, lp, z, m, lt, tk, cl, rfl, hA, by rw [e]; exact k⟩
theorem h_called0 {n : Nat} (hA : HallAt C H h m tk cl lt lp) (k : Q (vn (cal tk cl n)) H) : spCalled C [.ref h, .int (n : Int)] H Q E := h_called (r := []) hA (by omega) k
theorem h_called1 {n : Nat} (hA : HallAt C H h m tk cl lt lp) (k : Q (vn (cal tk cl (n + 1))) H) : spCalled C [.ref h, .int ((n : Int) + 1)] H Q E := h_called (r := []) hA (by omega) k
theorem h_calledL {n j : Nat} (hA : HallAt C H h m tk cl lt lp) (k : Q (vn (cal tk cl (n - j))) H) : spCalled C [.ref h, .int ((n : Int) - (j : Int))] H Q E := h_called (r := []) hA (by omega) k
theorem h_waiting {n : Nat} (hA : HallAt C H h m tk cl lt lp) (hn : n ≤ 1000000000000000000) (k : ∀ H', Same H H' → Q (vn (wt tk cl (n + 1))) H') : spWaiting C [.ref h, .int (n : Int)] H Q E := ⟨h, lp, n, m, lt, tk, cl, rfl, hn, hA, k⟩
theorem h_growth (hA : HallAt C H h m tk cl lt lp) (k : ∀ H', Same H H' → Q (vn (grow tk cl)) H') : spGrowth C [.ref h] H Q E := ⟨h, lp, m, lt, tk, cl, rfl, hA, k⟩
theorem h_period (hA : HallAt C H h m tk cl lt lp) (k : Q (vn (per tk cl)) H) : spPeriod C [.ref h] H Q E := by
  obtain ⟨dx, tp, cp, hh, htp, hcp⟩ := hA.ex
  exact ⟨h, dx, tp, cp, _, tk, cl, rfl, hh, hfs_takes, hfs_calls, htp, hcp, hA.ok.tkP, hA.ok.clP, k⟩
theorem h_lhall {tp cp p : Addr} (hP : PartsAt H p m tp tk cp cl lt) (k : ∀ h lp H', H h = none → H lp = none → Same H H' → HallAt C H' h m tk cl lt lp → Q (.ref h) H') : spLHall C [.ref p] H Q E := ⟨p, tp, cp, m, lt, tk, cl, rfl, hP, k⟩
theorem h_length {tp cp p : Addr} (hP : PartsAt H p m tp tk cp cl lt) (k : Q (vn (per tk cl)) H) : spLength [.ref p] H Q E := ⟨p, tp, cp, m, lt, tk, cl, rfl, hP, k⟩
theorem h_counts {tp cp p : Addr} {n : Nat} (hP : PartsAt H p m tp tk cp cl lt) (hn : n ≤ 10000) (k : ∀ r a b H', H r = none → H a = none → H b = none → a ≠ b → Same H H' → H' r = some (.tup [.ref a, .ref b]) → H' a = some (.lst (fV (tak tk) n)) → H' b = some (.lst (fV (cal tk cl) n)) → Q (.ref r) H') :
    spCounts [.ref p, .int (n : Int)] H Q E := ⟨p, tp, cp, m, lt, tk, cl, n, rfl, hP, hn, k⟩
theorem h_countsL {tp cp p : Addr} {n : Nat} (hP : PartsAt H p m tp tk cp cl lt) (hn : n ≤ 10000) (k : ∀ r a b H', H r = none → H a = none → H b = none → a ≠ b → Same H H' → H' r = some (.tup [.ref a, .ref b]) → H' a = some (.lst (fV (tak tk) (OfNat.ofNat n : Nat))) → H' b = some (.lst (fV (cal tk cl) (OfNat.ofNat n : Nat))) → Q (.ref r) H') :
    spCounts [.ref p, .int (OfNat.ofNat n : Int)] H Q E := h_counts hP hn k
theorem ixF {f : Nat → Nat} {n i : Nat} {p : Addr} (hq : H p = some (.lst (fV f n))) (hi : i ≤ n) (k : Q (vn (f i)) H) : rIxL K (.ref p) (.int (i : Int)) H Q := ixL (SqL.of hq) (atn (fV_at hi)) k
theorem ixF1 {f : Nat → Nat} {n i : Nat} {p : Addr} (hq : H p = some (.lst (fV f n))) (hi : i + 1 ≤ n) (k : Q (vn (f (i + 1))) H) : rIxL K (.ref p) (.int ((i : Int) + 1)) H Q := ixL (SqL.of hq) (by rw [show ((i : Int) + 1) = ((i + 1 : Nat) : Int) by omega]; exact atn (fV_at hi)) k
theorem h_equal {n : Nat} {v u : V} (h : Sm K n H v u) (k : ∀ H', Same H H' → Q (.bl true) H') : spEqOf (Sm K n) [v, u] H Q E := ⟨v, u, rfl, h, k⟩
theorem h_make {tp cp : Addr} (hP : Parts m tk cl lt) (htp : H tp = some (.tup (tk.map vn))) (hcp : H cp = some (.tup (cl.map vn))) (k : ∀ h lp H', H h = none → H lp = none → Same H H' → HallAt C H' h m tk cl lt lp → Q (.ref h) H') :
    makeK C (spInit C) [] E Q [vn m, .ref tp, .ref cp, vn lt] H := fun x dx nx ndx nex => by
  have S1 : Same H (upd (upd H dx (.own x)) x (.ins C dx [])) := fun b o e => by
    rw [upd_ne (ne_of_none e nx), upd_ne (ne_of_none e ndx)]
    exact e
  refine ⟨x, dx, tp, cp, m, lt, tk, cl, rfl, upd_same, S1 _ _ htp, S1 _ _ hcp, hP, fun H' lp B n hA => ⟨rfl, ?_⟩⟩
  exact k x lp H' nx (S1.free n) (fun b o e => B b o (ne_of_none e nx) (S1 b o e)) hA
/-- the parts' items -/
theorem p_0 {tp cp p : Addr} (hP : PartsAt H p m tp tk cp cl lt) (k : Q (vn m) H) : rIxT K (.ref p) (.int 0) H Q := ixT (SqT.of hP.at_) (at3 (j := 0) rfl) k
theorem p_1 {tp cp p : Addr} (hP : PartsAt H p m tp tk cp cl lt) (k : H tp = some (.tup (tk.map vn)) → Q (.ref tp) H) : rIxT K (.ref p) (.int 1) H Q := ixT (SqT.of hP.at_) (at3 (j := 1) rfl) (k hP.tkA)
theorem p_2 {tp cp p : Addr} (hP : PartsAt H p m tp tk cp cl lt) (k : H cp = some (.tup (cl.map vn)) → Q (.ref cp) H) : rIxT K (.ref p) (.int 2) H Q := ixT (SqT.of hP.at_) (at3 (j := 2) rfl) (k hP.clA)
theorem p_3 {tp cp p : Addr} (hP : PartsAt H p m tp tk cp cl lt) (k : Q (vn lt) H) : rIxT K (.ref p) (.int 3) H Q := ixT (SqT.of hP.at_) (at3 (j := 3) rfl) k
end Rd
end Tk

/-! ### Data: what a value is worth -/
namespace Tk
open PySem PySem.Spec PyProof.Rows L2
abbrev dN (n : Nat) : PyData := .int (n : Int)
/-- data without dicts and bools, at most n deep, no list too long -/
def Sml : Nat → PyData → Prop
  | 0, _ => False
  | n + 1, .list xs => xs.length ≤ 100000 ∧ ∀ x ∈ xs, Sml n x
  | n + 1, .tuple xs => xs.length ≤ 100000 ∧ ∀ x ∈ xs, Sml n x
  | _ + 1, .dict _ => False
  | _ + 1, .bool _ => False
  | _ + 1, .none => True
  | _ + 1, .int _ => True
  | _ + 1, .str x => PyData.strOk x = true
theorem Sml.ints {n : Nat} {ns : List Nat} (h : ns.length ≤ 100000) : Sml (n + 2) (.list (ns.map dN)) := ⟨by rw [List.length_map]; exact h, fun x hx => by
  obtain ⟨m, _, rfl⟩ := List.mem_map.mp hx
  trivial⟩
theorem Sml.intsT {n : Nat} {ns : List Nat} (h : ns.length ≤ 100000) : Sml (n + 2) (.tuple (ns.map dN)) := ⟨by rw [List.length_map]; exact h, fun x hx => by
  obtain ⟨m, _, rfl⟩ := List.mem_map.mp hx
  trivial⟩
theorem Sml.mono : ∀ {n : Nat} {d : PyData}, Sml n d → Sml (n + 1) d
  | 0, _, h => h.elim
  | n + 1, .list xs, h => ⟨h.1, fun x hx => (h.2 x hx).mono⟩
  | n + 1, .tuple xs, h => ⟨h.1, fun x hx => (h.2 x hx).mono⟩
  | n + 1, .dict _, h => h.elim
  | n + 1, .bool _, h => h.elim
  | n + 1, .none, _ => trivial
  | n + 1, .int _, _ => trivial
  | n + 1, .str _, h => h
theorem Sml.up {n m : Nat} {d : PyData} (h : Sml n d) (l : n ≤ m) : Sml m d := by
  induction l with
  | refl => exact h
  | step _ ih => exact ih.mono
theorem canAll : ∀ {xs : List PyData}, (∀ x ∈ xs, x.canLay0 = true) → PyData.canLayAll0 xs = true
  | [], _ => rfl
  | x :: xs, h => by
    simp only [PyData.canLayAll0, h x List.mem_cons_self, canAll fun y hy => h y (List.mem_cons_of_mem _ hy), Bool.and_self]
theorem depAll {n : Nat} : ∀ {xs : List PyData}, (∀ x ∈ xs, x.depth ≤ n) → PyData.depthAll xs ≤ n
  | [], _ => Nat.zero_le _
  | x :: xs, h => by
    have a := h x List.mem_cons_self
    have b := depAll fun y hy => h y (List.mem_cons_of_mem x hy)
    show max _ _ ≤ n
    omega
theorem sml_lay : ∀ {n : Nat} {d : PyData}, Sml n d → d.canLay0 = true ∧ d.depth ≤ n
  | 0, _, h => h.elim
  | n + 1, .list xs, h => by
    have z := fun x hx => sml_lay (h.2 x hx)
    exact ⟨by simpa [PyData.canLay0] using canAll fun x hx => (z x hx).1, Nat.succ_le_succ (depAll fun x hx => (z x hx).2)⟩
  | n + 1, .tuple xs, h => by
    have z := fun x hx => sml_lay (h.2 x hx)
    exact ⟨by simpa [PyData.canLay0] using canAll fun x hx => (z x hx).1, Nat.succ_le_succ (depAll fun x hx => (z x hx).2)⟩
  | n + 1, .dict _, h => h.elim
  | n + 1, .bool _, h => h.elim
  | n + 1, .none, _ => ⟨rfl, Nat.zero_le _⟩
  | n + 1, .int _, _ => ⟨rfl, Nat.zero_le _⟩
  | n + 1, .str x, h => ⟨by have h : PyData.strOk x = true := h; simpa [PyData.canLay0] using h, Nat.zero_le _⟩
theorem sml_shaped {n : Nat} {d : PyData} (h : Sml n d) (hn : n ≤ 64) : SeqAt.shaped d = true := by
  obtain ⟨a, b⟩ := sml_lay h
  unfold SeqAt.shaped
  rw [a, decide_eq_true (Nat.le_trans b hn)]
  rfl
theorem eqvAll_iff : ∀ {xs ys : List PyData}, (∀ x ∈ xs, ∀ y ∈ ys, PyData.eqv x y = true ↔ x = y) → (PyData.eqvAll xs ys = true ↔ xs = ys)
  | [], [], _ => by simp [PyData.eqvAll]
  | [], _ :: _, _ => by simp [PyData.eqvAll]
  | _ :: _, [], _ => by simp [PyData.eqvAll]
  | x :: xs, y :: ys, h => by
    rw [PyData.eqvAll, Bool.and_eq_true, h x List.mem_cons_self y List.mem_cons_self, eqvAll_iff fun a ha b hb => h a (List.mem_cons_of_mem _ ha) b (List.mem_cons_of_mem _ hb), List.cons.injEq]
theorem eqv_iff : ∀ {n : Nat} {d e : PyData}, Sml n d → Sml n e → (PyData.eqv d e = true ↔ d = e)
  | 0, _, _, h, _ => h.elim
  | n + 1, .list xs, e, h, g => by
    cases e with
    | list ys =>
      rw [PyData.eqv, eqvAll_iff fun x hx y hy => eqv_iff (h.2 x hx) (g.2 y hy)]
      simp
    | _ => simp [PyData.eqv]
  | n + 1, .tuple xs, e, h, g => by
    cases e with
    | tuple ys =>
      rw [PyData.eqv, eqvAll_iff fun x hx y hy => eqv_iff (h.2 x hx) (g.2 y hy)]
      simp
    | _ => simp [PyData.eqv]
  | n + 1, .dict _, _, h, _ => h.elim
  | n + 1, .bool _, _, h, _ => h.elim
  | n + 1, .none, e, _, _ => by cases e <;> simp [PyData.eqv]
  | n + 1, .int i, e, _, g => by
    cases e with
    | bool _ => exact g.elim
    | _ => simp [PyData.eqv]
  | n + 1, .str _, e, _, _ => by cases e <;> simp [PyData.eqv]
section
variable {K : PySem.W.Frag} {H H' : Hp}
theorem dp_sm {v : V} {d : PyData} (S : Same H H') : L2.Dp K H v d → L2.Dp K H' v d := fun h => by
  refine L2.Dp.rec (motive_1 := fun v d _ => L2.Dp K H' v d) (motive_2 := fun vs ds _ => DpAll K H' vs ds) .non .bl .int .str (fun h1 _ ih => .lst (S.seq h1) ih) (fun h1 _ ih => .tup (sqt_sm S h1) ih) .nil (fun _ _ i1 i2 => .cons i1 i2) h
theorem dpA_sm {vs : List V} {ds : List PyData} (S : Same H H') (h : DpAll K H vs ds) : DpAll K H' vs ds := by
  induction vs generalizing ds with
  | nil => cases h; exact .nil
  | cons v vs ih =>
    cases h with
    | cons h1 h2 => exact .cons (dp_sm S h1) (ih h2)
theorem dpA_len {vs : List V} {ds : List PyData} (h : DpAll K H vs ds) : vs.length = ds.length := by
  induction vs generalizing ds with
  | nil => cases h; rfl
  | cons v vs ih =>
    cases h with
    | cons h1 h2 => rw [List.length_cons, List.length_cons, ih h2]
theorem dpA_at {vs : List V} {ds : List PyData} (h : DpAll K H vs ds) {i : Nat} {v : V} (hv : vs[i]? = some v) : ∃ d, ds[i]? = some d ∧ L2.Dp K H v d := by
  induction vs generalizing ds i with
  | nil => cases hv
  | cons v vs ih =>
    cases h with
    | cons h1 h2 =>
      cases i with
      | zero => cases hv; exact ⟨_, rfl, h1⟩
      | succ i => exact ih h2 hv
theorem dpA_app {vs us : List V} {ds es : List PyData} (h : DpAll K H vs ds) (g : DpAll K H us es) : DpAll K H (vs ++ us) (ds ++ es) := by
  induction vs generalizing ds with
  | nil => cases h; exact g
  | cons v vs ih =>
    cases h with
    | cons h1 h2 => exact .cons h1 (ih h2)
theorem dpA_map {α : Type} {l : List α} {f : α → V} {g : α → PyData} (h : ∀ x ∈ l, L2.Dp K H (f x) (g x)) : DpAll K H (l.map f) (l.map g) := by
  induction l with
  | nil => exact .nil
  | cons a l ih => exact .cons (h a List.mem_cons_self) (ih fun x hx => h x (List.mem_cons_of_mem _ hx))
theorem dp_nats (l : List Nat) : DpAll K H (l.map vn) (l.map dN) := dpA_map fun _ _ => .int _
theorem dp_int {i : Int} : L2.Dp K H (.int i) (.int i) := .int i
theorem dp_ofall {vs : List V} {n : Nat} (g : Nat → PyData) (hl : vs.length = n) (h : ∀ (i : Nat) v, vs[i]? = some v → L2.Dp K H v (g i)) : DpAll K H vs ((List.range n).map g) := by
  induction vs generalizing n g with
  | nil => subst hl; exact .nil
  | cons v vs ih =>
    subst hl
    rw [List.length_cons, List.range_succ_eq_map, List.map_cons, List.map_map]
    exact .cons (h 0 v rfl) (ih (fun i => g (i + 1)) rfl fun i v hv => h (i + 1) v hv)
/-- the same data -/
theorem Sm.dp : ∀ {n : Nat} {d : PyData} {v u : V}, L2.Dp K H v d → L2.Dp K H u d → Sml n d → Sm K n H v u
  | 0, _, _, _, _, _, h => h.elim
  | n + 1, _, _, _, .non, .non, _ => .inl ⟨rfl, rfl⟩
  | n + 1, _, _, _, .int _, .int _, _ => .inl ⟨rfl, rfl⟩
  | n + 1, _, _, _, .str _, .str _, _ => .inl ⟨rfl, rfl⟩
  | n + 1, _, _, _, .bl _, .bl _, h => h.elim
  | n + 1, _, _, _, .lst h1 a1, .lst h2 a2, h => by
    have l1 := (dpA_len a1)
    have l2 := (dpA_len a2)
    refine .inr (.inl ⟨_, _, _, _, rfl, rfl, h1, h2, by omega, by have := h.1; omega, fun i x y hx hy => ?_⟩)
    obtain ⟨d, hd, r⟩ := dpA_at a1 hx
    obtain ⟨e, he, q⟩ := dpA_at a2 hy
    obtain rfl := Option.some.inj (hd.symm.trans he)
    exact Sm.dp r q (h.2 _ (List.mem_of_getElem? hd))
  | n + 1, _, _, _, .tup h1 a1, .tup h2 a2, h => by
    have l1 := (dpA_len a1)
    have l2 := (dpA_len a2)
    refine .inr (.inr ⟨_, _, _, _, rfl, rfl, h1, h2, by omega, by have := h.1; omega, fun i x y hx hy => ?_⟩)
    obtain ⟨d, hd, r⟩ := dpA_at a1 hx
    obtain ⟨e, he, q⟩ := dpA_at a2 hy
    obtain rfl := Option.some.inj (hd.symm.trans he)
    exact Sm.dp r q (h.2 _ (List.mem_of_getElem? hd))
namespace Rd
variable {Q : VK} {E : XK}
theorem h_eqd {n : Nat} {v u : V} {d : PyData} (h1 : L2.Dp K H v d) (h2 : L2.Dp K H u d) (hd : Sml n d) (k : ∀ H', Same H H' → Q (.bl true) H') : spEqOf (Sm K n) [v, u] H Q E := ⟨v, u, rfl, Sm.dp h1 h2 hd, k⟩
open Classical in
theorem eqd {v u : V} {d e : PyData} (h1 : L2.Dp K H v d) (h2 : L2.Dp K H u e) (hd : Sml 8 d) (he : Sml 8 e) (k : Q (.bl (decide (d = e))) H) : rEqD K v u H Q := by
  refine ⟨d, e, h1, h2, sml_shaped hd (by decide), sml_shaped he (by decide), ?_⟩
  have z : PyData.eqv d e = decide (d = e) := by
    by_cases c : d = e
    · rw [(eqv_iff hd he).mpr c, decide_eq_true c]
    · rw [decide_eq_false c]
      cases q : PyData.eqv d e with
      | false => rfl
      | true => exact absurd ((eqv_iff hd he).mp q) c
  rw [z]
  exact k
open Classical in
theorem ned {v u : V} {d e : PyData} (h1 : L2.Dp K H v d) (h2 : L2.Dp K H u e) (hd : Sml 8 d) (he : Sml 8 e) (k : Q (.bl (!decide (d = e))) H) : rNeD K v u H Q := by
  refine ⟨d, e, h1, h2, sml_shaped hd (by decide), sml_shaped he (by decide), ?_⟩
  have z : PyData.eqv d e = decide (d = e) := by
    by_cases c : d = e
    · rw [(eqv_iff hd he).mpr c, decide_eq_true c]
    · rw [decide_eq_false c]
      cases q : PyData.eqv d e with
      | false => rfl
      | true => exact absurd ((eqv_iff hd he).mp q) c
  rw [z]
  exact k
end Rd
end
end Tk

/-! ### list(range(a, b, c)) -/
namespace Tk
open PySem PySem.Spec PyProof.Rows L2 Mm
def tLstRg3 (ta : TA) : TE := fun σ H Q => ta σ H fun vs H1 => ∃ (i j c : Int) (n : Nat), vs = [.int i, .int j, .int c] ∧ RgC i j c n ∧ n ≤ 2 ^ 24 ∧ ∀ q, H1 q = none → Q (.ref q) (upd H1 q (.lst ((List.range n).map fun k => V.int (i + (k : Nat) * c))))
section
variable {X : Cx} {a b c : Expr} {ta : TA}
theorem pe_listRg3 {p pos p2 pos2 : Pos} (hc : X.calm = true) (hgl : Gl X "list") (hml : X.mg "list" = none) (hg : Gl X "range") (hm : X.mg "range" = none) (ha : PA X [a, b, c] ta)
    (hs : starEach [a, b, c] X.env = (false, eval a X.env) :: starEach [b, c] X.env := by rfl) (hpl : (backTo pos2 (starEach [b, c] X.env)).any (·.1) = false := by rfl)
    (na : starEach [.Call (.Name "range" p2) [a, b, c] [] pos2] X.env = (false, eval (.Call (.Name "range" p2) [a, b, c] [] pos2) X.env) :: starEach [] X.env := by rfl) :
    PE X (.Call (.Name "list" p) [.Call (.Name "range" p2) [a, b, c] [] pos2] [] pos) (tLstRg3 ta) := by
  refine ⟨fun pins s σ H Q I h => ?_⟩
  have inner : wpAny (model X.prog X.w) X.A (eval (.Call (.Name "range" p2) [a, b, c] [] pos2) X.env) (fun x s' => ∃ r i j k n t u v H', x = Value.ref r ∧ IsRange s'.heap r i j k t u v ∧ Inv X pins σ H' s' ∧ RgC i j k n ∧ n ≤ 2 ^ 24 ∧
      ∀ q, H' q = none → Q (.ref q) (upd H' q (.lst ((List.range n).map fun m => V.int (i + (m : Nat) * k))))) X.xe s := by
    refine Call_ (ld_blt I hg hm boot_range (PyProof.Rows.callWith_type1 (thn (ha.run pos2 pins s σ H _ I h) fun us s1 ⟨vs, H1, I1, r1, q1⟩ => ?_) hs hpl))
    obtain ⟨i, j, k, n, e, hR, hz, q⟩ := q1
    subst e
    cases r1 with
    | cons r rr =>
      cases rr with
      | cons r' rr =>
        cases rr with
        | cons r'' rr =>
          cases rr
          obtain ⟨t, rfl⟩ := r
          obtain ⟨t', rfl⟩ := r'
          obtain ⟨t'', rfl⟩ := r''
          refine call_range_3 hR.1 ?_ (.inl (PyProof.noPylong_small hR.2.1))
          exact ⟨_, i, j, k, n, _, _, _, H1, rfl, IsRange.new _ _ _ _ _ _ _, I1.kept fun b u e => Heap.get?_push_of_some _ e, hR, hz, q⟩
  refine Call_ (ld_blt I hgl hml boot_list (PyProof.Rows.callWith_type1 (args_cons (thn inner fun x s1 ⟨r, i, j, k, n, t, u, v, H1, ex, hr, I1, hR, hz, q⟩ => args_nil ?_) na) na))
  subst ex
  obtain ⟨c0, c1, c2, c3⟩ := hR
  refine call_list_range (n := n) (I1.ok.hd hc) hr c2 c3 hz fun h' tk acc c' hk e' hi => ?_
  have vals : Vals ((List.range n).map fun m => V.int (i + (m : Nat) * k)) acc.toList := by
    have e : acc.toList.length = n := by rw [Array.length_toList]; exact hi.1
    rw [← e]
    refine vals_of_get acc.toList _ fun m u hm => ?_
    obtain ⟨t, rfl⟩ := hi.2 m u (by rw [← hm, Array.getElem?_toList])
    exact ⟨t, rfl⟩
  refine ⟨.ref s1.heap.objs.size, upd H1 s1.heap.objs.size (.lst _), I1.laid hk (Nat.le_refl _) (show ObjOk X.prog X.w _ _ _ (.lst _) from ⟨?_, acc.toList, c', vals, ?_⟩), rfl, q _ (I1.hok.fresh (Nat.le_refl _))⟩
  · rw [List.length_map, List.length_range, sizeLine_eq]; omega
  · rw [Array.toArray_toList]; exact e'
end
/-- the numbers from a on and below b that leave the rest d -/
def resL (a b d m : Nat) : List Nat := ((List.range (b - a)).map fun i => a + i).filter fun n => decide (n % m = d)
/-- how the steps tell them -/
theorem res_steps {a d m : Nat} (hm : 0 < m) (hd : d < m) : ∀ b, resL a b d m = (List.range ((b - (a + (d + (m - a % m)) % m) + m - 1) / m)).map fun k => (a + (d + (m - a % m)) % m) + k * m
  | 0 => by
    unfold resL
    rw [Nat.zero_sub, Nat.zero_sub, Nat.zero_add, Nat.div_eq_of_lt (by omega)]
    rfl
  | b + 1 => by
    have ih := res_steps (a := a) hm hd b
    generalize hs : a + (d + (m - a % m)) % m = s at *
    have am := Nat.mod_lt a hm
    have sm : s % m = d := by
      rw [← hs, Nat.add_mod_mod, show a + (d + (m - a % m)) = d + (a - a % m + m) by have := Nat.mod_le a m; omega]
      have : (a - a % m + m) % m = 0 := by
        rw [Nat.add_mod_right]
        have := Nat.div_add_mod a m
        rw [show a - a % m = m * (a / m) by omega, Nat.mul_mod_right]
      rw [Nat.add_mod, this, Nat.add_zero, Nat.mod_mod, Nat.mod_eq_of_lt hd]
    have sa : a ≤ s := by omega
    have sb : s < a + m := by
      have := Nat.mod_lt (d + (m - a % m)) hm
      omega
    -- is b the next one?
    by_cases hab : a ≤ b
    · have e1 : resL a (b + 1) d m = resL a b d m ++ if b % m = d then [b] else [] := by
        unfold resL
        rw [show b + 1 - a = (b - a) + 1 by omega, List.range_succ, List.map_append, List.filter_append]
        congr 1
        rw [List.map_singleton, show a + (b - a) = b by omega]
        by_cases c : b % m = d <;> simp [c]
      rw [e1, ih]
      by_cases c : b % m = d
      · rw [if_pos c]
        have ge : s ≤ b := by
          refine Nat.le_of_not_lt fun lt => ?_
          have e : (s - b) % m = 0 := Nat.sub_mod_eq_zero_of_mod_eq (by rw [sm, c])
          have := Nat.mod_eq_of_lt (show s - b < m by omega)
          omega
        obtain ⟨k, hk⟩ : ∃ k, b = s + k * m := by
          have e : (b - s) % m = 0 := Nat.sub_mod_eq_zero_of_mod_eq (by rw [sm, c])
          have := Nat.div_add_mod (b - s) m
          refine ⟨(b - s) / m, ?_⟩
          rw [Nat.mul_comm]
          omega
        have q1 : (b - s + m - 1) / m = k := by
          rw [show b - s + m - 1 = (m - 1) + k * m by omega, Nat.add_mul_div_right _ _ hm, Nat.div_eq_of_lt (by omega), Nat.zero_add]
        have q2 : (b + 1 - s + m - 1) / m = k + 1 := by
          rw [show b + 1 - s + m - 1 = (k + 1) * m by rw [Nat.add_mul]; omega, Nat.mul_div_cancel _ hm]
        rw [q1, q2, List.range_succ, List.map_append, List.map_singleton, ← hk]
      · rw [if_neg c, List.append_nil]
        congr 2
        rcases Nat.lt_or_ge b s with lt | ge
        · rw [show b - s = 0 by omega, show b + 1 - s = 0 by omega]
        · have e2 : b + 1 - s + m - 1 = (b - s + m - 1) + 1 := by omega
          rw [e2, Nat.succ_div, if_neg]
          · rfl
          · intro dv
            refine c ?_
            have : (b - s) % m = 0 := by
              rw [show b - s + m - 1 + 1 = (b - s) + m by omega] at dv
              have := Nat.mod_eq_zero_of_dvd dv
              rwa [Nat.add_mod_right] at this
            have dm := Nat.div_add_mod (b - s) m
            rw [show b = s + m * ((b - s) / m) by omega, Nat.add_mul_mod_self_left, sm]
    · unfold resL
      rw [show b + 1 - a = 0 by omega, show b + 1 - s = 0 by omega, Nat.zero_add, Nat.div_eq_of_lt (by omega)]
      rfl
namespace Rd
variable {σ : L2.St} {H : Hp} {Q : VK} {ta : TA}
def rg3K (Q : VK) : List V → Hp → Prop := fun vs H1 => ∃ (i j c : Int) (n : Nat), vs = [.int i, .int j, .int c] ∧ RgC i j c n ∧ n ≤ 2 ^ 24 ∧ ∀ q, H1 q = none → Q (.ref q) (upd H1 q (.lst ((List.range n).map fun k => V.int (i + (k : Nat) * c))))
theorem lrg3 (k : ta σ H (rg3K Q)) : tLstRg3 ta σ H Q := k
end Rd
theorem rgC_up {s b m : Nat} (hm : 0 < m) (h1 : m ≤ 1000000) (hs : s ≤ 4500000000000000000) (hb : b ≤ 4500000000000000000) : RgC (s : Int) (b : Int) (m : Int) ((b - s + m - 1) / m) := by
  have rz : Builtin.Range.rangeSize (s : Int) (b : Int) (m : Int) = (((b - s + m - 1) / m : Nat) : Int) := by
    unfold Builtin.Range.rangeSize
    rw [if_pos (by omega)]
    by_cases lt : s < b
    · rw [if_pos (by omega), show (b : Int) - (s : Int) - 1 = ((b - s - 1 : Nat) : Int) by omega, show b - s + m - 1 = (b - s - 1) + m by omega, Nat.add_div_right _ hm, ← Int.natCast_ediv]
      rfl
    · rw [if_neg (by omega), show b - s = 0 by omega, Nat.zero_add, Nat.div_eq_of_lt (by omega)]
      rfl
  have hq : (b - s + m - 1) / m ≤ b - s + m - 1 := Nat.div_le_self _ _
  refine ⟨by omega, by omega, ?_, rz⟩
  unfold Builtin.Range.small
  rw [rz]
  generalize (b - s + m - 1) / m = q at *
  simp only [Builtin.Range.rangeFitsLong, Bool.and_eq_true, Bool.or_eq_true, decide_eq_true_eq, beq_iff_eq]
  rw [if_pos (by omega)]
  simp only [Bool.and_eq_true, decide_eq_true_eq]
  omega
end Tk

/-! ### Comprehensions by two walks; items told by their data -/
namespace Tk
open PySem PySem.Spec PyProof.Rows L2 Mm
namespace Rd
variable {K : PySem.W.Frag} {σ : L2.St} {H : Hp} {Q : VK} {te : TE} {tt tt1 : L2.TT}
def lc2K (g : TG) (tt : L2.TT) (wi1 : TI) (g1 : TG) (tt1 : L2.TT) (te : TE) (vs vs1 : List Nat) (σ : L2.St) (Q : VK) (J : It) (H1 : Hp) : Prop := ∀ D, H1 D = none → ∃ W : Nat → Nat → Hp → Prop, (∃ m, W 0 m (upd H1 D (.lst []))) ∧ ∀ i m H, W i m H →
  (J.stop i H ∧ Q (.ref D) H) ∨ (J.go i H ∧ ∃ Nx : Hp → Prop, (∀ H', Nx H' → ∃ m', m' < m ∧ W (i + 1) m' H') ∧ ∀ x H', J.yld i H x H' → g x (wipe σ vs) H' fun σ2 H2 => wipe σ2 vs = wipe σ vs ∧ tt σ2 H2 fun b H3 =>
    if b = true then wi1 σ2 H3 fun J1 H4 => ∃ W1 : Nat → Nat → Hp → Prop, (∃ m, W1 0 m H4) ∧ ∀ j k H, W1 j k H →
      (J1.stop j H ∧ Nx H) ∨ (J1.go j H ∧ ∃ Nx1 : Hp → Prop, (∀ H', Nx1 H' → ∃ k', k' < k ∧ W1 (j + 1) k' H') ∧ ∀ x H', J1.yld j H x H' → g1 x (wipe σ2 vs1) H' fun σ3 H5 => wipe σ3 vs1 = wipe σ2 vs1 ∧ tt1 σ3 H5 fun b H6 =>
        if b = true then te σ3 H6 fun y H7 => ∃ acc, H7 D = some (.lst acc) ∧ acc.length < sizeLine ∧ Nx1 (upd H7 D (.lst (acc ++ [y]))) else Nx1 H6)
    else Nx H3)
theorem tlc2 {wi wi1 : TI} {g g1 : TG} {vs vs1 : List Nat} (k : wi σ H (lc2K g tt wi1 g1 tt1 te vs vs1 σ Q)) : tLc2 wi g tt wi1 g1 tt1 te vs vs1 σ H Q := k
/-- [e for i in range(lo, lo + n) for x in a list of numbers] -/
theorem lc2_rng {lo : Int} {n i1 i2 N : Nat} {wi1 : TI} {vs vs1 : List Nat} (L : Nat → List Nat) (f : Nat → Nat → PyData) (hN : ((List.range n).flatMap fun i => (L i).map (f i)).length ≤ N) (hN2 : N ≤ 100000)
    (hw1 : ∀ v : V, wipe ((wipe σ vs).set i1 (some v)) vs = wipe σ vs) (hw2 : ∀ v u : V, wipe ((wipe ((wipe σ vs).set i1 (some v)) vs1).set i2 (some u)) vs1 = wipe ((wipe σ vs).set i1 (some v)) vs1)
    (hi : ∀ i : Nat, i < n → ∀ H', Same H H' → ∀ R : It → Hp → Prop, (∀ l H'', H' l = none → Same H' H'' → H'' l = some (.lst ((L i).map vn)) → R (Itl K l) H'') → wi1 ((wipe σ vs).set i1 (some (.int (lo + i)))) H' R)
    (he : ∀ i x : Nat, i < n → x ∈ L i → ∀ H' D, H D = none → Same H H' → H' D ≠ none → ∀ Q' : VK, (∀ y H'', Same H' H'' → (∀ Hx, But D H'' Hx → L2.Dp K Hx y (f i x)) → Q' y H'') → te ((wipe ((wipe σ vs).set i1 (some (.int (lo + i)))) vs1).set i2 (some (vn x))) H' Q')
    (k : ∀ D ys H', H D = none → Same H H' → H' D = some (.lst ys) → DpAll K H' ys ((List.range n).flatMap fun i => (L i).map (f i)) → Q (.ref D) H') :
    lc2K (gName i1) tYes wi1 (gName i2) tYes te vs vs1 σ Q (Itr lo n) H := fun D hD => by
  have key : ∀ (ds : List PyData) (H2 : Hp) (ys : List V), (∀ Hx, But D H2 Hx → DpAll K Hx ys ds) → ys.length = ds.length := fun ds H2 ys h => dpA_len (h H2 fun _ _ _ e => e)
  let P : List PyData → Hp → Prop := fun ds H2 => ∃ ys : List V, Same H H2 ∧ H2 D = some (.lst ys) ∧ ∀ Hx, But D H2 Hx → DpAll K Hx ys ds
  refine ⟨fun i m H2 => m = n - i ∧ i ≤ n ∧ P ((List.range i).flatMap fun i => (L i).map (f i)) H2, ⟨n, by simp, Nat.zero_le _, [], Same.nw hD (Same.refl H), upd_same, fun _ _ => .nil⟩, ?_⟩
  rintro i m H2 ⟨rfl, hin, ys, S2, h2, d2⟩
  by_cases hlt : i < n
  · refine .inr ⟨hlt, P ((List.range (i + 1)).flatMap fun i => (L i).map (f i)), fun H' p' => ⟨n - (i + 1), by omega, rfl, hlt, p'⟩, fun x H' y => ?_⟩
    obtain ⟨e, y⟩ := y
    subst e y
    refine ⟨hw1 _, yes (ift (hi i hlt _ S2 _ fun l H3 nl S3 hl => ?_))⟩
    have nDl : l ≠ D := fun q => by
      rw [q, h2] at nl
      cases nl
    have step : ∀ {Ha Hb : Hp}, Same Ha Hb → ∀ {Hx : Hp}, But D Hb Hx → But D Ha Hx := fun S _ b c o ne e => b c o ne (S _ _ e)
    refine ⟨fun j k H4 => k = (L i).length - j ∧ j ≤ (L i).length ∧ H4 l = some (.lst ((L i).map vn)) ∧ P (((List.range i).flatMap fun i => (L i).map (f i)) ++ ((L i).take j).map (f i)) H4, ⟨(L i).length, by simp, Nat.zero_le _, hl, ys, S2.trans S3, S3 _ _ h2, fun Hx b => by
      rw [List.take_zero, List.map_nil, List.append_nil]
      exact d2 Hx (step S3 b)⟩, ?_⟩
    rintro j k H4 ⟨rfl, hj, hl4, ys4, S4, h4, d4⟩
    by_cases hjl : j < (L i).length
    · have hx : (L i)[j]? = some ((L i)[j]) := List.getElem?_eq_getElem hjl
      refine .inr ⟨⟨_, vn ((L i)[j]), SqL.of hl4, by rw [List.getElem?_map, hx]; rfl⟩, fun H' => H' l = some (.lst ((L i).map vn)) ∧ P (((List.range i).flatMap fun i => (L i).map (f i)) ++ ((L i).take (j + 1)).map (f i)) H', fun H' p' => ⟨_, Nat.sub_lt_sub_left hjl (Nat.lt_succ_self j), rfl, hjl, p'⟩, fun x H' y => ?_⟩
      obtain ⟨e, y⟩ := y
      subst e
      obtain rfl : vn ((L i)[j]) = x := by
        have := y _ (SqL.of hl4)
        rw [List.getElem?_map, hx] at this
        exact Option.some.inj this
      refine ⟨hw2 _ _, yes (ift (he i _ hlt (List.getElem_mem hjl) _ D hD S4 (by rw [h4]; simp) _ fun y H5 S5 hy => ⟨ys4, S5 _ _ h4, ?_, ?_, ys4 ++ [y], fun b o e => ?_, upd_same, fun Hx b => ?_⟩))⟩
      · have e := key _ _ _ d4
        have le : (((List.range i).flatMap fun i => (L i).map (f i)) ++ ((L i).take j).map (f i)).length ≤ ((List.range n).flatMap fun i => (L i).map (f i)).length := by
          obtain ⟨r, hr⟩ : ∃ r, n = i + 1 + r := ⟨n - (i + 1), by omega⟩
          rw [hr, List.range_add, List.flatMap_append, List.range_succ, List.flatMap_append, List.length_append, List.length_append, List.length_append]
          simp only [List.flatMap_cons, List.flatMap_nil, List.append_nil, List.length_map, List.length_take]
          omega
        exact Nat.lt_of_le_of_lt (m := 100000) (by omega) (by decide)
      · rw [upd_ne nDl]
        exact S5 _ _ hl4
      · rw [upd_ne (ne_of_none e hD)]
        exact S5 _ _ (S4 _ _ e)
      · have b5 : But D H5 Hx := fun c o ne e => b c o ne (by rw [upd_ne ne]; exact e)
        have e : (L i).take (j + 1) = (L i).take j ++ [(L i)[j]] := by rw [List.take_succ, hx]; rfl
        rw [e, List.map_append, ← List.append_assoc]
        exact dpA_app (d4 Hx (step S5 b5)) (.cons (hy Hx b5) .nil)
    · have e : j = (L i).length := by omega
      subst e
      refine .inl ⟨⟨_, SqL.of hl4, by simp⟩, ys4, S4, h4, fun Hx b => ?_⟩
      have := d4 Hx b
      rw [List.take_length] at this
      rw [List.range_succ, List.flatMap_append]
      simpa using this
  · have e : i = n := by omega
    subst e
    exact .inl ⟨Nat.le_refl _, k D ys H2 hD S2 h2 (d2 _ fun _ _ _ e => e)⟩
/-- [e for x in range(lo, lo + n) if t], the items told by their data -/
theorem lc_rngD {lo : Int} {n i1 : Nat} {vs : List Nat} (c : Nat → Bool) (f : Nat → PyData) (hn : n ≤ 100000) (hw1 : ∀ v : V, wipe ((wipe σ vs).set i1 (some v)) vs = wipe σ vs)
    (ht : ∀ i : Nat, i < n → ∀ H', Same H H' → ∀ Q' : Bool → Hp → Prop, (∀ H'', Same H' H'' → Q' (c i) H'') → tt ((wipe σ vs).set i1 (some (.int (lo + i)))) H' Q')
    (he : ∀ i : Nat, i < n → c i = true → ∀ H' D, H D = none → Same H H' → H' D ≠ none → ∀ Q' : VK, (∀ y H'', Same H' H'' → (∀ Hx, But D H'' Hx → L2.Dp K Hx y (f i)) → Q' y H'') → te ((wipe σ vs).set i1 (some (.int (lo + i)))) H' Q')
    (k : ∀ D ys H', H D = none → Same H H' → H' D = some (.lst ys) → DpAll K H' ys (((List.range n).filter c).map f) → Q (.ref D) H') : lcK (gName i1) tt te vs σ Q (Itr lo n) H := fun D hD => by
  refine lc_range (lo := lo) (n := n) (fun i H2 => ∃ ys : List V, Same H H2 ∧ H2 D = some (.lst ys) ∧ ys.length ≤ i ∧ ∀ Hx, But D H2 Hx → DpAll K Hx ys (((List.range i).filter c).map f)) ⟨[], Same.nw hD (Same.refl H), upd_same, Nat.le_refl _, fun _ _ => .nil⟩ ?_ fun H2 ⟨ys, S2, h2, hl, hR⟩ => k D ys H2 hD S2 h2 (hR _ fun _ _ _ e => e)
  rintro i H2 hi ⟨ys, S2, h2, hl, hR⟩
  have e1 : (List.range (i + 1)).filter c = (List.range i).filter c ++ if c i = true then [i] else [] := by
    rw [List.range_succ, List.filter_append]
    congr 1
    by_cases h : c i = true <;> simp [h]
  have stp : ∀ {Ha Hb : Hp}, Same Ha Hb → ∀ {Hx : Hp}, But D Hb Hx → But D Ha Hx := fun S _ b c o ne e => b c o ne (S _ _ e)
  refine ⟨hw1 _, ht i hi H2 S2 _ fun H3 S3 => bb (fun hc => ?_) (fun hc => ?_)⟩
  · refine he i hi hc H3 D hD (S2.trans S3) (by rw [S3 _ _ h2]; simp) _ fun y H4 S4 hy => ⟨ys, S4 _ _ (S3 _ _ h2), Nat.lt_of_le_of_lt (m := 100000) (by omega) (by decide), ys ++ [y], fun b o e => ?_, upd_same, by rw [List.length_append]; exact Nat.succ_le_succ hl, fun Hx b => ?_⟩
    · rw [upd_ne (ne_of_none e hD)]
      exact S4 _ _ (S3 _ _ (S2 _ _ e))
    · have b4 : But D H4 Hx := fun c o ne e => b c o ne (by rw [upd_ne ne]; exact e)
      rw [e1, if_pos hc, List.map_append]
      exact dpA_app (hR Hx (stp (S3.trans S4) b4)) (.cons (hy Hx b4) .nil)
  · refine ⟨ys, S2.trans S3, S3 _ _ h2, by omega, fun Hx b => ?_⟩
    rw [e1, if_neg (by rw [hc]; decide), List.append_nil]
    exact hR Hx (stp S3 b)
/-- over a list -/
theorem lc_lstD {a : Addr} {xs : List V} {i1 : Nat} {vs : List Nat} (c : Nat → Bool) (f : Nat → PyData) (ha : SqL K H a xs) (hn : xs.length ≤ 100000) (hw1 : ∀ v : V, wipe ((wipe σ vs).set i1 (some v)) vs = wipe σ vs)
    (ht : ∀ (i : Nat) x, xs[i]? = some x → ∀ H', Same H H' → ∀ Q' : Bool → Hp → Prop, (∀ H'', Same H' H'' → Q' (c i) H'') → tt ((wipe σ vs).set i1 (some x)) H' Q')
    (he : ∀ (i : Nat) x, xs[i]? = some x → c i = true → ∀ H' D, H D = none → Same H H' → H' D ≠ none → ∀ Q' : VK, (∀ y H'', Same H' H'' → (∀ Hx, But D H'' Hx → L2.Dp K Hx y (f i)) → Q' y H'') → te ((wipe σ vs).set i1 (some x)) H' Q')
    (k : ∀ D ys H', H D = none → Same H H' → H' D = some (.lst ys) → DpAll K H' ys (((List.range xs.length).filter c).map f) → Q (.ref D) H') : lcK (gName i1) tt te vs σ Q (Itl K a) H := fun D hD => by
  refine lc_list (K := K) (a := a) (xs := xs) (fun i H2 => ∃ ys : List V, Same H H2 ∧ H2 D = some (.lst ys) ∧ ys.length ≤ i ∧ ∀ Hx, But D H2 Hx → DpAll K Hx ys (((List.range i).filter c).map f)) ⟨[], Same.nw hD (Same.refl H), upd_same, Nat.le_refl _, fun _ _ => .nil⟩ (fun i H2 _ ⟨_, S2, _⟩ => S2.seq ha) ?_ fun H2 ⟨ys, S2, h2, hl, hR⟩ => k D ys H2 hD S2 h2 (hR _ fun _ _ _ e => e)
  rintro i x H2 hx ⟨ys, S2, h2, hl, hR⟩
  have hi : i < xs.length := (List.getElem?_eq_some_iff.mp hx).1
  have e1 : (List.range (i + 1)).filter c = (List.range i).filter c ++ if c i = true then [i] else [] := by
    rw [List.range_succ, List.filter_append]
    congr 1
    by_cases h : c i = true <;> simp [h]
  have stp : ∀ {Ha Hb : Hp}, Same Ha Hb → ∀ {Hx : Hp}, But D Hb Hx → But D Ha Hx := fun S _ b c o ne e => b c o ne (S _ _ e)
  refine ⟨hw1 _, ht i x hx H2 S2 _ fun H3 S3 => bb (fun hc => ?_) (fun hc => ?_)⟩
  · refine he i x hx hc H3 D hD (S2.trans S3) (by rw [S3 _ _ h2]; simp) _ fun y H4 S4 hy => ⟨ys, S4 _ _ (S3 _ _ h2), Nat.lt_of_le_of_lt (m := 100000) (by omega) (by decide), ys ++ [y], fun b o e => ?_, upd_same, by rw [List.length_append]; exact Nat.succ_le_succ hl, fun Hx b => ?_⟩
    · rw [upd_ne (ne_of_none e hD)]
      exact S4 _ _ (S3 _ _ (S2 _ _ e))
    · have b4 : But D H4 Hx := fun c o ne e => b c o ne (by rw [upd_ne ne]; exact e)
      rw [e1, if_pos hc, List.map_append]
      exact dpA_app (hR Hx (stp (S3.trans S4) b4)) (.cons (hy Hx b4) .nil)
  · refine ⟨ys, S2.trans S3, S3 _ _ h2, by omega, fun Hx b => ?_⟩
    rw [e1, if_neg (by rw [hc]; decide), List.append_nil]
    exact hR Hx (stp S3 b)
end Rd
end Tk

namespace Tk
open PySem PySem.Spec PyProof.Rows L2
def spTickD : Sp := fun vs H Q _ => ∃ (d : Addr) (cs : List V), vs = [.ref d] ∧ H d = some (.lst cs) ∧ DSt cs ∧ ∀ (t : Nat) H', Src d H H' → t ≤ 1000000000000000000 → Q (vn t) H'
section
variable {P : Program} {w : World} {K : PySem.W.Frag} {mg : Str → Option Value} {base : Heap}
end
end Tk

/-! ### Draws -/
namespace Tk
open PySem PySem.Spec PyProof.Rows L2 Mm
theorem But.gt {d b : Addr} {H H' : Hp} {cs xs : List V} (B : But d H H') (hd : H d = some (.lst cs)) (h : H b = some (.tup xs)) : H' b = some (.tup xs) := B _ _ (ne_of h hd (fun q => by cases q)) h
theorem But.gl {d b : Addr} {H H' : Hp} {xs : List V} (B : But d H H') (n : b ≠ d) (h : H b = some (.lst xs)) : H' b = some (.lst xs) := B _ _ n h
theorem HallAt.bt {C d h lp : Addr} {H H' : Hp} {m lt : Nat} {tk cl : List Nat} {cs : List V} (B : But d H H') (hd : H d = some (.lst cs)) (n : lp ≠ d) (p : HallAt C H h m tk cl lt lp) : HallAt C H' h m tk cl lt lp := p.but B hd n
theorem PartsAt.bt {d t tp cp : Addr} {H H' : Hp} {m lt : Nat} {tk cl : List Nat} {cs : List V} (B : But d H H') (hd : H d = some (.lst cs)) (p : PartsAt H t m tp tk cp cl lt) : PartsAt H' t m tp tk cp cl lt := p.but B hd
/-- a new address is not an old one -/
theorem ne_new {a d : Addr} {H : Hp} {o : HO} (n : H a = none) (e : H d = some o) : a ≠ d := fun q => by rw [q, e] at n; cases n
namespace Rd
variable {K : PySem.W.Frag} {H : Hp} {Q : VK} {E : XK} {d : Addr} {cs : List V}
theorem h_below {lim : Int} (hd : H d = some (.lst cs)) (hcs : DSt cs) (h0 : 0 < lim) (h1 : lim < 1073741824) (k : ∀ (r : Nat) H' cs', (r : Int) < lim → But d H H' → H' d = some (.lst cs') → DSt cs' → Q (vn r) H') : spBelow [.ref d, .int lim] H Q E :=
  ⟨d, lim, cs, rfl, h0, h1, hd, hcs, fun r cs' r0 r1 hc => by
    obtain ⟨n, rfl⟩ : ∃ n : Nat, r = (n : Int) := ⟨r.toNat, by omega⟩
    exact k n _ cs' r1 But.at_d upd_same hc⟩
theorem h_parts {most : Nat} (hd : H d = some (.lst cs)) (hcs : DSt cs) (h0 : 0 < most) (h1 : most ≤ 12) (k : ∀ (t tp cp : Addr) (m lt : Nat) (tk cl : List Nat) H' cs', H t = none → But d H H' → H' d = some (.lst cs') → DSt cs' → PartsAt H' t m tp tk cp cl lt → tk.length ≤ most → cl.length ≤ most → Q (.ref t) H') : spParts [.ref d, vn most] H Q E :=
  ⟨d, most, cs, rfl, h0, h1, hd, hcs, fun t tp cp m lt tk cl H' n S hP l1 l2 => by
    obtain ⟨cs', hd', hc'⟩ := S.at_
    exact k t tp cp m lt tk cl H' cs' n S.but hd' hc' hP l1 l2⟩
theorem h_partsL {most : Nat} (hd : H d = some (.lst cs)) (hcs : DSt cs) (h0 : 0 < most) (h1 : most ≤ 12) (k : ∀ (t tp cp : Addr) (m lt : Nat) (tk cl : List Nat) H' cs', H t = none → But d H H' → H' d = some (.lst cs') → DSt cs' → PartsAt H' t m tp tk cp cl lt → tk.length ≤ (OfNat.ofNat most : Nat) → cl.length ≤ (OfNat.ofNat most : Nat) → Q (.ref t) H') : spParts [.ref d, .int (OfNat.ofNat most : Int)] H Q E := h_parts (most := most) hd hcs h0 h1 k
theorem h_small (hd : H d = some (.lst cs)) (hcs : DSt cs) (k : ∀ (t tp cp : Addr) (m lt : Nat) (tk cl : List Nat) H' cs', H t = none → But d H H' → H' d = some (.lst cs') → DSt cs' → PartsAt H' t m tp tk cp cl lt → m ≤ 10 → tk.length ≤ 3 → cl.length ≤ 3 → lt ≤ 5 → Q (.ref t) H') : spSmall [.ref d] H Q E :=
  ⟨d, cs, rfl, hd, hcs, fun t tp cp m lt tk cl H' n S hP m1 l1 l2 l3 => by
    obtain ⟨cs', hd', hc'⟩ := S.at_
    exact k t tp cp m lt tk cl H' cs' n S.but hd' hc' hP m1 l1 l2 l3⟩
theorem h_tick (hd : H d = some (.lst cs)) (hcs : DSt cs) (k : ∀ (t : Nat) H' cs', t ≤ 1000000000000000000 → But d H H' → H' d = some (.lst cs') → DSt cs' → Q (vn t) H') : spTickD [.ref d] H Q E :=
  ⟨d, cs, rfl, hd, hcs, fun t H' S ht => by
    obtain ⟨cs', hd', hc'⟩ := S.at_
    exact k t H' cs' ht S.but hd' hc'⟩
end Rd
end Tk

/-! ### tuple.count, xs[::-1] -/
namespace Tk
open PySem PySem.Spec PyProof.Rows L2
namespace Cn
section
variable {X : Cx}
/-- tuple.count of a flat item -/
def rCntT (K : PySem.W.Frag) : V → List V → Hp → VK → Prop := fun x xs H Q => ∃ (p : Addr) (ys : List V) (y : V), x = .ref p ∧ xs = [y] ∧ SqT K H p ys ∧ flatV y = true ∧ ys.all flatV = true ∧ Q (.int (ys.countP (fun z => eqV z y) : Nat)) H
theorem counted {y : V} {uy : Value} (ry : RelV y uy) (fy : flatV y = true) : ∀ {ys : List V} {its : List Value}, Vals ys its → ys.all flatV = true → its.countP (eqU y) = ys.countP (fun z => eqV z y)
  | _, _, .nil, _ => rfl
  | z :: zs, u :: us, .cons rz rt, f => by
    obtain ⟨f1, f2⟩ := He.ba (show (flatV z && zs.all flatV) = true from f)
    rw [List.countP_cons, List.countP_cons, counted ry fy rt f2, eqU_of rz f1]
theorem mt_countT {K : PySem.W.Frag} (hK : X.K = K := by rfl) : MtR X "tuple.count" (rCntT K) := by
  subst hK
  intro pins s σ H x xs v us Q I rx rxs h
  obtain ⟨p, ys, y, rfl, rfl, hs, fy, fys, q⟩ := h
  cases rx
  cases rxs with
  | cons ry rt =>
    rename_i uy ut
    cases rt
    obtain ⟨its, rv, ⟨⟨cls, dd, data, sl⟩, ho, hc, n, hd⟩, hlen⟩ := I.tuple hs
    simp only at hc hd
    subst hc hd
    refine call_meets PySem.F.slot_tuple_count ⟨_, ho, rfl⟩ PySem.F.entry_tuple_count (PySem.F.args_tuple_count_2 _ _)
      (SeqAt.tuple_countAt p its.toArray n dd sl uy (eqU y)) ⟨ho, fun u' hu' => mem_eqAt ry fy rv fys u' (by simpa using hu'), ?_⟩
    have ec : its.toArray.toList.countP (eqU y) = ys.countP (fun z => eqV z y) := counted ry fy rv fys
    refine ⟨.int (ys.countP (fun z => eqV z y) : Nat), H, I.tok _, ⟨s.toks, ?_⟩, q⟩
    show Value.int ((its.toArray.toList.countP (eqU y) : Nat) : Int) s.toks = Value.int ((ys.countP (fun z => eqV z y) : Nat) : Int) s.toks
    rw [ec]
/-- a built-in method inside a comprehension -/
theorem pe_bmK {K : PySem.W.Frag} {T : String} {name : Str} {id : String} {r : V → List V → Hp → VK → Prop} {o e : Expr} {es : List Expr} {to : TE} {t : TA} {apos cpos : Pos} (pa : PlainAttrs T) (slot : Slot T name id) (hty : typeOf (.builtin id) = pure (.type "method_descriptor")) (hm : MtR X id r) (ho : PE X o to) (ha : PA X (e :: es) t)
    (hK : X.K = K := by rfl) (hbase : attributeBase o name X.env (eval o X.env) = eval o X.env := by rfl)
    (hfew : ((backTo cpos (starEach (e :: es) X.env)).all (fun x => !x.1) && (backToKw cpos (keywordEach [] X.env)).all (fun x => x.1.isSome)
      && decide ((e :: es).length + ([] : List Keyword).length + (if ([] : List Keyword).isEmpty then 0 else 1) < 30)) = true := by rfl)
    (hline : (apos.endLine == cpos.line) = true := by rfl) (hs : starEach (e :: es) X.env = (false, eval e X.env) :: starEach es X.env := by rfl) (hplain : (backTo cpos (starEach es X.env)).any (·.1) = false := by rfl) :
    PE X (.Call (.Attribute o name apos) (e :: es) [] cpos) (tBM K T r to t) := by
  subst hK
  exact pe_bm pa slot hty hm ho ha hbase hfew hline hs hplain
/-- a tuple whose object is known not to have a dict -/
def FzT (H : Hp) (a : Addr) (xs : List V) : Prop := ∃ o : Obj, H a = some (.frz o (.tup xs)) ∧ o.dict = none
theorem FzT.sq {K : PySem.W.Frag} {H : Hp} {a : Addr} {xs : List V} (h : FzT H a xs) : SqT K H a xs := h.elim fun o z => .inl (.inr ⟨o, z.1⟩)
theorem FzT.same {H H' : Hp} {a : Addr} {xs : List V} (h : FzT H a xs) (S : Same H H') : FzT H' a xs := h.elim fun o z => ⟨o, S _ _ z.1, z.2⟩
theorem FzT.but {H H' : Hp} {a d : Addr} {xs : List V} (h : FzT H a xs) (B : But d H H') (n : a ≠ d) : FzT H' a xs := h.elim fun o z => ⟨o, B _ _ n z.1, z.2⟩
theorem FzT.nel {H : Hp} {a d : Addr} {xs ys : List V} (h : FzT H a xs) (hd : H d = some (.lst ys)) : a ≠ d := fun e => by
  obtain ⟨o, z, _⟩ := h
  rw [e, hd] at z
  cases z
/-- a display -/
def tTupF (t : TA) : TE := fun σ H Q => t σ H fun xs H1 => xs.length ≤ sizeLine ∧ ∀ (p : Addr) (o : Obj), H1 p = none → o.dict = none → Q (.ref p) (upd H1 p (.frz o (.tup xs)))
theorem pe_tupF {es : List Expr} {t : TA} {pos : Pos} {x1} (h : PA X es t) : PE X (.Tuple es x1 pos) (tTupF t) := by
  refine ⟨fun pins s σ H Q I hq => ?_⟩
  refine wpAny_Tuple_spliced (thn (h.run pos pins s σ H _ I hq) fun us s1 ⟨xs, H1, I1, r, z, q⟩ => ⟨by rw [← r.length]; exact z, ?_⟩)
  have free : H1 s1.heap.objs.size = none := I1.hok.fresh (Nat.le_refl _)
  exact ⟨.ref s1.heap.objs.size, upd H1 s1.heap.objs.size (.frz _ (.tup xs)), I1.laid (t' := s1.toks) (fun b u e => Heap.get?_push_of_some _ e) (Nat.le_refl _) ⟨Heap.get?_push_size _ rfl, z, us, r, ⟨_, Heap.get?_push_size _ rfl, rfl, _, rfl⟩⟩, rfl, q _ _ free rfl⟩
/-- a sum -/
def rCatF (K : PySem.W.Frag) : R2 := fun x y H Q => ∃ a b xs ys, x = .ref a ∧ y = .ref b ∧ SqT K H a xs ∧ SqT K H b ys ∧ xs.length + ys.length ≤ sizeLine ∧
  (xs = [] → Q (.ref b) H) ∧ (xs ≠ [] → ys = [] → Q (.ref a) H) ∧ (xs ≠ [] → ys ≠ [] → ∀ (p : Addr) (o : Obj), H p = none → o.dict = none → Q (.ref p) (upd H p (.frz o (.tup (xs ++ ys)))))
theorem op_catF {K : PySem.W.Frag} (hK : X.K = K := by rfl) : OpR X (binaryOp .Add) (rCatF K) := by
  subst hK
  intro pins s σ H x y v u Q I rx ry h
  obtain ⟨a, b, xs, ys, rfl, rfl, ha, hb, hz, q0, q1, q2⟩ := h
  cases rx
  cases ry
  obtain ⟨its, r1, p1, _⟩ := I.tuple ha
  obtain ⟨its2, r2, p2, _⟩ := I.tuple hb
  by_cases hx : xs = []
  · subst hx
    cases r1
    exact cat_tup0 p1 p2 ⟨.ref b, H, I, rfl, q0 rfl⟩
  · refine HT.cat_tup p1 p2 (fun z => hx (r1.nil_iff.mp z)) (fun z => ⟨.ref a, H, I, rfl, q1 hx (r2.nil_iff.mp z)⟩) (fun z => ?_) (by rw [← r1.length, ← r2.length]; exact hz)
    exact ⟨.ref s.heap.objs.size, upd H s.heap.objs.size (.frz _ (.tup (xs ++ ys))), I.laid (t' := s.toks) (fun b ob q => Heap.get?_push_of_some _ q) (Nat.le_refl _) ⟨Heap.get?_push_size _ rfl, by rw [List.length_append]; exact hz, _, r1.append r2, IsTup.new _ _⟩, rfl, q2 hx (fun w => z (r2.nil_iff.mpr w)) _ _ (I.hok.fresh (Nat.le_refl _)) rfl⟩
/-- t.count(x) -/
def tCntF (K : PySem.W.Frag) (te : TE) (t : TA) : TE := fun σ H Q => te σ H fun x H1 => ∃ p ys, x = .ref p ∧ FzT H1 p ys ∧ t σ H1 fun xs H2 => rCntT K (.ref p) xs H2 Q
theorem pe_cntF {K : PySem.W.Frag} {o e : Expr} {to : TE} {t : TA} {apos cpos : Pos} (ho : PE X o to) (ha : PA X [e] t)
    (hK : X.K = K := by rfl) (hbase : attributeBase o "count" X.env (eval o X.env) = eval o X.env := by rfl)
    (hfew : ((backTo cpos (starEach [e] X.env)).all (fun x => !x.1) && (backToKw cpos (keywordEach [] X.env)).all (fun x => x.1.isSome)
      && decide (([e] : List Expr).length + ([] : List Keyword).length + (if ([] : List Keyword).isEmpty then 0 else 1) < 30)) = true := by rfl)
    (hline : (apos.endLine == cpos.line) = true := by rfl) (hs : starEach [e] X.env = (false, eval e X.env) :: starEach [] X.env := by rfl) :
    PE X (.Call (.Attribute o "count" apos) [e] [] cpos) (tCntF K to t) := by
  subst hK
  refine ⟨fun pins s σ H Q I h => ?_⟩
  refine wpAny_Call_method_late hbase hfew hline rfl (thn (ho.run pins s σ H _ I h) fun v s1 ⟨x, H1, I1, r1, p, ys, ex, ⟨ob, hob, hdict⟩, q1⟩ => ?_)
  subst ex
  obtain rfl : v = Value.ref p := r1
  obtain ⟨hget, _, its, _, o2, he2, hc2, _⟩ := I1.hok p _ hob
  have hcls : ob.cls = .type "tuple" := by
    have : ob = o2 := Option.some.inj (hget.symm.trans he2)
    rw [this]
    exact hc2
  refine ⟨"tuple", _, PySem.F.plainAttrs_tuple, PySem.F.slot_tuple_count, PySem.F.type_tuple_count, ⟨ob, hget, hcls⟩, fun a e => ?_, ?_⟩
  · cases e
    exact ⟨ob, hget, hdict⟩
  have hA := ha.run cpos pins s1 σ H1 _ I1 q1
  rw [hs] at hA ⊢
  refine Calls.callWith_builtin (by rfl) (Calls.evalArgs_plain ?_)
  exact thn hA fun us s2 ⟨vs, H2, I2, r2, q2⟩ => mt_countT rfl pins s2 σ H2 (.ref p) vs (.ref p) us Q I2 rfl r2 q2
/-- xs[::-1] of a list -/
def tRev (K : PySem.W.Frag) (te : TE) (ts : TO) : TE := fun σ H Q => te σ H fun x H1 => ts σ H1 fun st H2 => st = some (-1) ∧ ∃ a xs, x = .ref a ∧ SqL K H2 a xs ∧ ∀ p, H2 p = none → Q (.ref p) (upd H2 p (.lst xs.reverse))
theorem vals_reverse {xs : List V} {us : List Value} (h : Vals xs us) : Vals xs.reverse us.reverse := by
  induction h with
  | nil => exact .nil
  | cons r _ ih =>
    rw [List.reverse_cons, List.reverse_cons]
    exact ih.append (.cons r .nil)
theorem pe_rev {K : PySem.W.Frag} {e st : Expr} {te : TE} {ts : TO} {p2 pos : Pos} (he : PE X e te) (hst : PO X (some st) ts) (hK : X.K = K := by rfl) (hso : ∀ u v, subscripted (.Slice none none (some st) p2) false u v = operate [u, v] (getItem u v) := by intro _ _; with_unfolding_all rfl) : PE X (.Subscript e (.Slice none none (some st) p2) pos) (tRev K te ts) := by
  subst hK
  refine ⟨fun pins s σ H Q I h => ?_⟩
  refine Subscript_ (thn (he.run pins s σ H _ I h) fun v s1 ⟨x, H1, I1, r1, q1⟩ => ?_)
  refine wpAny_Slice ?_
  rw [evalPart_none]
  refine wpAny_pure (wpAny_pure ?_)
  refine thn (hst.run pins s1 σ H1 _ I1 q1) fun vk s3 ⟨u, H3, I3, pk, eu, a, xs, ex, hx, q⟩ => ?_
  subst eu ex
  cases r1
  have I4 : Inv X pins σ H3 { s3 with heap := s3.heap.push { cls := .type "slice", data := .fields #[.none, .none, vk] } } := I3.kept (t' := s3.toks) fun b ob q => Heap.get?_push_of_some _ q
  obtain ⟨its, r, ht, hz⟩ := I4.list hx
  have hlen := r.length
  have hg : wpAny (model X.prog X.w) X.A (getItem (.ref a) (.ref s3.heap.objs.size)) (EP X pins σ Q) X.xe { s3 with heap := s3.heap.push { cls := .type "slice", data := .fields #[.none, .none, vk] } } := by
    refine wpAny_getItem_list_slice ht.isList (Heap.IsSliceOf.new ..) .none .none pk (by decide) ?_ (by rw [List.size_toArray] <;> omega)
    rw [PySem.W.krv_pick]
    refine ⟨.ref (s3.heap.push { cls := .type "slice", data := .fields #[.none, .none, vk] }).objs.size, _, I4.laid (t' := s3.toks) (o := .lst xs.reverse) (fun b ob q => Heap.get?_push_of_some _ q) (Nat.le_refl _) ?_, rfl, q _ (I4.hok.fresh (Nat.le_refl _))⟩
    exact ⟨by rw [List.length_reverse]; exact hz, _, 0, vals_reverse r, Heap.get?_push_size _ rfl⟩
  show wpAny (model X.prog X.w) X.A (subscriptTail e (.Slice none none (some st) p2) (.ref a) (.ref s3.heap.objs.size)) (EP X pins σ Q) X.xe { s3 with heap := s3.heap.push { cls := .type "slice", data := .fields #[.none, .none, vk] } }
  exact tail_any (ops := [.ref a, .ref s3.heap.objs.size]) ht.isList.typeIs slot_list_getitem.lookup hg (hso _ _)
end
end Cn
namespace Rd
variable {K : PySem.W.Frag} {σ : L2.St} {H : Hp} {Q : VK} {te : TE} {ts : TO}
/-- how often a number stands in a tuple of numbers -/
theorem cntT {a : Addr} {ns : List Nat} {i : Nat} (hq : SqT K H a (ns.map vn)) (k : Q (vn (ns.count i)) H) : Cn.rCntT K (.ref a) [vn i] H Q := by
  refine ⟨a, _, _, rfl, rfl, hq, rfl, ?_, ?_⟩
  · rw [List.all_map]
    exact List.all_eq_true.mpr fun _ _ => rfl
  · have e : (ns.map vn).countP (fun z => eqV z (vn i)) = ns.count i := by
      rw [List.countP_map]
      unfold List.count
      congr 1
      funext n
      show ((n : Int) == (i : Int)) = (n == i)
      rw [Bool.eq_iff_iff]
      simp only [beq_iff_eq]
      omega
    rw [e]
    exact k
/-- () -/
theorem tup0F (k : ∀ p H', H p = none → Same H H' → Cn.FzT H' p [] → Q (.ref p) H') : Cn.tTupF tNil σ H Q :=
  ⟨by show 0 ≤ sizeLine; decide, fun p o np ho => k p _ np (Same.nw np (Same.refl H)) ⟨o, upd_same, ho⟩⟩
/-- t.count(i) -/
theorem cntF {i j r n : Nat} {pl : List Nat} (hi : σ[i]? = some (some (.ref r))) (hj : σ[j]? = some (some (vn n))) (hr : Cn.FzT H r (pl.map vn)) (k : Q (vn (pl.count n)) H) : Cn.tCntF K (tVar i) (tCons (tVar j) tNil) σ H Q :=
  ⟨.ref r, hi, r, _, rfl, hr, vn n, hj, cntT (ns := pl) (i := n) hr.sq k⟩
/-- t + (x,) -/
theorem snoc {i j r x : Nat} {pl : List Nat} (hi : σ[i]? = some (some (.ref r))) (hj : σ[j]? = some (some (vn x))) (hr : Cn.FzT H r (pl.map vn)) (hl : pl.length ≤ 900) (k : ∀ p H', H p = none → Same H H' → Cn.FzT H' p ((pl ++ [x]).map vn) → Q (.ref p) H') :
    tOp (Cn.rCatF K) (tVar i) (Cn.tTupF (tCons (tVar j) tNil)) σ H Q := by
  refine ⟨.ref r, hi, vn x, hj, by show 1 ≤ sizeLine; decide, fun q o nq ho => ?_⟩
  have S1 : Same H (upd H q (.frz o (.tup [vn x]))) := Same.nw nq (Same.refl H)
  have hq : Cn.FzT (upd H q (.frz o (.tup [vn x]))) q [vn x] := ⟨o, upd_same, ho⟩
  refine ⟨r, q, pl.map vn, [vn x], rfl, rfl, (hr.same S1).sq, hq.sq, Nat.le_trans (m := 1000) (by rw [List.length_map]; show pl.length + 1 ≤ 1000; omega) (by decide), fun e => ?_, fun _ e => (by cases e), fun _ _ p o2 np ho2 => ?_⟩
  · have e : pl = [] := List.map_eq_nil_iff.mp e
    subst e
    exact k q _ nq S1 hq
  · refine k p _ (S1.free np) (S1.trans (Same.nw np (Same.refl _))) ⟨o2, ?_, ho2⟩
    rw [upd_same, List.map_append]
    rfl
theorem rev (k : te σ H fun x H1 => ts σ H1 fun st H2 => st = some (-1) ∧ ∃ a xs, x = .ref a ∧ SqL K H2 a xs ∧ ∀ p, H2 p = none → Q (.ref p) (upd H2 p (.lst xs.reverse))) : Cn.tRev K te ts σ H Q := k
end Rd
end Tk

/-! ### Lists of tuples of numbers; a comprehension by two walks, the second one over a range with a test -/
namespace Tk
open PySem PySem.Spec PyProof.Rows L2 Mm
/-- a plan; plans -/
def PlV (H : Hp) (v : V) (pl : List Nat) : Prop := ∃ r, v = .ref r ∧ Cn.FzT H r (pl.map vn)
inductive PlA (H : Hp) : List V → List (List Nat) → Prop
  | nil : PlA H [] []
  | cons {v : V} {vs : List V} {p : List Nat} {ps : List (List Nat)} : PlV H v p → PlA H vs ps → PlA H (v :: vs) (p :: ps)
theorem PlV.same {H H' : Hp} {v : V} {p : List Nat} (h : PlV H v p) (S : Same H H') : PlV H' v p := h.elim fun r z => ⟨r, z.1, z.2.same S⟩
theorem PlA.same {H H' : Hp} {vs : List V} {ps : List (List Nat)} (h : PlA H vs ps) (S : Same H H') : PlA H' vs ps := by
  induction h with
  | nil => exact .nil
  | cons a _ ih => exact .cons (a.same S) ih
theorem PlA.but {H H' : Hp} {vs ys : List V} {ps : List (List Nat)} {d : Addr} (h : PlA H vs ps) (B : But d H H') (hd : H d = some (.lst ys)) : PlA H' vs ps := by
  induction h with
  | nil => exact .nil
  | cons a _ ih =>
    obtain ⟨r, e, z⟩ := a
    exact .cons ⟨r, e, z.but B (z.nel hd)⟩ ih
theorem plA_len {H : Hp} {vs : List V} {ps : List (List Nat)} (h : PlA H vs ps) : vs.length = ps.length := by
  induction h with
  | nil => rfl
  | cons _ _ ih => rw [List.length_cons, List.length_cons, ih]
theorem plA_app {H : Hp} {vs us : List V} {ps qs : List (List Nat)} (h : PlA H vs ps) (g : PlA H us qs) : PlA H (vs ++ us) (ps ++ qs) := by
  induction h with
  | nil => exact g
  | cons a _ ih => exact .cons a ih
theorem plA_get {H : Hp} {xs : List V} {pls : List (List Nat)} (h : PlA H xs pls) {i : Nat} {x : V} (hx : xs[i]? = some x) : ∃ r pl, pls[i]? = some pl ∧ x = .ref r ∧ Cn.FzT H r (pl.map vn) := by
  induction h generalizing i with
  | nil => cases hx
  | cons a _ ih =>
    cases i with
    | zero =>
      cases hx
      obtain ⟨r, e, z⟩ := a
      exact ⟨r, _, rfl, e, z⟩
    | succ i => exact ih hx
theorem plA_rev {H : Hp} {xs : List V} {pls : List (List Nat)} (h : PlA H xs pls) : PlA H xs.reverse pls.reverse := by
  induction h with
  | nil => exact .nil
  | cons a _ ih =>
    rw [List.reverse_cons, List.reverse_cons]
    exact plA_app ih (.cons a .nil)
theorem plA_of {H : Hp} : ∀ {xs : List V} {n : Nat} (g : Nat → List Nat), xs.length = n → (∀ (i : Nat) x, xs[i]? = some x → PlV H x (g i)) → PlA H xs ((List.range n).map g)
  | xs, 0, g, hl, _ => by
    obtain rfl := List.length_eq_zero_iff.mp hl
    exact .nil
  | xs, n + 1, g, hl, h => by
    obtain ⟨ys, y, rfl⟩ : ∃ ys y, xs = ys ++ [y] := ⟨xs.dropLast, xs.getLast (by intro e; rw [e] at hl; cases hl), (List.dropLast_concat_getLast _).symm⟩
    have hl2 : ys.length = n := by simpa using hl
    rw [List.range_succ, List.map_append]
    refine plA_app (plA_of g hl2 fun i x hx => h i x ?_) (.cons (h n y ?_) .nil)
    · rw [List.getElem?_append_left (List.getElem?_eq_some_iff.mp hx).1]
      exact hx
    · rw [← hl2, List.getElem?_append_right (Nat.le_refl _)]
      simp
theorem PlV.dp {K : PySem.W.Frag} {H : Hp} {v : V} {p : List Nat} (h : PlV H v p) : L2.Dp K H v (.tuple (p.map dN)) := by
  obtain ⟨r, rfl, z⟩ := h
  exact .tup z.sq (dp_nats p)
namespace Rd
variable {K : PySem.W.Frag} {σ : L2.St} {H : Hp} {Q : VK} {te : TE} {tt tt1 : L2.TT}
/-- [e for x in a list for y in range(lo, hi) if t] -/
theorem lc2_lst {a : Addr} {xs : List V} {i1 i2 N : Nat} {wi1 : TI} {vs vs1 : List Nat} (lo n : Nat → Nat) (c : Nat → Nat → Bool) (f : Nat → Nat → List Nat) (ha : SqL K H a xs)
    (hN : ((List.range xs.length).flatMap fun i => ((List.range (n i)).filter (c i)).map (f i)).length ≤ N) (hN2 : N ≤ 100000)
    (hw1 : ∀ v : V, wipe ((wipe σ vs).set i1 (some v)) vs = wipe σ vs) (hw2 : ∀ v u : V, wipe ((wipe ((wipe σ vs).set i1 (some v)) vs1).set i2 (some u)) vs1 = wipe ((wipe σ vs).set i1 (some v)) vs1)
    (hi : ∀ (i : Nat) x, xs[i]? = some x → ∀ H', Same H H' → ∀ R : It → Hp → Prop, (∀ H'', Same H' H'' → R (Itr (lo i : Nat) (n i)) H'') → wi1 ((wipe σ vs).set i1 (some x)) H' R)
    (ht : ∀ (i : Nat) x (j : Nat), xs[i]? = some x → j < n i → ∀ H', Same H H' → ∀ Q' : Bool → Hp → Prop, (∀ H'', Same H' H'' → Q' (c i j) H'') → tt1 ((wipe ((wipe σ vs).set i1 (some x)) vs1).set i2 (some (vn (lo i + j)))) H' Q')
    (he : ∀ (i : Nat) x (j : Nat), xs[i]? = some x → j < n i → c i j = true → ∀ H' D, H D = none → Same H H' → H' D ≠ none → ∀ Q' : VK, (∀ y H'', Same H' H'' → (∀ Hx, But D H'' Hx → PlV Hx y (f i j)) → Q' y H'') → te ((wipe ((wipe σ vs).set i1 (some x)) vs1).set i2 (some (vn (lo i + j)))) H' Q')
    (k : ∀ D ys H', H D = none → Same H H' → H' D = some (.lst ys) → PlA H' ys ((List.range xs.length).flatMap fun i => ((List.range (n i)).filter (c i)).map (f i)) → Q (.ref D) H') :
    lc2K (gName i1) tYes wi1 (gName i2) tt1 te vs vs1 σ Q (Itl K a) H := fun D hD => by
  let G : Nat → List (List Nat) := fun i => ((List.range (n i)).filter (c i)).map (f i)
  let P : List (List Nat) → Hp → Prop := fun ds H2 => ∃ ys : List V, Same H H2 ∧ H2 D = some (.lst ys) ∧ ∀ Hx, But D H2 Hx → PlA Hx ys ds
  have key : ∀ (ds : List (List Nat)) (H2 : Hp) (ys : List V), (∀ Hx, But D H2 Hx → PlA Hx ys ds) → ys.length = ds.length := fun ds H2 ys h => plA_len (h H2 fun _ _ _ e => e)
  have stp : ∀ {Ha Hb : Hp}, Same Ha Hb → ∀ {Hx : Hp}, But D Hb Hx → But D Ha Hx := fun S _ b p o ne e => b p o ne (S _ _ e)
  refine ⟨fun i m H2 => m = xs.length - i ∧ i ≤ xs.length ∧ P ((List.range i).flatMap G) H2, ⟨xs.length, by simp, Nat.zero_le _, [], Same.nw hD (Same.refl H), upd_same, fun _ _ => .nil⟩, ?_⟩
  rintro i m H2 ⟨rfl, hin, ys, S2, h2, d2⟩
  by_cases hlt : i < xs.length
  · have hx : xs[i]? = some xs[i] := List.getElem?_eq_getElem hlt
    refine .inr ⟨⟨xs, xs[i], S2.seq ha, by simp [hlt]⟩, P ((List.range (i + 1)).flatMap G), fun H' p' => ⟨xs.length - (i + 1), by omega, rfl, hlt, p'⟩, fun x H' y => ?_⟩
    obtain ⟨e, y⟩ := y
    subst e
    obtain rfl : xs[i] = x := by
      have := y _ (S2.seq ha)
      rw [hx] at this
      exact Option.some.inj this
    refine ⟨hw1 _, yes (ift (hi i _ hx _ S2 _ fun H3 S3 => ?_))⟩
    refine ⟨fun j k H4 => k = n i - j ∧ j ≤ n i ∧ P ((List.range i).flatMap G ++ ((List.range j).filter (c i)).map (f i)) H4, ⟨n i, by simp, Nat.zero_le _, ys, S2.trans S3, S3 _ _ h2, fun Hx b => by
      rw [List.range_zero, List.filter_nil, List.map_nil, List.append_nil]
      exact d2 Hx (stp S3 b)⟩, ?_⟩
    rintro j k H4 ⟨rfl, hj, ys4, S4, h4, d4⟩
    have e1 : (List.range (j + 1)).filter (c i) = (List.range j).filter (c i) ++ if c i j = true then [j] else [] := by
      rw [List.range_succ, List.filter_append]
      congr 1
      by_cases h : c i j = true <;> simp [h]
    by_cases hjl : j < n i
    · refine .inr ⟨hjl, P ((List.range i).flatMap G ++ ((List.range (j + 1)).filter (c i)).map (f i)), fun H' p' => ⟨_, Nat.sub_lt_sub_left hjl (Nat.lt_succ_self j), rfl, hjl, p'⟩, fun x H' y => ?_⟩
      obtain ⟨e, y⟩ := y
      subst e y
      have ev : V.int (((lo i : Nat) : Int) + (j : Int)) = vn (lo i + j) := vn_int (by omega)
      rw [ev]
      refine ⟨hw2 _ _, ht i _ j hx hjl _ S4 _ fun H5 S5 => bb (fun hc => ?_) (fun hc => ?_)⟩
      · refine he i _ j hx hjl hc H5 D hD (S4.trans S5) (by rw [S5 _ _ h4]; simp) _ fun y H6 S6 hy => ⟨ys4, S6 _ _ (S5 _ _ h4), ?_, ys4 ++ [y], fun b o e => ?_, upd_same, fun Hx b => ?_⟩
        · have e := key _ _ _ d4
          have le : ((List.range i).flatMap G ++ ((List.range j).filter (c i)).map (f i)).length ≤ ((List.range xs.length).flatMap G).length := by
            obtain ⟨r, hr⟩ : ∃ r, xs.length = i + 1 + r := ⟨xs.length - (i + 1), by omega⟩
            rw [hr, List.range_add, List.flatMap_append, List.range_succ, List.flatMap_append, List.length_append, List.length_append, List.length_append]
            simp only [List.flatMap_cons, List.flatMap_nil, List.append_nil]
            have l2 : (((List.range j).filter (c i)).map (f i)).length ≤ (G i).length := by
              show _ ≤ (((List.range (n i)).filter (c i)).map (f i)).length
              rw [List.length_map, List.length_map]
              obtain ⟨r2, hr2⟩ : ∃ r2, n i = j + r2 := ⟨n i - j, by omega⟩
              rw [hr2, List.range_add, List.filter_append, List.length_append]
              omega
            omega
          exact Nat.lt_of_le_of_lt (m := 100000) (by have hN' : ((List.range xs.length).flatMap G).length ≤ N := hN; omega) (by decide)
        · rw [upd_ne (ne_of_none e hD)]
          exact S6 _ _ (S5 _ _ (S4 _ _ e))
        · have b6 : But D H6 Hx := fun p o ne e => b p o ne (by rw [upd_ne ne]; exact e)
          rw [e1, if_pos hc, List.map_append, ← List.append_assoc]
          exact plA_app (d4 Hx (stp (S5.trans S6) b6)) (.cons (hy Hx b6) .nil)
      · refine ⟨ys4, S4.trans S5, S5 _ _ h4, fun Hx b => ?_⟩
        rw [e1, if_neg (by rw [hc]; decide), List.append_nil]
        exact d4 Hx (stp S5 b)
    · have e : j = n i := by omega
      subst e
      refine .inl ⟨Nat.le_refl _, ys4, S4, h4, fun Hx b => ?_⟩
      have := d4 Hx b
      rw [List.range_succ, List.flatMap_append]
      simpa using this
  · have e : i = xs.length := by omega
    subst e
    exact .inl ⟨⟨xs, S2.seq ha, Nat.le_refl _⟩, k D ys H2 hD S2 h2 (d2 _ fun _ _ _ e => e)⟩
end Rd
end Tk

/-! ### Counts that repeat -/
namespace Tk
open PySem PySem.Spec PyProof.Rows L2 Mm
structure Per (p : Nat) (f : Nat → Nat) : Prop where
  p0 : 0 < p
  p144 : p ≤ 144
  step : ∀ t, p ≤ t → f (t + p) + f p = f t + f (2 * p)
  up : f p ≤ f (2 * p)
  bd : f (2 * p) ≤ 100000
theorem Per.far {p : Nat} {f : Nat → Nat} (h : Per p f) {t : Nat} (ht : p ≤ t) : ∀ k, f (t + k * p) = f t + k * (f (2 * p) - f p)
  | 0 => by simp
  | k + 1 => by
    have ih := h.far ht k
    have q := h.step (t + k * p) (by omega)
    have u := h.up
    rw [Nat.succ_mul, Nat.succ_mul, ← Nat.add_assoc]
    omega
theorem tak_per (p : Nat) {tk : List Nat} (h : tk.length ∣ p) (h0 : 0 < p) (h144 : p ≤ 144) (h9 : ∀ x ∈ tk, x ≤ 9) : Per p (tak tk) where
  p0 := h0
  p144 := h144
  step := fun t ht => by
    have h1 := tak_add (tk := tk) p h t
    have h2 := tak_add (tk := tk) p h p
    rw [show p + p = 2 * p by omega] at h2
    omega
  up := tak_mono (by omega)
  bd := by
    have := tak_le h9 (2 * p)
    omega
theorem cal_Per {tk cl : List Nat} (h1 : Pat tk) (h2 : Pat cl) : Per (per tk cl) (cal tk cl) where
  p0 := per_pos h1.pos h2.pos
  p144 := per_144 h1 h2
  step := fun t ht => cal_per (per_pos h1.pos h2.pos) per_tk per_cl ht
  up := cal_mono (by omega)
  bd := by
    have a := tak_le h1.nine (2 * per tk cl)
    have b := cal_le (tk := tk) (cl := cl) (2 * per tk cl)
    have c := per_144 h1 h2
    omega
end Tk

/-! ### Waits -/
namespace Mm
section
variable {tk cl : List Nat} {p : Nat}
/-- the tick in which n is reached -/
def Tk (F : Nat → Nat) (n T : Nat) : Prop := F T ≤ n ∧ n < F (T + 1)
theorem Tk.uniq {F : Nat → Nat} (mono : ∀ {a b : Nat}, a ≤ b → F a ≤ F b) {n T T' : Nat} (h : Tk F n T) (h' : Tk F n T') : T = T' := by
  rcases Nat.lt_trichotomy T T' with z | z | z
  · have := mono (show T + 1 ≤ T' by omega)
    have := h.2
    have := h'.1
    omega
  · exact z
  · have := mono (show T' + 1 ≤ T by omega)
    have := h'.2
    have := h.1
    omega
theorem Tk.le {F : Nat → Nat} (mono : ∀ {a b : Nat}, a ≤ b → F a ≤ F b) {n T t : Nat} (h : Tk F n T) (h' : n < F (t + 1)) : T ≤ t := by
  rcases Nat.lt_or_ge t T with z | z
  · have := mono (show t + 1 ≤ T by omega)
    have := h.1
    omega
  · exact z
theorem Tk.ge {F : Nat → Nat} (mono : ∀ {a b : Nat}, a ≤ b → F a ≤ F b) {n T t : Nat} (h : Tk F n T) (h' : F t ≤ n) : t ≤ T := by
  rcases Nat.lt_or_ge T t with z | z
  · have := mono (show T + 1 ≤ t by omega)
    have := h.2
    omega
  · exact z
/-- the first tick below b in which more than n are reached -/
theorem Tk.ex {F : Nat → Nat} (h0 : F 0 = 0) {n : Nat} : ∀ {b : Nat}, n < F b → ∃ T, T < b ∧ Tk F n T
  | 0, h => by omega
  | b + 1, h => by
    by_cases q : n < F b
    · obtain ⟨T, h1, h2⟩ := Tk.ex h0 q
      exact ⟨T, by omega, h2⟩
    · exact ⟨b, by omega, by omega, h⟩
variable (hp : 0 < p) (ht : tk.length ∣ p) (hc : cl.length ∣ p)
include ht hc in
theorem cal_up (t : Nat) : cal tk cl (t + p) ≤ cal tk cl t + tak tk p := by
  have h1 := wt_up (tk := tk) (cl := cl) ht hc t
  have h2 := wt_cal (tk := tk) (cl := cl) t
  have h3 := wt_cal (tk := tk) (cl := cl) (t + p)
  have h4 := tak_add p ht t
  omega
include ht hc in
theorem cal_same (gz : wt tk cl (p + 1) = wt tk cl (p + 1 + p)) {t : Nat} (h : p + 1 ≤ t) : cal tk cl (t + p) = cal tk cl t + tak tk p := by
  have h1 := wt_same ht hc gz t h
  have h2 := wt_cal (tk := tk) (cl := cl) t
  have h3 := wt_cal (tk := tk) (cl := cl) (t + p)
  have h4 := tak_add p ht t
  omega
include ht hc in
theorem cal_same_k (gz : wt tk cl (p + 1) = wt tk cl (p + 1 + p)) : ∀ k, cal tk cl (p + 1 + k * p) = cal tk cl (p + 1) + k * tak tk p
  | 0 => by simp
  | k + 1 => by
    have ih := cal_same_k gz k
    have h := cal_same ht hc gz (t := p + 1 + k * p) (by omega)
    rw [Nat.succ_mul, Nat.succ_mul, ← Nat.add_assoc, h, ih]
    omega
include ht hc in
theorem per_calls (gz : wt tk cl (p + 1) = wt tk cl (p + 1 + p)) (hp : 0 < p) : cal tk cl (2 * p) = cal tk cl p + tak tk p := by
  have h1 := cal_same ht hc gz (t := p + 1) (Nat.le_refl _)
  have h2 := cal_per hp ht hc (t := p + 1) (by omega)
  omega
/-- W is the longest wait -/
structure Long (tk cl : List Nat) (p W : Nat) : Prop where
  up : ∀ t, p ≤ t → t < 2 * p → tak tk t < tak tk (t + 1) → ∃ T, Tk (cal tk cl) (tak tk (t + 1) - 1) T ∧ T - t ≤ W
  at_ : W = 0 ∨ ∃ t T, p ≤ t ∧ t < 2 * p ∧ tak tk t < tak tk (t + 1) ∧ Tk (cal tk cl) (tak tk (t + 1) - 1) T ∧ W = T - t
theorem call_ge {n T0 T : Nat} (h1 : Tk (tak tk) n T0) (h2 : Tk (cal tk cl) n T) : T0 ≤ T := by
  have := cal_le (tk := tk) (cl := cl) (T + 1)
  have := h2.2
  exact Tk.le (fun h => tak_mono h) h1 (by omega)
include ht hc in
/-- each ticket of three periods waits no longer -/
theorem Long.all (gz : wt tk cl (p + 1) = wt tk cl (p + 1 + p)) {W : Nat} (L : Long tk cl p W) {n T0 T : Nat} (hn : n < tak tk (3 * p)) (h1 : Tk (tak tk) n T0) (h2 : Tk (cal tk cl) n T) : T - T0 ≤ W := by
  have monoT : ∀ {a b : Nat}, a ≤ b → tak tk a ≤ tak tk b := fun h => tak_mono h
  have monoC : ∀ {a b : Nat}, a ≤ b → cal tk cl a ≤ cal tk cl b := fun h => cal_mono h
  have lt3 : T0 < 3 * p := by
    rcases Nat.lt_or_ge T0 (3 * p) with z | z
    · exact z
    · have := monoT z
      have := h1.1
      omega
  have some1 : tak tk T0 < tak tk (T0 + 1) := Nat.lt_of_le_of_lt h1.1 h1.2
  -- n is called no later than the last ticket of its tick
  have key : ∀ S, Tk (cal tk cl) (tak tk (T0 + 1) - 1) S → T ≤ S := fun S hS => Tk.le monoC h2 (Nat.lt_of_le_of_lt (by have := h1.2; omega) hS.2)
  by_cases c1 : T0 < p
  · have a1 := tak_add p ht T0
    have a2 := tak_add p ht (T0 + 1)
    rw [show T0 + 1 + p = T0 + p + 1 by omega] at a2
    obtain ⟨S, hS, hW⟩ := L.up (T0 + p) (by omega) (by omega) (by omega)
    have hSp : T0 + p ≤ S := by
      have := cal_le (tk := tk) (cl := cl) (S + 1)
      have := hS.2
      have z : tak tk (T0 + p) < tak tk (S + 1) := by omega
      rcases Nat.lt_or_ge S (T0 + p) with q | q
      · have := monoT (show S + 1 ≤ T0 + p by omega)
        omega
      · exact q
    have up := cal_up ht hc (tk := tk) (cl := cl) (S + 1 - p)
    rw [show S + 1 - p + p = S + 1 by omega] at up
    have := hS.2
    have le : T ≤ S - p := Tk.le monoC h2 (by
      rw [show S - p + 1 = S + 1 - p by omega]
      have := h1.2
      omega)
    omega
  · by_cases c2 : T0 < 2 * p
    · obtain ⟨S, hS, hW⟩ := L.up T0 (by omega) c2 some1
      have := key S hS
      omega
    · obtain ⟨u, rfl⟩ : ∃ u, T0 = u + p := ⟨T0 - p, by omega⟩
      have a1 := tak_add p ht u
      have a2 := tak_add p ht (u + 1)
      rw [show u + 1 + p = u + p + 1 by omega] at a2
      obtain ⟨S, hS, hW⟩ := L.up u (by omega) (by omega) (by omega)
      have hSu : u ≤ S := by
        have := cal_le (tk := tk) (cl := cl) (S + 1)
        have := hS.2
        rcases Nat.lt_or_ge S u with q | q
        · have := monoT (show S + 1 ≤ u by omega)
          omega
        · exact q
      have sm := cal_same ht hc gz (t := S + 1) (by omega)
      have := hS.2
      have le : T ≤ S + p := Tk.le monoC h2 (by
        rw [show S + p + 1 = S + 1 + p by omega]
        have := h1.2
        omega)
      omega
include hp ht hc in
/-- all tickets of three periods are called within four and a tick -/
theorem called_all (gz : wt tk cl (p + 1) = wt tk cl (p + 1 + p)) {n : Nat} (hn : n < tak tk (3 * p)) : ∃ T, T < 4 * p + 1 ∧ Tk (cal tk cl) n T := by
  refine Tk.ex rfl ?_
  have h := cal_same_k ht hc gz 3
  have a1 := tak_add p ht p
  have a2 := tak_add p ht (2 * p)
  rw [show p + p = 2 * p by omega] at a1
  rw [show 2 * p + p = 3 * p by omega] at a2
  rw [show 4 * p + 1 = p + 1 + 3 * p by omega, h]
  omega
/-- what is called in a stretch without an empty room -/
theorem full_calls {a : Nat} : ∀ k, (∀ t, a < t → t ≤ a + k → 0 < wt tk cl t) → cal tk cl (a + k) + tak cl a = cal tk cl a + tak cl (a + k)
  | 0, _ => by simp
  | k + 1, h => by
    have ih := full_calls (a := a) k fun t h1 h2 => h t h1 (by omega)
    have w := h (a + k + 1) (by omega) (by omega)
    rw [wt_succ] at w
    have c := cal_succ (tk := tk) (cl := cl) (a + k)
    have e : tak cl (a + k + 1) = tak cl (a + k) + atp cl (a + k) := rfl
    rw [show a + (k + 1) = a + k + 1 by omega, c, e]
    omega
theorem some_calls {a : Nat} : ∀ k, cal tk cl (a + k) + tak cl a ≤ cal tk cl a + tak cl (a + k)
  | 0 => by simp
  | k + 1 => by
    have ih := some_calls (a := a) k
    have c := cal_succ (tk := tk) (cl := cl) (a + k)
    have e : tak cl (a + k + 1) = tak cl (a + k) + atp cl (a + k) := rfl
    rw [show a + (k + 1) = a + k + 1 by omega, c, e]
    omega
include hp ht hc in
/-- nobody more waits after a period iff no more are taken than can be called -/
theorem grow_iff : wt tk cl (p + 1) = wt tk cl (p + 1 + p) ↔ tak tk p ≤ tak cl p := by
  have a1 := tak_add p ht (p + 1)
  have a2 := tak_add (tk := cl) p hc (p + 1)
  have w1 := wt_cal (tk := tk) (cl := cl) (p + 1)
  have w2 := wt_cal (tk := tk) (cl := cl) (p + 1 + p)
  constructor
  · intro h
    have s := some_calls (tk := tk) (cl := cl) (a := p + 1) p
    omega
  · intro h
    by_cases z : ∀ t, p + 1 < t → t ≤ p + 1 + p → 0 < wt tk cl t
    · have f := full_calls (tk := tk) (cl := cl) (a := p + 1) p z
      have u := wt_up (tk := tk) (cl := cl) ht hc (p + 1)
      omega
    · obtain ⟨t, h1, h2, h3⟩ : ∃ t, p + 1 < t ∧ t ≤ p + 1 + p ∧ wt tk cl t = 0 := by
        refine Classical.byContradiction fun q => z fun t h1 h2 => ?_
        rcases Nat.eq_zero_or_pos (wt tk cl t) with e | e
        · exact absurd ⟨t, h1, h2, e⟩ q
        · exact e
      have u := wt_up (tk := tk) (cl := cl) ht hc (t - p)
      rw [show t - p + p = t by omega, h3] at u
      refine wt_same ht hc (s := t - p) ?_ (p + 1) (by omega)
      rw [show t - p + p = t by omega, h3]
      omega
end
end Mm

/-! ### Open tickets -/
namespace Mm
/-- how many tickets are open at t, with the lateness lt -/
def opn (tk cl : List Nat) (lt t : Nat) : Nat := tak tk (t + 1) - cal tk cl (t - lt)
structure MaxIs (f : Nat → Nat) (M : Nat) : Prop where
  le : ∀ t, f t ≤ M
  at_ : ∃ t, f t = M
theorem MaxIs.uniq {f : Nat → Nat} {M N : Nat} (a : MaxIs f M) (b : MaxIs f N) : M = N := by
  obtain ⟨t, h⟩ := a.at_
  obtain ⟨s, k⟩ := b.at_
  have := a.le s
  have := b.le t
  omega
section
variable {tk cl : List Nat} {p lt : Nat}
theorem opn_add (t : Nat) : opn tk cl lt t + cal tk cl (t - lt) = tak tk (t + 1) := by
  have h1 := cal_le (tk := tk) (cl := cl) (t - lt)
  have h2 := tak_mono (tk := tk) (show t - lt ≤ t + 1 by omega)
  unfold opn
  omega
variable (hp : 0 < p) (ht : tk.length ∣ p) (hc : cl.length ∣ p)
include ht hc in
theorem opn_up (t : Nat) : opn tk cl lt t ≤ opn tk cl lt (t + p) := by
  have h1 := opn_add (tk := tk) (cl := cl) (lt := lt) t
  have h2 := opn_add (tk := tk) (cl := cl) (lt := lt) (t + p)
  have h3 := tak_add p ht (t + 1)
  rw [show t + 1 + p = t + p + 1 by omega] at h3
  rcases Nat.lt_or_ge t lt with z | z
  · have h4 := cal_mono (tk := tk) (cl := cl) (show t + p - lt ≤ p by omega)
    have h5 := cal_le (tk := tk) (cl := cl) p
    omega
  · have h4 := cal_up (tk := tk) (cl := cl) ht hc (t - lt)
    rw [show t - lt + p = t + p - lt by omega] at h4
    omega
include hp ht hc in
theorem opn_same (gz : wt tk cl (p + 1) = wt tk cl (p + 1 + p)) {t : Nat} (h : p + lt ≤ t) : opn tk cl lt (t + p) = opn tk cl lt t := by
  have h1 := opn_add (tk := tk) (cl := cl) (lt := lt) t
  have h2 := opn_add (tk := tk) (cl := cl) (lt := lt) (t + p)
  have h3 := tak_add p ht (t + 1)
  rw [show t + 1 + p = t + p + 1 by omega] at h3
  have h4 := cal_per (tk := tk) (cl := cl) hp ht hc (t := t - lt) (by omega)
  rw [show t - lt + p = t + p - lt by omega] at h4
  have h5 := per_calls (tk := tk) (cl := cl) ht hc gz hp
  omega
include ht hc in
theorem opn_ups (t : Nat) : ∀ k, opn tk cl lt t ≤ opn tk cl lt (t + k * p)
  | 0 => by simp
  | k + 1 => by
    have ih := opn_ups t k
    have h := opn_up (tk := tk) (cl := cl) (lt := lt) ht hc (t + k * p)
    rw [Nat.succ_mul, ← Nat.add_assoc]
    omega
include hp ht hc in
theorem opn_red (gz : wt tk cl (p + 1) = wt tk cl (p + 1 + p)) : ∀ n, opn tk cl lt (p + lt + n) = opn tk cl lt (p + lt + n % p) := by
  intro n
  induction n using Nat.strongRecOn with
  | _ n ih =>
    rcases Nat.lt_or_ge n p with z | z
    · rw [Nat.mod_eq_of_lt z]
    · have h := opn_same (tk := tk) (cl := cl) (lt := lt) hp ht hc gz (t := p + lt + (n - p)) (by omega)
      rw [show p + lt + (n - p) + p = p + lt + n by omega] at h
      rw [h, ih (n - p) (by omega), Nat.mod_eq_sub_mod z]
include hp ht hc in
theorem opn_max (gz : wt tk cl (p + 1) = wt tk cl (p + 1 + p)) {M : Nat} (h1 : ∀ i, i < p → opn tk cl lt (p + lt + i) ≤ M) (h2 : ∃ t, opn tk cl lt t = M) : MaxIs (opn tk cl lt) M := by
  refine ⟨fun t => ?_, h2⟩
  have a := opn_ups (tk := tk) (cl := cl) (lt := lt) ht hc t (p + lt)
  have b : p + lt ≤ t + (p + lt) * p := by
    have := Nat.le_mul_of_pos_right (p + lt) hp
    omega
  obtain ⟨n, hn⟩ : ∃ n, t + (p + lt) * p = p + lt + n := ⟨t + (p + lt) * p - (p + lt), by omega⟩
  rw [hn, opn_red hp ht hc gz n] at a
  have := h1 (n % p) (Nat.mod_lt n hp)
  omega
include hp ht hc in
/-- over more than two periods and the lateness -/
theorem opn_window (gz : wt tk cl (p + 1) = wt tk cl (p + 1 + p)) {M N : Nat} (hN : 2 * p + lt ≤ N) (h1 : ∀ i, i < N → opn tk cl lt i ≤ M) (h2 : ∃ t, opn tk cl lt t = M) : MaxIs (opn tk cl lt) M :=
  opn_max hp ht hc gz (fun i hi => h1 _ (by omega)) h2
theorem opn_le (h9 : ∀ x ∈ tk, x ≤ 9) (t : Nat) : opn tk cl lt t ≤ 9 * (t + 1) := by
  have h1 := opn_add (tk := tk) (cl := cl) (lt := lt) t
  have h2 := tak_le h9 (t + 1)
  omega
end
end Mm

/-! ### The law's open tickets and their greatest number -/
namespace Tk
open PySem PySem.Spec PyProof.Rows L2 Mm
def spOpens : Sp := fun vs H Q _ => ∃ (t tp cp : Addr) (m lt : Nat) (tk cl : List Nat) (n : Nat), vs = [.ref t, vn n] ∧ PartsAt H t m tp tk cp cl lt ∧ n ≤ 900 ∧
  ∀ (l : Addr) (rs : List Addr) H', Same H H' → H' l = some (.lst (rs.map V.ref)) → rs.length = n → (∀ r ∈ rs, ∃ a b : Nat, H' r = some (.tup [vn a, vn b])) → Q (.ref l) H'
def spMost : Sp := fun vs H Q _ => ∃ (t tp cp : Addr) (m lt : Nat) (tk cl : List Nat), vs = [.ref t] ∧ PartsAt H t m tp tk cp cl lt ∧
  ∀ v H', Same H H' → ((tak cl (per tk cl) < tak tk (per tk cl) ∧ v = .non) ∨ (tak tk (per tk cl) ≤ tak cl (per tk cl) ∧ ∃ z : Int, v = .int z)) → Q v H'
theorem sum_per (tk : List Nat) (h : 0 < tk.length) (q : Nat) : tak tk (q * tk.length) = q * tk.sum := by
  have z := tak_mul tk q 0
  rw [Nat.zero_add] at z
  rw [z]
  rfl
theorem cmp_sums {tk cl : List Nat} (n0 : 0 < tk.length) (c0 : 0 < cl.length) : (cl.sum * tk.length < tk.sum * cl.length) ↔ (tak cl (per tk cl) < tak tk (per tk cl)) := by
  have p0 := per_pos n0 c0
  obtain ⟨a, ha⟩ := per_tk (tk := tk) (cl := cl)
  obtain ⟨b, hb⟩ := per_cl (tk := tk) (cl := cl)
  have e1 : tak tk (per tk cl) = a * tk.sum := by rw [ha, Nat.mul_comm]; exact sum_per tk n0 a
  have e2 : tak cl (per tk cl) = b * cl.sum := by rw [hb, Nat.mul_comm]; exact sum_per cl c0 b
  rw [e1, e2]
  -- times the period
  have f1 : per tk cl * (cl.sum * tk.length) = (b * cl.sum) * (cl.length * tk.length) := by
    rw [hb]
    simp only [Nat.mul_comm, Nat.mul_left_comm, Nat.mul_assoc]
  have f2 : per tk cl * (tk.sum * cl.length) = (a * tk.sum) * (cl.length * tk.length) := by
    rw [ha]
    simp only [Nat.mul_comm, Nat.mul_left_comm, Nat.mul_assoc]
  have pl : 0 < cl.length * tk.length := Nat.mul_pos c0 n0
  constructor
  · intro h
    have := Nat.mul_lt_mul_of_pos_left h p0
    rw [f1, f2] at this
    exact Nat.lt_of_mul_lt_mul_right this
  · intro h
    have := Nat.mul_lt_mul_of_pos_right h pl
    rw [← f1, ← f2] at this
    exact Nat.lt_of_mul_lt_mul_left this
section
variable {P : Program} {w : World} {K : PySem.W.Frag} {mg : Str → Option Value} {base : Heap}
theorem ok__law_opens (T : Txt K mg) : OkF P w K mg base 2 (He.ga K "_law_opens") ["_law_parts", "_law_ticks"] spOpens := by
  have G__law_counts : OkF P w K mg base 1 (He.ga K "_law_counts") ["_law_parts", "_law_ticks"] spCounts := ok__law_counts T
  refine FnP.okF T.f__law_opens sc__law_opens (fun _ _ _ _ _ _ us hl => match us, hl with | [_, _], _ => rfl) (fun vs H Q E h => ?_) (fun cdv A outer s H vs Q E hr h => ?_)
  · obtain ⟨t, _, _, _, _, _, _, _, rfl, _⟩ := h
    rfl
  obtain ⟨t, tp, cp, m, lt, tk, cl, n, rfl, hP, hn, k⟩ := h
  refine ⟨_, (pss_cons (ps_asg (pe_call G__law_counts.one (hr.mono (by decide)) (by rfl) T.g__law_counts G__law_counts.kp G__law_counts.two .nil passL (pa_cons (pv 0) (pa_cons (pv 1) pa_nil))) (pg_tup rfl (pgs_cons (pg_name (i := 2) sc__law_opens.nd rfl (Or.inr rfl)) (pgs_cons (pg_name (i := 3) sc__law_opens.nd rfl (Or.inr rfl)) pgs_nil))))
    (pss_one (ps_ret (pe_lc (own := [("_law_tick", 4)]) (g := gName 4) (tt := tYes) (by rfl) sc__law_opens.nd (pi_range1 (by rfl) T.g_range (pa_cons (pv 1) pa_nil)) (blkOk_by (own := [("_law_tick", 4)]) (N := N__law_opens) (sc := (defScope s__law_opens)) (by decide +kernel)) (fun _ _ _ _ _ => pg_name (i := 4) sc__law_opens.nd rfl (Or.inl rfl)) (fun _ _ _ _ _ => pts_nil) (fun _ _ _ _ _ => (pe_tup (pa_cons (pe_ix (ixLK (K := K)) (pv 3) (pe_callB (show CallR _ (.builtin "max") Rd.rMax2 from call_max2 (by rfl)) (by rfl) T.g_max (by decide +kernel) (pa_cons pe_int (pa_cons (pe_op op_sub (pv 4) (pe_ix (ixTK (K := K)) (pv 0) pe_int (fun _ _ => rfl))) pa_nil))) (fun _ _ => rfl)) (pa_cons (pe_ix (ixLK (K := K)) (pv 2) (pe_op op_add (pv 4) pe_int) (fun _ _ => rfl)) pa_nil)))))))), ?_⟩
  refine ⟨_, rfl, _, rfl, t, tp, cp, m, lt, tk, cl, n, rfl, hP, by omega, fun rr a1 b1 H5 _ na nb nab S5 h5 h5a h5b => ?_⟩
  refine ⟨rr, _, rfl, SqT.of h5, rfl, _, _, rfl, _, _, rfl, rfl, ?_⟩
  have hP5 := hP.same S5
  clear h5
  refine ⟨_, rfl, (n : Int), rfl, by omega, by omega, fun D hD => ?_⟩
  refine lc_range (lo := 0) (n := ((n : Int)).toNat) (fun i H6 => ∃ rs : List Addr, rs.length = i ∧ H6 D = some (.lst (rs.map V.ref)) ∧ Same H5 H6 ∧ ∀ r ∈ rs, ∃ a b : Nat, H6 r = some (.tup [vn a, vn b])) ⟨[], rfl, upd_same, Same.new hD, fun r h => by cases h⟩ ?_ ?_
  · rintro j H6 hj ⟨rs, hl, h6, S6, hr6⟩
    have hj2 : j < n := by omega
    have hP6 := hP5.same S6
    have St := SqT.of (K := K) hP6.at_
    have ei : (if (0 : Int) + (j : Int) - (lt : Int) > 0 then (0 : Int) + (j : Int) - (lt : Int) else 0) = ((j - lt : Nat) : Int) := by split <;> omega
    refine ⟨rfl, _, rfl, _, rfl, _, rfl, t, _, 3, _, rfl, rfl, St, at3 (j := 3) rfl, _, _, rfl, rfl, _, _, rfl, ?_⟩
    dsimp only
    rw [ei]
    refine ⟨b1, _, _, _, rfl, rfl, SqL.of (S6 _ _ h5b), atn (fV_at (by omega)), _, rfl, _, rfl, _, _, rfl, rfl, a1, _, _, _, rfl, rfl, SqL.of (S6 _ _ h5a), (show atI (fV (tak tk) n) ((0 : Int) + (j : Int) + 1) = some (vn (tak tk (j + 1))) by rw [show (0 : Int) + (j : Int) + 1 = ((j + 1 : Nat) : Int) by omega]; exact atn (fV_at (by omega))), ?_⟩
    refine ⟨(by show 2 ≤ sizeLine; decide), fun r hr0 => ?_⟩
    have nrD : r ≠ D := fun e => by rw [e, h6] at hr0; cases hr0
    refine ⟨_, by rw [upd_ne (ne_of_none h6 hr0)]; exact h6, Nat.lt_of_le_of_lt (m := 1000) (by simp; omega) (by decide), rs ++ [r], by simp [hl], ?_, ?_, fun q hq => ?_⟩
    · rw [upd_same, List.map_append]
      rfl
    · intro b o e
      have e6 := S6 _ _ e
      rw [upd_ne (ne_of_none e hD), upd_ne (ne_of_none e6 hr0)]
      exact e6
    · rcases List.mem_append.mp hq with z | z
      · obtain ⟨x, y, hxy⟩ := hr6 q z
        have nq : q ≠ D := fun e => by rw [e, h6] at hxy; cases hxy
        exact ⟨x, y, by rw [upd_ne nq, upd_ne (ne_of_none hxy hr0)]; exact hxy⟩
      · rw [List.mem_singleton.mp z]
        exact ⟨_, _, by rw [upd_ne nrD]; exact upd_same⟩
  · rintro H6 ⟨rs, hl, h6, S6, hr6⟩
    exact k D rs H6 (S5.trans S6) h6 (by omega) hr6
theorem ok__law_most (T : Txt K mg) : OkF P w K mg base 3 (He.ga K "_law_most") ["_law_parts"] spMost := by
  have G__law_length : OkF P w K mg base 1 (He.ga K "_law_length") ["_law_parts"] spLength := ok__law_length T
  have G__law_opens : OkF P w K mg base 2 (He.ga K "_law_opens") ["_law_parts", "_law_ticks"] spOpens := ok__law_opens T
  refine FnP.okF T.f__law_most sc__law_most (fun _ _ _ _ _ _ us hl => match us, hl with | [_], _ => rfl) (fun vs H Q E h => ?_) (fun cdv A outer s H vs Q E hr h => ?_)
  · obtain ⟨t, _, _, _, _, _, _, rfl, _⟩ := h
    rfl
  obtain ⟨t, tp, cp, m, lt, tk, cl, rfl, hP, k⟩ := h
  refine ⟨_, (pss_cons (ps_set (i := 1) sc__law_most.nd rfl (Or.inl rfl) (pe_call G__law_length.one (hr.mono (by decide)) (by rfl) T.g__law_length G__law_length.kp G__law_length.two .nil passL (pa_cons (pv 0) pa_nil)))
    (pss_cons (ps_if (pt_cmpR op_gt (pe_op op_mul (pe_callB (sumTK (K := K)) (by rfl) T.g_sum (by decide +kernel) (pa_cons (pe_ix (ixTK (K := K)) (pv 0) pe_int (fun _ _ => rfl)) pa_nil)) (pe_callB (lenK (K := K)) (by rfl) T.g_len (by decide +kernel) (pa_cons (pe_ix (ixTK (K := K)) (pv 0) pe_int (fun _ _ => rfl)) pa_nil))) (pe_op op_mul (pe_callB (sumTK (K := K)) (by rfl) T.g_sum (by decide +kernel) (pa_cons (pe_ix (ixTK (K := K)) (pv 0) pe_int (fun _ _ => rfl)) pa_nil)) (pe_callB (lenK (K := K)) (by rfl) T.g_len (by decide +kernel) (pa_cons (pe_ix (ixTK (K := K)) (pv 0) pe_int (fun _ _ => rfl)) pa_nil))) (nomark _)) (pss_one (ps_ret pe_non)) pss_nil)
    (pss_one (ps_ret (pe_callB (maxLK (K := K)) (by rfl) T.g_max (by decide +kernel) (pa_cons (pe_lc (own := [("_law_first", 2), ("_law_end", 3)]) (g := gTup K 2 (gCons (gName 2) (gCons (gName 3) gNil))) (tt := tYes) (by rfl) sc__law_most.nd (pi_listK (K := K) (pe_call G__law_opens.one (hr.mono (by decide)) (by rfl) T.g__law_opens G__law_opens.kp G__law_opens.two .nil passL (pa_cons (pv 0) (pa_cons (pe_op op_add (pe_op op_add (pe_op op_mul pe_int (pv 1)) (pe_ix (ixTK (K := K)) (pv 0) pe_int (fun _ _ => rfl))) pe_int) pa_nil)))) (blkOk_by (own := [("_law_first", 2), ("_law_end", 3)]) (N := N__law_most) (sc := (defScope s__law_most)) (by decide +kernel)) (fun _ _ _ _ _ => pg_tup rfl (pgs_cons (pg_name (i := 2) sc__law_most.nd rfl (Or.inl rfl) (by first | exact Or.inr rfl | exact Or.inl rfl)) (pgs_cons (pg_name (i := 3) sc__law_most.nd rfl (Or.inl rfl) (by first | exact Or.inr rfl | exact Or.inl rfl)) pgs_nil))) (fun _ _ _ _ _ => pts_nil) (fun _ _ _ _ _ => (pe_op op_sub (pv 3) (pv 2)))) pa_nil)))))), ?_⟩
  refine ⟨_, rfl, t, tp, cp, m, lt, tk, cl, rfl, hP, ?_⟩
  have St := SqT.of (K := K) hP.at_
  have n0 := hP.ok.tkP.pos
  have c0 := hP.ok.clP.pos
  have p144 := per_144 hP.ok.tkP hP.ok.clP
  have p0 := per_pos n0 c0
  refine ⟨_, rfl, t, _, 1, _, rfl, rfl, St, at3 (j := 1) rfl, tp, _, rfl, (by rw [map_vn]; exact SqT.of hP.tkA), _, rfl, t, _, 2, _, rfl, rfl, St, at3 (j := 2) rfl, cp, _, rfl, .inr (SqT.of hP.clA), _, _, rfl, rfl, .inr ⟨by simp; omega, by have := hP.ok.clP.len; simp; omega⟩, ?_⟩
  refine ⟨_, rfl, t, _, 2, _, rfl, rfl, St, at3 (j := 2) rfl, cp, _, rfl, (by rw [map_vn]; exact SqT.of hP.clA), _, rfl, t, _, 1, _, rfl, rfl, St, at3 (j := 1) rfl, tp, _, rfl, .inr (SqT.of hP.tkA), _, _, rfl, rfl, .inr ⟨by simp; omega, by have := hP.ok.tkP.len; simp; omega⟩, ?_⟩
  refine ⟨_, _, rfl, rfl, _, rfl, ?_⟩
  rw [sum_cast, sum_cast, List.length_map, List.length_map]
  have key := cmp_sums n0 c0
  refine ite2 (fun c => ?_) (fun c => ?_)
  · have c1 : ((cl.sum : Nat) : Int) * (tk.length : Int) < ((tk.sum : Nat) : Int) * (cl.length : Int) := of_decide_eq_true c
    rw [← Int.natCast_mul, ← Int.natCast_mul] at c1
    exact k _ _ (Same.refl _) (.inl ⟨by omega, rfl⟩)
  · have c1 : ¬ ((cl.sum : Nat) : Int) * (tk.length : Int) < ((tk.sum : Nat) : Int) * (cl.length : Int) := fun q => c (decide_eq_true q)
    rw [← Int.natCast_mul, ← Int.natCast_mul] at c1
    have lt99 := hP.ok.l99
    refine ⟨_, rfl, _, rfl, _, _, rfl, rfl, .inl ⟨by decide, by decide⟩, _, rfl, t, _, 3, _, rfl, rfl, St, at3 (j := 3) rfl, _, _, rfl, rfl, _, _, rfl, rfl, t, tp, cp, m, lt, tk, cl, 2 * per tk cl + lt + 1, ?_, hP, by omega, fun l rs H1 S1 hl hlen hr1 => ?_⟩
    · have e : V.int ((2 : Int) * ((per tk cl : Nat) : Int) + (lt : Int) + 1) = vn (2 * per tk cl + lt + 1) := vn_int (by omega)
      rw [← e]
      rfl
    refine ⟨l, rfl, ⟨_, SqL.of hl⟩, fun D hD => ?_⟩
    refine lc_list (K := K) (a := l) (xs := rs.map V.ref) (fun i H2 => ∃ ns : List Int, ns.length = i ∧ H2 D = some (.lst (ns.map V.int)) ∧ Same H1 H2) ⟨[], rfl, upd_same, Same.new hD⟩ (fun i H2 _ ⟨ns, _, _, S2⟩ => SqL.of (S2 _ _ hl)) ?_ ?_
    · rintro i x H2 hx ⟨ns, hns, h2, S2⟩
      rw [List.getElem?_map] at hx
      obtain ⟨r, hr2, rfl⟩ : ∃ r, rs[i]? = some r ∧ x = V.ref r := by
        cases q : rs[i]? with
        | none => rw [q] at hx; cases hx
        | some r => rw [q] at hx; exact ⟨r, rfl, (Option.some.inj hx).symm⟩
      have hi : i < rs.length := (List.getElem?_eq_some_iff.mp hr2).1
      obtain ⟨u, v, huv⟩ := hr1 r (List.mem_of_getElem? hr2)
      refine ⟨r, _, rfl, SqT.of (S2 _ _ huv), rfl, _, _, rfl, _, _, rfl, rfl, ?_⟩
      refine ⟨rfl, _, rfl, _, rfl, _, _, rfl, rfl, _, h2, Nat.lt_of_le_of_lt (m := 1000) (by rw [List.length_map]; omega) (by decide), ns ++ [(v : Int) - (u : Int)], by simp [hns], ?_, fun b o e => ?_⟩
      · rw [upd_same, List.map_append]
        rfl
      · rw [upd_ne (ne_of_none e hD)]
        exact S2 _ _ e
    · rintro H2 ⟨ns, hns, h2, S2⟩
      rw [List.length_map] at hns
      exact ⟨D, ns, rfl, SqL.of h2, by omega, fun z _ _ => k _ _ (S1.trans S2) (.inr ⟨by omega, z, rfl⟩)⟩
end
end Tk

section
local macro_rules | `(tactic| walk_at "hp") => `(tactic| first
  | assumption
  | with_reducible exact L2.upd_same
  | ((with_reducible refine' Tk.Same.get ?k0 ?k1); (case k0 => assumption); (case k1 => walk_at "hp"))
  | fail "hp")
local macro_rules | `(tactic| walk_at "same") => `(tactic| first
  | assumption
  | exact L2.Same.refl _
  | ((with_reducible refine' Tk.Same.nw ?k0 ?k1); (case k0 => assumption); (case k1 => walk_at "same"))
  | ((with_reducible refine' Tk.Same.tr ?k0 ?k1); (case k0 => assumption); (case k1 => walk_at "same")))
local macro_rules | `(tactic| walk_at "sql") => `(tactic| first
  | assumption
  | ((with_reducible refine' L2.SqL.of ?k0); (case k0 => walk_at "hp"))
  | ((with_reducible refine' L2.Same.seq ?k0 ?k1); (case k0 => assumption); (case k1 => walk_at "sql")))
local macro_rules | `(tactic| walk_at "sqt") => `(tactic| first
  | assumption
  | ((with_reducible refine' L2.SqT.of ?k0); (case k0 => walk_at "hp"))
  | ((with_reducible refine' Tk.sqt_sm ?k0 ?k1); (case k0 => assumption); (case k1 => walk_at "sqt")))
local macro_rules | `(tactic| walk_at "sz") => `(tactic| first
  | (show (_ : Nat) ≤ 1000; decide)
  | (simp; done)
  | (simp; omega))
local macro_rules | `(tactic| walk_at "szb") => `(tactic| first
  | assumption
  | (show (_ : Nat) ≤ 100000; decide)
  | (simp; done)
  | (simp; omega))
local macro_rules | `(tactic| walk_at "dp") => `(tactic| first
  | assumption
  | with_reducible exact L2.Dp.non
  | with_reducible exact L2.Dp.int _
  | with_reducible exact L2.Dp.str _
  | with_reducible exact L2.Dp.bl _
  | ((with_reducible refine' L2.Dp.lst ?k0 ?k1); (case k0 => walk_at "sql"); (case k1 => walk_at "dpa"))
  | ((with_reducible refine' L2.Dp.tup ?k0 ?k1); (case k0 => walk_at "sqt"); (case k1 => walk_at "dpa"))
  | ((with_reducible refine' Tk.dp_sm ?k0 ?k1); (case k0 => assumption); (case k1 => walk_at "dp"))
  | fail "dp")
local macro_rules | `(tactic| walk_at "dpa") => `(tactic| first
  | assumption
  | with_reducible exact L2.DpAll.nil
  | ((with_reducible refine' L2.DpAll.cons ?k0 ?k1); (case k0 => walk_at "dp"); (case k1 => walk_at "dpa"))
  | with_reducible exact Tk.dp_nats _
  | ((with_reducible refine' Tk.dpA_sm ?k0 ?k1); (case k0 => assumption); (case k1 => walk_at "dpa"))
  | fail "dpa")
local macro_rules | `(tactic| walk_at "ci") => `(tactic| first
  | exact .inl ⟨by decide, by decide⟩
  | exact .inr ⟨by decide, by decide⟩
  | exact .inl ⟨by omega, by omega⟩
  | exact .inr ⟨by omega, by omega⟩
  | exact ⟨by decide, by decide⟩
  | exact ⟨by omega, by omega⟩
  | (show (0 : Int) < _; decide)
  | (show (0 : Int) < _; omega))
local macro_rules | `(tactic| walk_at "rd1") => `(tactic| first
  | with_reducible refine Tk.Rd.seq ?_
  | with_reducible refine Tk.Rd.star ?_
  | with_reducible refine Tk.Rd.int1_i ?_
  | with_reducible refine Tk.Rd.int1_b ?_
  | with_reducible refine Tk.Rd.tlc2 ?_
  | with_reducible refine Tk.Rd.lrg3 ?_
  | with_reducible refine Tk.Rd.lrg ?_
  | with_reducible refine Tk.Rd.rg1 ?_
  | with_reducible refine Tk.Rd.rg1K_i ?_
  | with_reducible refine Tk.Rd.rg2 ?_
  | with_reducible refine Tk.Rd.rg2K_i ?_
  | ((with_reducible refine' Tk.Rd.catL ?k0 ?k1 ?k2 fun p H' np S hp => ?_); (case k0 => walk_at "hp"); (case k1 => walk_at "hp"); (case k2 => walk_at "szb"))
  | ((with_reducible refine' Tk.Rd.starK_t ?k0 ?_); (case k0 => walk_at "sqt"))
  | ((with_reducible refine' Tk.Rd.starK_l ?k0 ?_); (case k0 => walk_at "sql"))
  | ((with_reducible refine' Tk.Rd.var ?k0 ?_); (case k0 => exact rfl))
  | with_reducible refine Tk.Rd.c ?_
  | with_reducible refine Tk.Rd.op ?_
  | with_reducible refine Tk.Rd.i0 ?_
  | with_reducible refine Tk.Rd.asg ?_
  | with_reducible refine Tk.Rd.name ?_
  | with_reducible refine Tk.Rd.cons ?_
  | with_reducible refine Tk.Rd.nil ?_
  | with_reducible refine Tk.Rd.call ?_
  | with_reducible refine Tk.Rd.callK_i ?_
  | with_reducible refine Tk.Rd.tst ?_
  | with_reducible refine Tk.Rd.bv ?_
  | with_reducible refine Tk.Rd.toB_i ?_
  | with_reducible refine Tk.Rd.ift ?_
  | with_reducible refine Tk.Rd.iff ?_
  | with_reducible refine Tk.Rd.ifnt ?_
  | with_reducible refine Tk.Rd.ifnf ?_
  | with_reducible refine Tk.Rd.not ?_
  | with_reducible refine Tk.Rd.and ?_
  | with_reducible refine Tk.Rd.or ?_
  | with_reducible refine Tk.Rd.andV ?_
  | with_reducible refine Tk.Rd.andK_i ?_
  | with_reducible refine Tk.Rd.orV ?_
  | with_reducible refine Tk.Rd.orK_i ?_
  | with_reducible refine Tk.Rd.notV ?_
  | with_reducible refine Tk.Rd.notK_i ?_
  | with_reducible refine Tk.Rd.tif ?_
  | with_reducible refine Tk.Rd.yes ?_
  | with_reducible refine Tk.Rd.tfor ?_
  | with_reducible refine Tk.Rd.tlc ?_
  | with_reducible refine Tk.Rd.rng ?_
  | ((with_reducible refine' Tk.Rd.rngK_n ?k0 ?_); (case k0 => first | decide | omega))
  | ((with_reducible refine' Tk.Rd.rngK_lit ?k0 ?_); (case k0 => decide))
  | with_reducible refine Tk.Rd.rng2 ?_
  | with_reducible refine Tk.Rd.rng3 ?_
  | with_reducible refine Tk.Rd.ilist ?_
  | with_reducible refine Tk.Rd.zip ?_
  | with_reducible refine Tk.Rd.itup ?_
  | ((with_reducible refine' Tk.Rd.listK_i ?k0 ?_); (case k0 => walk_at "sql"))
  | ((with_reducible refine' Tk.Rd.ituK_i ?k0 ?_); (case k0 => walk_at "sqt"))
  | with_reducible refine Tk.Rd.chain ?_
  | with_reducible refine Tk.Rd.chainL_i ?_
  | with_reducible refine Tk.Rd.un ?_
  | with_reducible refine Tk.Rd.u1 ?_
  | ((with_reducible refine' Tk.Rd.i1 ?k0 ?_); (case k0 => walk_at "ci"))
  | ((with_reducible refine' Tk.Rd.eq ?k0 ?_); (case k0 => exact rfl))
  | ((with_reducible refine' Tk.Rd.ne ?k0 ?_); (case k0 => exact rfl))
  | with_reducible refine Tk.Rd.isN ?_
  | with_reducible refine Tk.Rd.notN ?_
  | with_reducible refine Tk.Rd.fld ?_
  | with_reducible refine Tk.Rd.meth ?_
  | with_reducible refine Tk.Rd.prop ?_
  | with_reducible refine Tk.Rd.cb ?_
  | with_reducible refine Tk.Rd.bm ?_
  | with_reducible refine Tk.Rd.m0 ?_
  | with_reducible refine Tk.Rd.m0K_i ?_
  | with_reducible refine Tk.Rd.m1 ?_
  | with_reducible refine Tk.Rd.m1K_i ?_
  | with_reducible refine Tk.Rd.tup ?_
  | ((with_reducible refine' Tk.Rd.tupK_i ?k0 fun p H' np S hp => ?_); (case k0 => walk_at "sz"))
  | with_reducible refine Tk.Rd.lst ?_
  | ((with_reducible refine' Tk.Rd.lstK_i ?k0 fun p H' np S hp => ?_); (case k0 => walk_at "sz"))
  | ((with_reducible refine' Tk.Rd.ixF ?k0 ?k1 ?_); (case k0 => walk_at "hp"); (case k1 => omega))
  | ((with_reducible refine' Tk.Rd.ixF1 ?k0 ?k1 ?_); (case k0 => walk_at "hp"); (case k1 => omega))
  | ((with_reducible refine' Tk.Rd.ixT ?k0 ?k1 ?_); (case k0 => walk_at "sqt"); (case k1 => exact rfl))
  | ((with_reducible refine' Tk.Rd.ixL ?k0 ?k1 ?_); (case k0 => walk_at "sql"); (case k1 => exact rfl))
  | ((with_reducible refine' Tk.Rd.lenL ?k0 ?_); (case k0 => walk_at "sql"))
  | ((with_reducible refine' Tk.Rd.lenT ?k0 ?_); (case k0 => walk_at "sqt"))
  | ((with_reducible refine' Tk.Rd.lenS ?k0 ?_); (case k0 => first | assumption | omega | (simp; omega)))
  | ((with_reducible refine' Tk.Rd.slTr ?k0 fun p H' S hp => ?_); (case k0 => walk_at "hp"))
  | ((with_reducible refine' Tk.Rd.slT ?k0 fun p H' S hq => ?_); (case k0 => walk_at "sqt"))
  | ((with_reducible refine' Tk.Rd.catTr ?k0 ?k1 ?k2 fun p H' S hp => ?_); (case k0 => walk_at "hp"); (case k1 => walk_at "hp"); (case k2 => walk_at "sz"))
  | ((with_reducible refine' Tk.Rd.catA ?k0 ?k1 ?k2 ?k3 ?k4 fun p H' np S hp => ?_); (case k0 => walk_at "sqt"); (case k1 => walk_at "sqt"); (case k2 => simp); (case k3 => simp); (case k4 => first | (simp; done) | (simp; omega)))
  | with_reducible refine Tk.Rd.make ?_
  | ((with_reducible refine' Tk.Rd.tplL ?k0 fun q H' nq S hq => ?_); (case k0 => walk_at "sql"))
  | ((with_reducible refine' Tk.Rd.lstL ?k0 fun q H' nq S hq => ?_); (case k0 => walk_at "sql"))
  | ((with_reducible refine' Tk.Rd.lstT ?k0 fun q H' nq S hq => ?_); (case k0 => walk_at "sqt"))
  | ((with_reducible refine' Tk.Rd.join ?k0 ?k1 ?_); (case k0 => walk_at "sql"); (case k1 => first | assumption | omega))
  | with_reducible refine Tk.Rd.mx ?_
  | with_reducible refine Tk.Rd.mn ?_
  | with_reducible refine Tk.Rd.noPart ?_
  | with_reducible refine Tk.Rd.part ?_
  | with_reducible refine Tk.Rd.partK_i ?_
  | with_reducible refine Tk.Rd.slc ?_
  | ((with_reducible refine' Tk.Rd.gtup ?k0 ?k1 ?_); (case k0 => walk_at "sqt"); (case k1 => exact rfl))
  | ((with_reducible refine' Tk.Rd.glst ?k0 ?k1 ?_); (case k0 => walk_at "sql"); (case k1 => exact rfl))
  | with_reducible refine Tk.Rd.gcons ?_
  | with_reducible refine Tk.Rd.gnil ?_
  | with_reducible refine Tk.Rd.next ?_
  | with_reducible refine Tk.Rd.drop ?_
  | with_reducible refine Tk.Rd.ret ?_
  | with_reducible refine Tk.Rd.retN ?_
  | with_reducible refine Tk.Rd.par ?_
  | with_reducible refine Tk.Rd.parK_i ?_
  | with_reducible refine Tk.Rd.par3 ?_
  | with_reducible refine Tk.Rd.par3K_i ?_
  | ((with_reducible refine' Tk.Rd.aug ?k0 ?_); (case k0 => exact rfl))
  | with_reducible refine Tk.Rd.ip ?_
  | ((with_reducible refine' Tk.Rd.bmK_l ?k0 ?_); (case k0 => walk_at "sql"))
  | ((with_reducible refine' Tk.Rd.addS ?k0 ?_); (case k0 => walk_at "sz"))
  | fail "rd1")
local macro_rules | `(tactic| walk_at "rd1i") => `(tactic| first
  | walk_at "rd1"
  | with_reducible refine Tk.Rd.ifS ?_
  | fail "rd1i")
local macro_rules | `(tactic| walk_at "rd") => `(tactic| (repeat' walk_at "rd1i"))
local macro_rules | `(tactic| walk_at "rs") => `(tactic| ((repeat' walk_at "rd1"); (try dsimp only)))
local macro_rules | `(tactic| walk_at "hall") => `(tactic| first
  | assumption
  | ((with_reducible refine' Tk.HallAt.sm ?k0 ?k1); (case k0 => assumption); (case k1 => walk_at "hall"))
  | fail "hall")
local macro_rules | `(tactic| walk_at "parts") => `(tactic| first
  | assumption
  | ((with_reducible refine' Tk.PartsAt.sm ?k0 ?k1); (case k0 => assumption); (case k1 => walk_at "parts"))
  | fail "parts")
local macro_rules | `(tactic| walk_at "sm") => `(tactic| first
  | assumption
  | exact Tk.Sm.int rfl
  | exact Tk.Sm.flat1 rfl
  | ((with_reducible refine' Tk.Sm.sm ?k0 ?k1); (case k0 => assumption); (case k1 => walk_at "sm"))
  | fail "sm")
local macro_rules | `(tactic| walk_at "rd1") => `(tactic| first
  | ((with_reducible refine' Tk.Rd.f_modulus ?k0 ?k1 ?_); (case k0 => assumption); (case k1 => walk_at "hall"))
  | ((with_reducible refine' Tk.Rd.f_lateness ?k0 ?k1 ?_); (case k0 => assumption); (case k1 => walk_at "hall"))
  | ((with_reducible refine' Tk.Rd.f_takes ?k0 ?k1 fun tp htp => ?_); (case k0 => assumption); (case k1 => walk_at "hall"))
  | ((with_reducible refine' Tk.Rd.f_calls ?k0 ?k1 fun cp hcp => ?_); (case k0 => assumption); (case k1 => walk_at "hall"))
  | ((with_reducible refine' Tk.Rd.h_meth ?k0 ?k1 ?_); (case k0 => walk_at "hall"); (case k1 => decide +kernel))
  | ((with_reducible refine' Tk.Rd.h_prop ?k0 ?_); (case k0 => walk_at "hall"))
  | ((with_reducible refine' Tk.Rd.h_taken0 ?k0 fun H' S => ?_); (case k0 => walk_at "hall"))
  | ((with_reducible refine' Tk.Rd.h_taken1 ?k0 fun H' S => ?_); (case k0 => walk_at "hall"))
  | ((with_reducible refine' Tk.Rd.h_takenL ?k0 fun H' S => ?_); (case k0 => walk_at "hall"))
  | ((with_reducible refine' Tk.Rd.h_called0 ?k0 ?_); (case k0 => walk_at "hall"))
  | ((with_reducible refine' Tk.Rd.h_called1 ?k0 ?_); (case k0 => walk_at "hall"))
  | ((with_reducible refine' Tk.Rd.h_calledL ?k0 ?_); (case k0 => walk_at "hall"))
  | ((with_reducible refine' Tk.Rd.h_waiting ?k0 ?k1 fun H' S => ?_); (case k0 => walk_at "hall"); (case k1 => omega))
  | ((with_reducible refine' Tk.Rd.h_growth ?k0 fun H' S => ?_); (case k0 => walk_at "hall"))
  | ((with_reducible refine' Tk.Rd.h_period ?k0 ?_); (case k0 => walk_at "hall"))
  | ((with_reducible refine' Tk.Rd.h_lhall ?k0 fun h lp H' nh nl S hA => ?_); (case k0 => walk_at "parts"))
  | ((with_reducible refine' Tk.Rd.h_length ?k0 ?_); (case k0 => walk_at "parts"))
  | ((with_reducible refine' Tk.Rd.h_counts ?k0 ?k1 fun r a b H' nr na nb nab S hr ha hb => ?_); (case k0 => walk_at "parts"); (case k1 => omega))
  | ((with_reducible refine' Tk.Rd.h_countsL ?k0 ?k1 fun r a b H' nr na nb nab S hr ha hb => ?_); (case k0 => walk_at "parts"); (case k1 => decide))
  | ((with_reducible refine' Tk.Rd.h_make ?k0 ?k1 ?k2 fun h lp H' nh nl S hA => ?_); (case k0 => assumption); (case k1 => walk_at "hp"); (case k2 => walk_at "hp"))
  | ((with_reducible refine' Tk.Rd.p_0 ?k0 ?_); (case k0 => walk_at "parts"))
  | ((with_reducible refine' Tk.Rd.p_1 ?k0 fun htp => ?_); (case k0 => walk_at "parts"))
  | ((with_reducible refine' Tk.Rd.p_2 ?k0 fun hcp => ?_); (case k0 => walk_at "parts"))
  | ((with_reducible refine' Tk.Rd.p_3 ?k0 ?_); (case k0 => walk_at "parts"))
  | fail "rd1")
local macro_rules | `(tactic| walk_at "sqt") => `(tactic| first | ((with_reducible refine' Tk.PartsAt.sq ?k0); (case k0 => walk_at "parts")) | fail "sqt")
local macro_rules | `(tactic| walk_at "free") => `(tactic| first
  | assumption
  | ((with_reducible refine' Tk.Same.fr ?k0 ?k1); (case k0 => assumption); (case k1 => walk_at "free")))
local macro_rules | `(tactic| walk_at "hp") => `(tactic| first
  | ((with_reducible refine' Tk.But.gt ?k0 ?k1 ?k2); (case k0 => assumption); (case k1 => assumption); (case k2 => walk_at "hp"))
  | ((with_reducible refine' Tk.But.gl ?k0 ?k1 ?k2); (case k0 => assumption); (case k1 => assumption); (case k2 => walk_at "hp"))
  | fail "hp")
local macro_rules | `(tactic| walk_at "hall") => `(tactic| first | ((with_reducible refine' Tk.HallAt.bt ?k0 ?k1 ?k2 ?k3); (case k0 => assumption); (case k1 => assumption); (case k2 => assumption); (case k3 => walk_at "hall")) | fail "hall")
local macro_rules | `(tactic| walk_at "parts") => `(tactic| first | ((with_reducible refine' Tk.PartsAt.bt ?k0 ?k1 ?k2); (case k0 => assumption); (case k1 => assumption); (case k2 => walk_at "parts")) | fail "parts")
local macro_rules | `(tactic| walk_at "rd1") => `(tactic| first
  | ((with_reducible refine' Tk.Rd.h_below ?k0 ?k1 ?k2 ?k3 fun r H' cs hr B hd hcs => ?_); (case k0 => walk_at "hp"); (case k1 => assumption); (case k2 => first | decide | omega); (case k3 => first | decide | omega))
  | ((with_reducible refine' Tk.Rd.h_parts ?k0 ?k1 ?k2 ?k3 fun t tp cp m lt tk cl H' cs nt B hd hcs hP l1 l2 => ?_); (case k0 => walk_at "hp"); (case k1 => assumption); (case k2 => first | decide | omega); (case k3 => first | decide | omega))
  | ((with_reducible refine' Tk.Rd.h_partsL ?k0 ?k1 ?k2 ?k3 fun t tp cp m lt tk cl H' cs nt B hd hcs hP l1 l2 => ?_); (case k0 => walk_at "hp"); (case k1 => assumption); (case k2 => first | decide | omega); (case k3 => first | decide | omega))
  | ((with_reducible refine' Tk.Rd.h_small ?k0 ?k1 fun t tp cp m lt tk cl H' cs nt B hd hcs hP m1 l1 l2 l3 => ?_); (case k0 => walk_at "hp"); (case k1 => assumption))
  | ((with_reducible refine' Tk.Rd.h_tick ?k0 ?k1 fun t H' cs ht B hd hcs => ?_); (case k0 => walk_at "hp"); (case k1 => assumption))
  | ((with_reducible refine' Tk.Rd.h_mo ?k0 fun v H' S hv => ?_); (case k0 => walk_at "hall"))
  | ((with_reducible refine' Tk.Rd.h_lc ?k0 fun v H' S hv => ?_); (case k0 => walk_at "hall"))
  | ((with_reducible refine' Tk.Rd.h_lm ?k0 fun v H' S hv => ?_); (case k0 => walk_at "hall"))
  | ((with_reducible refine' Tk.Rd.h_gl ?k0 fun v H' S hv => ?_); (case k0 => walk_at "hall"))
  | ((with_reducible refine' Tk.Rd.h_ot ?k0 ?k1 fun r H' nr S hr => ?_); (case k0 => walk_at "hall"); (case k1 => first | assumption | omega))
  | ((with_reducible refine' Tk.Rd.h_most2 ?k0 fun v H' S hv => ?_); (case k0 => walk_at "parts"))
  | ((with_reducible refine' Tk.Rd.h_opens2L ?k0 ?k1 fun l ys H' nl S hl hlen hR => ?_); (case k0 => walk_at "parts"); (case k1 => decide))
  | ((with_reducible refine' Tk.Rd.h_opens2 ?k0 ?k1 fun l ys H' nl S hl hlen hR => ?_); (case k0 => walk_at "parts"); (case k1 => first | decide | omega))
  | fail "rd1")
local macro_rules | `(tactic| walk_at "ok") => `(tactic| first
  | assumption
  | ((with_reducible refine' Tk.HallAt.ok ?k0); (case k0 => walk_at "hall"))
  | ((with_reducible refine' Tk.PartsAt.ok ?k0); (case k0 => walk_at "parts"))
  | fail "ok")
local macro_rules | `(tactic| walk_at "sml") => `(tactic| first
  | exact Tk.Sml.ints (by walk_at "szb")
  | exact Tk.Sml.intsT (by walk_at "szb")
  | trivial
  | (simp [Tk.Sml]; done)
  | (simp [Tk.Sml]; omega)
  | fail "sml")
local macro_rules | `(tactic| walk_at "rd1") => `(tactic| first
  | ((with_reducible refine' Tk.Rd.nT ?k0 ?_); (case k0 => with_reducible exact rfl))
  | ((with_reducible refine' Tk.Rd.dT ?k0 ?_); (case k0 => with_reducible exact rfl))
  | with_reducible refine Tk.Rd.nF Tk.Rd.int_non ?_
  | with_reducible refine Tk.Rd.nF Tk.Rd.ref_non ?_
  | with_reducible refine Tk.Rd.dF Tk.Rd.int_non ?_
  | with_reducible refine Tk.Rd.dF Tk.Rd.ref_non ?_
  | ((with_reducible refine' Tk.Rd.h_disp ?k0 ?k1 ?_); (case k0 => first | assumption | omega); (case k1 => walk_at "hall"))
  | ((with_reducible refine' Tk.Rd.h_hold ?k0 ?k1 ?k2 ?k3 fun l H' nl S hl => ?_); (case k0 => walk_at "hall"); (case k1 => first | assumption | omega); (case k2 => first | assumption | omega); (case k3 => first | assumption | omega))
  | ((with_reducible refine' Tk.Rd.h_mis ?k0 ?k1 ?k2 fun l ys H' nl S hl hd => ?_); (case k0 => walk_at "hall"); (case k1 => first | assumption | omega); (case k2 => first | assumption | omega))
  | ((with_reducible refine' Tk.Rd.h_enc ?k0 fun l H' nl S hl => ?_); (case k0 => walk_at "hall"))
  | ((with_reducible refine' Tk.Rd.h_dec ?k0 ?k1 fun h lp H' nh nl S hA => ?_); (case k0 => walk_at "hp"); (case k1 => walk_at "ok"))
  | ((with_reducible refine' Tk.Rd.h_text ?k0 fun H' S => ?_); (case k0 => walk_at "hall"))
  | ((with_reducible refine' Tk.Rd.h_eqd ?k0 ?k1 ?k2 fun H' S => ?_); (case k0 => walk_at "dp"); (case k1 => walk_at "dp"); (case k2 => walk_at "sml"))
  | ((with_reducible refine' Tk.Rd.eqd ?k0 ?k1 ?k2 ?k3 ?_); (case k0 => walk_at "dp"); (case k1 => walk_at "dp"); (case k2 => walk_at "sml"); (case k3 => walk_at "sml"))
  | ((with_reducible refine' Tk.Rd.ned ?k0 ?k1 ?k2 ?k3 ?_); (case k0 => walk_at "dp"); (case k1 => walk_at "dp"); (case k2 => walk_at "sml"); (case k3 => walk_at "sml"))
  | fail "rd1")
/-! ### Open tickets, their greatest number -/
namespace Tk
open PySem PySem.Spec PyProof.Rows L2 Mm
def MostV (tk cl : List Nat) (lt : Nat) (v : V) : Prop := (0 < grow tk cl ∧ v = .non) ∨ (grow tk cl = 0 ∧ ∃ M : Nat, v = vn M ∧ MaxIs (opn tk cl lt) M)
def spCo (C : Addr) : Sp := fun vs H Q _ => ∃ (h lp : Addr) (m lt : Nat) (tk cl : List Nat) (t l : Nat), vs = [.ref h, vn t, vn l] ∧ HallAt C H h m tk cl lt lp ∧ ∀ H', Same H H' → Q (vn (opn tk cl l t)) H'
def spMow (C : Addr) : Sp := fun vs H Q _ => ∃ (h lp : Addr) (m lt : Nat) (tk cl : List Nat) (l : Nat), vs = [.ref h, vn l] ∧ HallAt C H h m tk cl lt lp ∧ l ≤ 1000 ∧ ∀ v H', Same H H' → MostV tk cl l v → Q v H'
def spMo (C : Addr) : Sp := fun vs H Q _ => ∃ (h lp : Addr) (m lt : Nat) (tk cl : List Nat), vs = [.ref h] ∧ HallAt C H h m tk cl lt lp ∧ ∀ v H', Same H H' → MostV tk cl lt v → Q v H'
def spOt (C : Addr) : Sp := fun vs H Q _ => ∃ (h lp : Addr) (m lt : Nat) (tk cl : List Nat) (t : Nat), vs = [.ref h, vn t] ∧ HallAt C H h m tk cl lt lp ∧ t ≤ 1000000000000000000 ∧
  ∀ r H', H r = none → Same H H' → H' r = some (.tup [vn (cal tk cl (t - lt)), vn (opn tk cl lt t)]) → Q (.ref r) H'
def spLc (C : Addr) : Sp := fun vs H Q _ => ∃ (h lp : Addr) (m lt : Nat) (tk cl : List Nat), vs = [.ref h] ∧ HallAt C H h m tk cl lt lp ∧ ∀ v H', Same H H' → ((0 < grow tk cl ∧ v = .non) ∨ (grow tk cl = 0 ∧ ∃ M : Nat, v = vn (max 1 ((M + m - 1) / m)) ∧ MaxIs (opn tk cl lt) M)) → Q v H'
def spLm (C : Addr) : Sp := fun vs H Q _ => ∃ (h lp : Addr) (m lt : Nat) (tk cl : List Nat), vs = [.ref h] ∧ HallAt C H h m tk cl lt lp ∧ ∀ v H', Same H H' → ((0 < grow tk cl ∧ v = .non) ∨ (grow tk cl = 0 ∧ ∃ M : Nat, v = vn (max 2 M) ∧ MaxIs (opn tk cl lt) M)) → Q v H'
/-- with the lateness l nothing clashes -/
def Fits (tk cl : List Nat) (m l : Nat) : Prop := grow tk cl = 0 ∧ ∀ t, opn tk cl l t ≤ m
inductive GrL (tk cl : List Nat) (m : Nat) : V → Prop where
  | no (h : ∀ l, l ≤ 99 → ¬ Fits tk cl m l) : GrL tk cl m .non
  | some (L : Nat) (h0 : L ≤ 99) (h1 : Fits tk cl m L) (h2 : ∀ l, L < l → l ≤ 99 → ¬ Fits tk cl m l) : GrL tk cl m (vn L)
def spGl (C : Addr) : Sp := fun vs H Q _ => ∃ (h lp : Addr) (m lt : Nat) (tk cl : List Nat), vs = [.ref h] ∧ HallAt C H h m tk cl lt lp ∧ ∀ v H', Same H H' → GrL tk cl m v → Q v H'
def spTickN : Sp := fun vs H Q _ => ∃ t : Nat, vs = [vn t] ∧ t ≤ 1000000000000000000 ∧ Q .non H
section
variable {P : Program} {w : World} {K : PySem.W.Frag} {mg : Str → Option Value} {base : Heap}
theorem grow_gz {tk cl : List Nat} (h : grow tk cl = 0) : wt tk cl (per tk cl + 1) = wt tk cl (per tk cl + 1 + per tk cl) := by
  have u := wt_up (tk := tk) (cl := cl) per_tk per_cl (per tk cl + 1)
  unfold grow at h
  rw [show 2 * per tk cl + 1 = per tk cl + 1 + per tk cl by omega] at h
  omega
theorem grow0 {tk cl : List Nat} : grow tk cl = 0 ↔ wt tk cl (per tk cl + 1) = wt tk cl (per tk cl + 1 + per tk cl) := by
  have u := wt_up (tk := tk) (cl := cl) per_tk per_cl (per tk cl + 1)
  unfold grow
  rw [show 2 * per tk cl + 1 = per tk cl + 1 + per tk cl by omega]
  omega
theorem opn_int {tk cl : List Nat} {l t : Nat} : V.int ((tak tk (t + 1) : Int) - (cal tk cl (t - l) : Int)) = vn (opn tk cl l t) := vn_int (by have := opn_add (tk := tk) (cl := cl) (lt := l) t; omega)
theorem ok_count_open (T : Txt K mg) : OkF P w K mg base 4 (He.ga K "count_open") ["hall", "tick", "lateness"] (spCo (He.ga K "Hall")) := by
  have G_taken : OkF P w K mg base 1 (He.ma K (He.ga K "Hall") "taken") ["self", "tick"] (spTaken (He.ga K "Hall")) := ok_taken T
  have G_called : OkF P w K mg base 3 (He.ma K (He.ga K "Hall") "called") ["self", "tick"] (spCalled (He.ga K "Hall")) := ok_called T
  refine FnP.okF T.f_count_open sc_count_open (fun _ _ _ _ _ _ us hl => match us, hl with | [_, _, _], _ => rfl) (fun vs H Q E h => ?_) (fun cdv A outer s H vs Q E hr h => ?_)
  · obtain ⟨h, lp, m, lt, tk, cl, t, l, rfl, _⟩ := h
    rfl
  obtain ⟨h, lp, m, lt, tk, cl, t, l, rfl, hA, k⟩ := h
  refine ⟨_, (pss_one (ps_ret (pe_op op_sub (pe_meth (pv 0) T.cl_Hall T.m_taken G_taken.one (hr.mono (by decide)) G_taken.two .nil passL (pa_cons (pe_op op_add (pv 1) pe_int) pa_nil)) (pe_meth (pv 0) T.cl_Hall T.m_called G_called.one (hr.mono (by decide)) G_called.two .nil passL (pa_cons (pe_op op_sub (pv 1) (pv 2)) pa_nil))))), ?_⟩
  walk_at "rd"
  rename_i H1 S1
  have q := k H1 S1
  rw [← opn_int] at q
  exact q
theorem ok_most_open_with (T : Txt K mg) : OkF P w K mg base 7 (He.ga K "most_open_with") ["hall", "lateness"] (spMow (He.ga K "Hall")) := by
  have G_growth : OkF P w K mg base 5 (getAt K (He.ga K "Hall") "growth") ["self"] (spGrowth (He.ga K "Hall")) := ok_growth T
  have G_period : OkF P w K mg base 1 (getAt K (He.ga K "Hall") "period") ["self"] (spPeriod (He.ga K "Hall")) := ok_period T
  have G_count_open : OkF P w K mg base 4 (He.ga K "count_open") ["hall", "tick", "lateness"] (spCo (He.ga K "Hall")) := ok_count_open T
  refine FnP.okF T.f_most_open_with sc_most_open_with (fun _ _ _ _ _ _ us hl => match us, hl with | [_, _], _ => rfl) (fun vs H Q E h => ?_) (fun cdv A outer s H vs Q E hr h => ?_)
  · obtain ⟨h, lp, m, lt, tk, cl, l, rfl, _⟩ := h
    rfl
  obtain ⟨h, lp, m, lt, tk, cl, l, rfl, hA, hl, k⟩ := h
  have p0 := per_pos hA.ok.tkP.pos hA.ok.clP.pos
  have p144 := per_144 hA.ok.tkP hA.ok.clP
  refine ⟨_, (pss_cons (ps_if (pt_cmpR op_gt (pe_prop (pv 0) T.cl_Hall T.p_growth G_growth.one (hr.mono (by decide)) G_growth.two .nil passL (by rfl)) pe_int (nomark _)) (pss_one (ps_ret pe_non)) pss_nil)
    (pss_cons (ps_set (i := 2) sc_most_open_with.nd rfl (Or.inl rfl) (pe_op op_add (pe_prop (pv 0) T.cl_Hall T.p_period G_period.one (hr.mono (by decide)) G_period.two .nil passL (by rfl)) (pv 1)))
    (pss_one (ps_ret (pe_callB (maxLK (K := K)) (by rfl) T.g_max (by decide +kernel) (pa_cons (pe_lc (own := [("tick", 3)]) (g := gName 3) (tt := tYes) (by rfl) sc_most_open_with.nd (pi_range2 (by rfl) T.g_range (pa_cons (pv 2) (pa_cons (pe_op op_add (pv 2) (pe_prop (pv 0) T.cl_Hall T.p_period G_period.one (hr.mono (by decide)) G_period.two .nil passL (by rfl))) pa_nil))) (blkOk_by (own := [("tick", 3)]) (N := N_most_open_with) (sc := (defScope s_most_open_with)) (by decide +kernel)) (fun _ _ _ _ _ => pg_name (i := 3) sc_most_open_with.nd rfl (Or.inl rfl)) (fun _ _ _ _ _ => pts_nil) (fun _ _ _ _ _ => (pe_call G_count_open.one (hr.mono (by decide)) (by rfl) T.g_count_open G_count_open.kp G_count_open.two .nil passL (pa_cons (pv 0) (pa_cons (pv 3) (pa_cons (pv 1) pa_nil)))))) pa_nil)))))), ?_⟩
  walk_at "rd"
  rename_i H1 S1
  refine Rd.d2 (fun c => ?_) fun c => ?_
  · exact k _ _ S1 (.inl ⟨by omega, rfl⟩)
  have g0 : grow tk cl = 0 := by omega
  have gz := grow_gz g0
  walk_at "rd"
  refine Rd.rng2K_i (by omega) ?_
  rw [show ((per tk cl : Int) + (l : Int) + (per tk cl : Int) - ((per tk cl : Int) + (l : Int))).toNat = per tk cl by omega]
  refine Rd.lc_rngL (fun i => vn (opn tk cl l (per tk cl + l + i))) (by omega) (fun i hi => Rd.turn1 rfl fun H' S Q' q => ?_) fun D H2 nD S2 h2 => ?_
  · walk_at "rd"
    refine ⟨h, lp, m, lt, tk, cl, per tk cl + l + i, l, ?_, (by walk_at "hall"), q⟩
    rw [show ((per tk cl : Int) + (l : Int) + (i : Int)) = ((per tk cl + l + i : Nat) : Int) by omega]
  · walk_at "rd"
    refine ⟨D, (List.range (per tk cl)).map fun i => ((opn tk cl l (per tk cl + l + i) : Nat) : Int), rfl, SqL.of (by rw [List.map_map]; exact h2), by simp; omega, fun z hz hall => ?_⟩
    obtain ⟨i, hi, rfl⟩ := List.mem_map.mp hz
    refine k _ _ (S1.trans S2) (.inr ⟨g0, _, rfl, opn_max p0 per_tk per_cl gz (fun j hj => ?_) ⟨_, rfl⟩⟩)
    have := hall _ (List.mem_map.mpr ⟨j, List.mem_range.mpr hj, rfl⟩)
    omega
theorem ok_most_open (T : Txt K mg) : OkF P w K mg base 8 (He.ga K "most_open") ["hall"] (spMo (He.ga K "Hall")) := by
  have G_most_open_with : OkF P w K mg base 7 (He.ga K "most_open_with") ["hall", "lateness"] (spMow (He.ga K "Hall")) := ok_most_open_with T
  refine FnP.okF T.f_most_open sc_most_open (fun _ _ _ _ _ _ us hl => match us, hl with | [_], _ => rfl) (fun vs H Q E h => ?_) (fun cdv A outer s H vs Q E hr h => ?_)
  · obtain ⟨h, lp, m, lt, tk, cl, rfl, _⟩ := h
    rfl
  obtain ⟨h, lp, m, lt, tk, cl, rfl, hA, k⟩ := h
  have l99 := hA.ok.l99
  refine ⟨_, (pss_one (ps_ret (pe_call G_most_open_with.one (hr.mono (by decide)) (by rfl) T.g_most_open_with G_most_open_with.kp G_most_open_with.two .nil passL (pa_cons (pv 0) (pa_cons (pe_fld (pv 0) rfl) pa_nil))))), ?_⟩
  walk_at "rd"
  exact ⟨h, lp, m, lt, tk, cl, lt, rfl, hA, by omega, k⟩
end
end Tk
namespace Tk
open PySem PySem.Spec PyProof.Rows L2 Mm
def ColV (tk cl : List Nat) (m lt : Nat) (v : V) : Prop := (0 < grow tk cl ∧ v = .non) ∨ (grow tk cl = 0 ∧ ∃ M : Nat, v = vn (max 1 ((M + m - 1) / m)) ∧ MaxIs (opn tk cl lt) M)
def LmV (tk cl : List Nat) (lt : Nat) (v : V) : Prop := (0 < grow tk cl ∧ v = .non) ∨ (grow tk cl = 0 ∧ ∃ M : Nat, v = vn (max 2 M) ∧ MaxIs (opn tk cl lt) M)
theorem MostV.uniq {tk cl : List Nat} {lt : Nat} {v u : V} (a : MostV tk cl lt v) (b : MostV tk cl lt u) : v = u := by
  rcases a with ⟨a, rfl⟩ | ⟨a, M, rfl, hM⟩ <;> rcases b with ⟨b, rfl⟩ | ⟨b, N, rfl, hN⟩
  · rfl
  · omega
  · omega
  · rw [hM.uniq hN]
theorem ColV.uniq {tk cl : List Nat} {m lt : Nat} {v u : V} (a : ColV tk cl m lt v) (b : ColV tk cl m lt u) : v = u := by
  rcases a with ⟨a, rfl⟩ | ⟨a, M, rfl, hM⟩ <;> rcases b with ⟨b, rfl⟩ | ⟨b, N, rfl, hN⟩
  · rfl
  · omega
  · omega
  · rw [hM.uniq hN]
theorem LmV.uniq {tk cl : List Nat} {lt : Nat} {v u : V} (a : LmV tk cl lt v) (b : LmV tk cl lt u) : v = u := by
  rcases a with ⟨a, rfl⟩ | ⟨a, M, rfl, hM⟩ <;> rcases b with ⟨b, rfl⟩ | ⟨b, N, rfl, hN⟩
  · rfl
  · omega
  · omega
  · rw [hM.uniq hN]
theorem GrL.uniq {tk cl : List Nat} {m : Nat} {v u : V} (a : GrL tk cl m v) (b : GrL tk cl m u) : v = u := by
  cases a with
  | no h =>
    cases b with
    | no _ => rfl
    | some L h0 h1 h2 => exact absurd h1 (h L h0)
  | some L h0 h1 h2 =>
    cases b with
    | no h => exact absurd h1 (h L h0)
    | some N k0 k1 k2 =>
      rcases Nat.lt_trichotomy L N with z | z | z
      · exact absurd k1 (h2 N z k0)
      · rw [z]
      · exact absurd h1 (k2 L z h0)
namespace Rd
variable {K : PySem.W.Frag} {H : Hp} {Q : VK} {E : XK} {C h lp : Addr} {m lt : Nat} {tk cl : List Nat}
theorem h_mo (hA : HallAt C H h m tk cl lt lp) (k : ∀ v H', Same H H' → MostV tk cl lt v → Q v H') : spMo C [.ref h] H Q E := ⟨h, lp, m, lt, tk, cl, rfl, hA, k⟩
theorem h_lc (hA : HallAt C H h m tk cl lt lp) (k : ∀ v H', Same H H' → ColV tk cl m lt v → Q v H') : spLc C [.ref h] H Q E := ⟨h, lp, m, lt, tk, cl, rfl, hA, k⟩
theorem h_lm (hA : HallAt C H h m tk cl lt lp) (k : ∀ v H', Same H H' → LmV tk cl lt v → Q v H') : spLm C [.ref h] H Q E := ⟨h, lp, m, lt, tk, cl, rfl, hA, k⟩
theorem h_gl (hA : HallAt C H h m tk cl lt lp) (k : ∀ v H', Same H H' → GrL tk cl m v → Q v H') : spGl C [.ref h] H Q E := ⟨h, lp, m, lt, tk, cl, rfl, hA, k⟩
theorem h_ot {t : Nat} (hA : HallAt C H h m tk cl lt lp) (ht : t ≤ 1000000000000000000) (k : ∀ r H', H r = none → Same H H' → H' r = some (.tup [vn (cal tk cl (t - lt)), vn (opn tk cl lt t)]) → Q (.ref r) H') : spOt C [.ref h, .int (t : Int)] H Q E := ⟨h, lp, m, lt, tk, cl, t, rfl, hA, ht, k⟩
end Rd
end Tk

end

/-! ### Plans: the mathematics -/
namespace Tk
open PySem PySem.Spec PyProof.Rows L2 Mm
namespace Pn
/-- the calls with one more at each place of a plan -/
def addAt (cl pl : List Nat) : List Nat := (List.range cl.length).map fun i => cl.getD i 0 + pl.count i
def lastP (pl : List Nat) : Nat := pl.getLast?.getD 0
def NC (m : Nat) (tk cl : List Nat) (lt : Nat) : Prop := ∃ M, MostV tk cl lt (vn M) ∧ M ≤ m
noncomputable def ncB (m : Nat) (tk cl : List Nat) (lt : Nat) (pl : List Nat) : Bool := @decide (NC m tk (addAt cl pl) lt) (Classical.propDecidable _)
theorem ncB_iff {m lt : Nat} {tk cl pl : List Nat} : ncB m tk cl lt pl = true ↔ NC m tk (addAt cl pl) lt := by
  unfold ncB
  exact @decide_eq_true_iff _ (Classical.propDecidable _)
/-- all longer plans; those that the program goes on with -/
def ext (n : Nat) (pl : List Nat) : List (List Nat) := (List.range (n - lastP pl)).map fun j => pl ++ [lastP pl + j]
def okx (cl pl : List Nat) (j : Nat) : Bool := decide (cl.getD (lastP pl + j) 0 + pl.count (lastP pl + j) < 9)
def extP (cl pl : List Nat) : List (List Nat) := ((List.range (cl.length - lastP pl)).filter (okx cl pl)).map fun j => pl ++ [lastP pl + j]
def full (n : Nat) : Nat → List (List Nat)
  | 0 => [[]]
  | k + 1 => (full n k).flatMap (ext n)
def pru (cl : List Nat) : Nat → List (List Nat)
  | 0 => [[]]
  | k + 1 => (pru cl k).flatMap (extP cl)
/-- no item above nine -/
def fine (cl pl : List Nat) : Bool := (addAt cl pl).all fun x => decide (x ≤ 9)
theorem addAt_len {cl pl : List Nat} : (addAt cl pl).length = cl.length := by unfold addAt; simp
theorem addAt_nil {cl : List Nat} : addAt cl [] = cl := by
  unfold addAt
  have := Rd.range_get cl 0 id
  simpa using this
theorem fine_iff {cl pl : List Nat} : fine cl pl = true ↔ ∀ i < cl.length, cl.getD i 0 + pl.count i ≤ 9 := by
  unfold fine addAt
  rw [List.all_map, List.all_eq_true]
  constructor
  · intro h i hi
    have := h i (List.mem_range.mpr hi)
    simpa using this
  · intro h i hi
    have := h i (List.mem_range.mp hi)
    simpa using this
theorem fine_snoc {cl pl : List Nat} {p : Nat} (hp : p < cl.length) : fine cl (pl ++ [p]) = (fine cl pl && decide (cl.getD p 0 + pl.count p < 9)) := by
  rw [Bool.eq_iff_iff, Bool.and_eq_true, decide_eq_true_eq, fine_iff, fine_iff]
  have cnt : ∀ i, (pl ++ [p]).count i = pl.count i + if p = i then 1 else 0 := fun i => by
    rw [List.count_append]
    congr 1
    by_cases h : p = i <;> simp [h]
  constructor
  · intro h
    refine ⟨fun i hi => ?_, ?_⟩
    · have := h i hi
      rw [cnt] at this
      omega
    · have := h p hp
      rw [cnt, if_pos rfl] at this
      omega
  · rintro ⟨h1, h2⟩ i hi
    rw [cnt]
    by_cases e : p = i
    · subst e
      rw [if_pos rfl]
      omega
    · rw [if_neg e]
      have := h1 i hi
      omega
theorem ext_fine {cl pl : List Nat} : (ext cl.length pl).filter (fine cl) = if fine cl pl = true then extP cl pl else [] := by
  unfold ext extP
  rw [List.filter_map]
  by_cases h : fine cl pl = true
  · rw [if_pos h]
    congr 1
    refine List.filter_congr fun j hj => ?_
    have := List.mem_range.mp hj
    show fine cl (pl ++ [lastP pl + j]) = okx cl pl j
    rw [fine_snoc (by omega), h, Bool.true_and]
    rfl
  · rw [if_neg h]
    rw [List.map_eq_nil_iff, List.filter_eq_nil_iff]
    intro j hj
    have := List.mem_range.mp hj
    show ¬ fine cl (pl ++ [lastP pl + j]) = true
    rw [fine_snoc (by omega)]
    simp [h]
theorem pru_full {cl : List Nat} (h : ∀ x ∈ cl, x ≤ 9) : ∀ k, pru cl k = (full cl.length k).filter (fine cl)
  | 0 => by
    have : fine cl [] = true := fine_iff.mpr fun i hi => by
      have := h _ (List.mem_of_getElem? (List.getElem?_eq_getElem hi))
      rw [List.getD_eq_getElem?_getD, List.getElem?_eq_getElem hi]
      simpa using this
    show [[]] = ([[]] : List (List Nat)).filter (fine cl)
    simp [this]
  | k + 1 => by
    show (pru cl k).flatMap (extP cl) = ((full cl.length k).flatMap (ext cl.length)).filter (fine cl)
    rw [pru_full h k, List.filter_flatMap]
    induction full cl.length k with
    | nil => rfl
    | cons pl r ih =>
      rw [List.flatMap_cons, ← ih, ext_fine, List.filter_cons]
      by_cases c : fine cl pl = true
      · rw [if_pos c, if_pos c, List.flatMap_cons]
      · rw [if_neg c, if_neg c, List.nil_append]
theorem full_len {n : Nat} (hn : n ≤ 3) : ∀ k, (full n k).length ≤ 3 ^ k
  | 0 => Nat.le_refl _
  | k + 1 => by
    have ih := full_len hn k
    show ((full n k).flatMap (ext n)).length ≤ 3 ^ (k + 1)
    have : ∀ l : List (List Nat), (l.flatMap (ext n)).length ≤ 3 * l.length := fun l => by
      induction l with
      | nil => simp
      | cons a r ih2 =>
        rw [List.flatMap_cons, List.length_append, List.length_cons]
        have : (ext n a).length ≤ 3 := by unfold ext; rw [List.length_map, List.length_range]; omega
        omega
    have := this (full n k)
    rw [Nat.pow_succ]
    omega
theorem mem_len {n : Nat} : ∀ k, ∀ pl ∈ full n k, pl.length = k ∧ ∀ p ∈ pl, p < n
  | 0, pl, h => by
    obtain rfl : pl = [] := by simpa [full] using h
    exact ⟨rfl, fun p hp => by cases hp⟩
  | k + 1, pl, h => by
    obtain ⟨q, hq, hm⟩ := List.mem_flatMap.mp h
    obtain ⟨l1, l2⟩ := mem_len k q hq
    unfold ext at hm
    obtain ⟨j, hj, rfl⟩ := List.mem_map.mp hm
    have := List.mem_range.mp hj
    refine ⟨by simp [l1], fun p hp => ?_⟩
    rcases List.mem_append.mp hp with hp | hp
    · exact l2 p hp
    · rw [List.mem_singleton.mp hp]
      omega
theorem pru_mem {cl : List Nat} (h : ∀ x ∈ cl, x ≤ 9) {k : Nat} {pl : List Nat} (hm : pl ∈ pru cl k) : pl.length = k ∧ fine cl pl = true := by
  rw [pru_full h] at hm
  obtain ⟨h1, h2⟩ := List.mem_filter.mp hm
  exact ⟨(mem_len k pl h1).1, h2⟩
theorem fine_nine {cl pl : List Nat} (h : fine cl pl = true) : ∀ x ∈ addAt cl pl, x ≤ 9 := fun x hx => by
  have := List.all_eq_true.mp h x hx
  simpa using this
/-- the plan that is found -/
noncomputable def found (m : Nat) (tk cl : List Nat) (lt : Nat) (ps : List (List Nat)) : Option (List Nat) := ps.find? (ncB m tk cl lt)
theorem find_eq {m lt : Nat} {tk cl : List Nat} (h : ∀ x ∈ cl, x ≤ 9) (n : Nat) : ((List.range n).flatMap (pru cl)).find? (ncB m tk cl lt) = ((List.range n).flatMap (full cl.length)).find? (fun pl => fine cl pl && ncB m tk cl lt pl) := by
  have e : (List.range n).flatMap (pru cl) = ((List.range n).flatMap (full cl.length)).filter (fine cl) := by
    rw [List.filter_flatMap]
    refine congrArg (fun g => (List.range n).flatMap g) (funext fun k => pru_full h k)
  rw [e, List.find?_filter]
  congr 1
  funext pl
  cases fine cl pl <;> cases ncB m tk cl lt pl <;> rfl
theorem hit {α β : Type} {p : β → Bool} {f : α → List β} {l : List α} {i j : Nat} {x : α} {b : β} (hx : l[i]? = some x) (h0 : ((l.take i).flatMap f).find? p = none) (hb : (f x)[j]? = some b) (h1 : ((f x).take j).find? p = none) (hp : p b = true) : (l.flatMap f).find? p = some b := by
  have hi : i < l.length := (List.getElem?_eq_some_iff.mp hx).1
  have hj : j < (f x).length := (List.getElem?_eq_some_iff.mp hb).1
  have e1 : l = l.take i ++ x :: l.drop (i + 1) := by
    have e : l[i] = x := (List.getElem?_eq_some_iff.mp hx).2
    rw [← e, List.getElem_cons_drop hi, List.take_append_drop]
  have e2 : f x = (f x).take j ++ b :: (f x).drop (j + 1) := by
    have e : (f x)[j] = b := (List.getElem?_eq_some_iff.mp hb).2
    rw [← e, List.getElem_cons_drop hj, List.take_append_drop]
  rw [e1, List.flatMap_append, List.find?_append, h0, List.flatMap_cons, List.find?_append, e2, List.find?_append, h1, List.find?_cons, hp]
  rfl
theorem miss {α : Type} {p : α → Bool} {l : List α} {j : Nat} {x : α} (hx : l[j]? = some x) (h1 : (l.take j).find? p = none) (hp : p x = false) : (l.take (j + 1)).find? p = none := by
  rw [List.take_succ, hx, List.find?_append, h1]
  show (none : Option α).or (List.find? p [x]) = none
  rw [List.find?_cons, hp]
  rfl
/-- overwritten from behind: the first one stays -/
theorem back {α : Type} (p : α → Bool) (l : List α) (e : Option α) : l.reverse.foldl (fun e x => if p x = true then some x else e) e = (l.find? p).or e := by
  rw [List.foldl_reverse]
  induction l with
  | nil => rfl
  | cons x r ih =>
    rw [List.foldr_cons, ih, List.find?_cons]
    cases p x <;> simp
theorem back2 {α : Type} (p : α → Bool) (ls : List (List α)) (e : Option α) : ls.reverse.foldl (fun e l => l.reverse.foldl (fun e x => if p x = true then some x else e) e) e = (ls.flatten.find? p).or e := by
  rw [List.foldl_reverse]
  induction ls with
  | nil => rfl
  | cons l r ih =>
    rw [List.foldr_cons, ih, back, List.flatten_cons, List.find?_append, Option.or_assoc]
end Pn
end Tk

section
local macro_rules | `(tactic| walk_at "hp") => `(tactic| first
  | assumption
  | with_reducible exact L2.upd_same
  | ((with_reducible refine' Tk.Same.get ?k0 ?k1); (case k0 => assumption); (case k1 => walk_at "hp"))
  | fail "hp")
local macro_rules | `(tactic| walk_at "same") => `(tactic| first
  | assumption
  | exact L2.Same.refl _
  | ((with_reducible refine' Tk.Same.nw ?k0 ?k1); (case k0 => assumption); (case k1 => walk_at "same"))
  | ((with_reducible refine' Tk.Same.tr ?k0 ?k1); (case k0 => assumption); (case k1 => walk_at "same")))
local macro_rules | `(tactic| walk_at "sql") => `(tactic| first
  | assumption
  | ((with_reducible refine' L2.SqL.of ?k0); (case k0 => walk_at "hp"))
  | ((with_reducible refine' L2.Same.seq ?k0 ?k1); (case k0 => assumption); (case k1 => walk_at "sql")))
local macro_rules | `(tactic| walk_at "sqt") => `(tactic| first
  | assumption
  | ((with_reducible refine' L2.SqT.of ?k0); (case k0 => walk_at "hp"))
  | ((with_reducible refine' Tk.sqt_sm ?k0 ?k1); (case k0 => assumption); (case k1 => walk_at "sqt")))
local macro_rules | `(tactic| walk_at "sz") => `(tactic| first
  | (show (_ : Nat) ≤ 1000; decide)
  | (simp; done)
  | (simp; omega))
local macro_rules | `(tactic| walk_at "szb") => `(tactic| first
  | assumption
  | (show (_ : Nat) ≤ 100000; decide)
  | (simp; done)
  | (simp; omega))
local macro_rules | `(tactic| walk_at "dp") => `(tactic| first
  | assumption
  | with_reducible exact L2.Dp.non
  | with_reducible exact L2.Dp.int _
  | with_reducible exact L2.Dp.str _
  | with_reducible exact L2.Dp.bl _
  | ((with_reducible refine' L2.Dp.lst ?k0 ?k1); (case k0 => walk_at "sql"); (case k1 => walk_at "dpa"))
  | ((with_reducible refine' L2.Dp.tup ?k0 ?k1); (case k0 => walk_at "sqt"); (case k1 => walk_at "dpa"))
  | ((with_reducible refine' Tk.dp_sm ?k0 ?k1); (case k0 => assumption); (case k1 => walk_at "dp"))
  | fail "dp")
local macro_rules | `(tactic| walk_at "dpa") => `(tactic| first
  | assumption
  | with_reducible exact L2.DpAll.nil
  | ((with_reducible refine' L2.DpAll.cons ?k0 ?k1); (case k0 => walk_at "dp"); (case k1 => walk_at "dpa"))
  | with_reducible exact Tk.dp_nats _
  | ((with_reducible refine' Tk.dpA_sm ?k0 ?k1); (case k0 => assumption); (case k1 => walk_at "dpa"))
  | fail "dpa")
local macro_rules | `(tactic| walk_at "ci") => `(tactic| first
  | exact .inl ⟨by decide, by decide⟩
  | exact .inr ⟨by decide, by decide⟩
  | exact .inl ⟨by omega, by omega⟩
  | exact .inr ⟨by omega, by omega⟩
  | exact ⟨by decide, by decide⟩
  | exact ⟨by omega, by omega⟩
  | (show (0 : Int) < _; decide)
  | (show (0 : Int) < _; omega))
local macro_rules | `(tactic| walk_at "rd1") => `(tactic| first
  | with_reducible refine Tk.Rd.seq ?_
  | with_reducible refine Tk.Rd.star ?_
  | with_reducible refine Tk.Rd.int1_i ?_
  | with_reducible refine Tk.Rd.int1_b ?_
  | with_reducible refine Tk.Rd.tlc2 ?_
  | with_reducible refine Tk.Rd.lrg3 ?_
  | with_reducible refine Tk.Rd.lrg ?_
  | with_reducible refine Tk.Rd.rg1 ?_
  | with_reducible refine Tk.Rd.rg1K_i ?_
  | with_reducible refine Tk.Rd.rg2 ?_
  | with_reducible refine Tk.Rd.rg2K_i ?_
  | ((with_reducible refine' Tk.Rd.catL ?k0 ?k1 ?k2 fun p H' np S hp => ?_); (case k0 => walk_at "hp"); (case k1 => walk_at "hp"); (case k2 => walk_at "szb"))
  | ((with_reducible refine' Tk.Rd.starK_t ?k0 ?_); (case k0 => walk_at "sqt"))
  | ((with_reducible refine' Tk.Rd.starK_l ?k0 ?_); (case k0 => walk_at "sql"))
  | ((with_reducible refine' Tk.Rd.var ?k0 ?_); (case k0 => exact rfl))
  | with_reducible refine Tk.Rd.c ?_
  | with_reducible refine Tk.Rd.op ?_
  | with_reducible refine Tk.Rd.i0 ?_
  | with_reducible refine Tk.Rd.asg ?_
  | with_reducible refine Tk.Rd.name ?_
  | with_reducible refine Tk.Rd.cons ?_
  | with_reducible refine Tk.Rd.nil ?_
  | with_reducible refine Tk.Rd.call ?_
  | with_reducible refine Tk.Rd.callK_i ?_
  | with_reducible refine Tk.Rd.tst ?_
  | with_reducible refine Tk.Rd.bv ?_
  | with_reducible refine Tk.Rd.toB_i ?_
  | with_reducible refine Tk.Rd.ift ?_
  | with_reducible refine Tk.Rd.iff ?_
  | with_reducible refine Tk.Rd.ifnt ?_
  | with_reducible refine Tk.Rd.ifnf ?_
  | with_reducible refine Tk.Rd.not ?_
  | with_reducible refine Tk.Rd.and ?_
  | with_reducible refine Tk.Rd.or ?_
  | with_reducible refine Tk.Rd.andV ?_
  | with_reducible refine Tk.Rd.andK_i ?_
  | with_reducible refine Tk.Rd.orV ?_
  | with_reducible refine Tk.Rd.orK_i ?_
  | with_reducible refine Tk.Rd.notV ?_
  | with_reducible refine Tk.Rd.notK_i ?_
  | with_reducible refine Tk.Rd.tif ?_
  | with_reducible refine Tk.Rd.yes ?_
  | with_reducible refine Tk.Rd.tfor ?_
  | with_reducible refine Tk.Rd.tlc ?_
  | with_reducible refine Tk.Rd.rng ?_
  | ((with_reducible refine' Tk.Rd.rngK_n ?k0 ?_); (case k0 => first | decide | omega))
  | ((with_reducible refine' Tk.Rd.rngK_lit ?k0 ?_); (case k0 => decide))
  | with_reducible refine Tk.Rd.rng2 ?_
  | with_reducible refine Tk.Rd.rng3 ?_
  | with_reducible refine Tk.Rd.ilist ?_
  | with_reducible refine Tk.Rd.zip ?_
  | with_reducible refine Tk.Rd.itup ?_
  | ((with_reducible refine' Tk.Rd.listK_i ?k0 ?_); (case k0 => walk_at "sql"))
  | ((with_reducible refine' Tk.Rd.ituK_i ?k0 ?_); (case k0 => walk_at "sqt"))
  | with_reducible refine Tk.Rd.chain ?_
  | with_reducible refine Tk.Rd.chainL_i ?_
  | with_reducible refine Tk.Rd.un ?_
  | with_reducible refine Tk.Rd.u1 ?_
  | ((with_reducible refine' Tk.Rd.i1 ?k0 ?_); (case k0 => walk_at "ci"))
  | ((with_reducible refine' Tk.Rd.eq ?k0 ?_); (case k0 => exact rfl))
  | ((with_reducible refine' Tk.Rd.ne ?k0 ?_); (case k0 => exact rfl))
  | with_reducible refine Tk.Rd.isN ?_
  | with_reducible refine Tk.Rd.notN ?_
  | with_reducible refine Tk.Rd.fld ?_
  | with_reducible refine Tk.Rd.meth ?_
  | with_reducible refine Tk.Rd.prop ?_
  | with_reducible refine Tk.Rd.cb ?_
  | with_reducible refine Tk.Rd.bm ?_
  | with_reducible refine Tk.Rd.m0 ?_
  | with_reducible refine Tk.Rd.m0K_i ?_
  | with_reducible refine Tk.Rd.m1 ?_
  | with_reducible refine Tk.Rd.m1K_i ?_
  | with_reducible refine Tk.Rd.tup ?_
  | ((with_reducible refine' Tk.Rd.tupK_i ?k0 fun p H' np S hp => ?_); (case k0 => walk_at "sz"))
  | with_reducible refine Tk.Rd.lst ?_
  | ((with_reducible refine' Tk.Rd.lstK_i ?k0 fun p H' np S hp => ?_); (case k0 => walk_at "sz"))
  | ((with_reducible refine' Tk.Rd.ixF ?k0 ?k1 ?_); (case k0 => walk_at "hp"); (case k1 => omega))
  | ((with_reducible refine' Tk.Rd.ixF1 ?k0 ?k1 ?_); (case k0 => walk_at "hp"); (case k1 => omega))
  | ((with_reducible refine' Tk.Rd.ixT ?k0 ?k1 ?_); (case k0 => walk_at "sqt"); (case k1 => exact rfl))
  | ((with_reducible refine' Tk.Rd.ixL ?k0 ?k1 ?_); (case k0 => walk_at "sql"); (case k1 => exact rfl))
  | ((with_reducible refine' Tk.Rd.lenL ?k0 ?_); (case k0 => walk_at "sql"))
  | ((with_reducible refine' Tk.Rd.lenT ?k0 ?_); (case k0 => walk_at "sqt"))
  | ((with_reducible refine' Tk.Rd.lenS ?k0 ?_); (case k0 => first | assumption | omega | (simp; omega)))
  | ((with_reducible refine' Tk.Rd.slTr ?k0 fun p H' S hp => ?_); (case k0 => walk_at "hp"))
  | ((with_reducible refine' Tk.Rd.slT ?k0 fun p H' S hq => ?_); (case k0 => walk_at "sqt"))
  | ((with_reducible refine' Tk.Rd.catTr ?k0 ?k1 ?k2 fun p H' S hp => ?_); (case k0 => walk_at "hp"); (case k1 => walk_at "hp"); (case k2 => walk_at "sz"))
  | ((with_reducible refine' Tk.Rd.catA ?k0 ?k1 ?k2 ?k3 ?k4 fun p H' np S hp => ?_); (case k0 => walk_at "sqt"); (case k1 => walk_at "sqt"); (case k2 => simp); (case k3 => simp); (case k4 => first | (simp; done) | (simp; omega)))
  | with_reducible refine Tk.Rd.make ?_
  | ((with_reducible refine' Tk.Rd.tplL ?k0 fun q H' nq S hq => ?_); (case k0 => walk_at "sql"))
  | ((with_reducible refine' Tk.Rd.lstL ?k0 fun q H' nq S hq => ?_); (case k0 => walk_at "sql"))
  | ((with_reducible refine' Tk.Rd.lstT ?k0 fun q H' nq S hq => ?_); (case k0 => walk_at "sqt"))
  | ((with_reducible refine' Tk.Rd.join ?k0 ?k1 ?_); (case k0 => walk_at "sql"); (case k1 => first | assumption | omega))
  | with_reducible refine Tk.Rd.mx ?_
  | with_reducible refine Tk.Rd.mn ?_
  | with_reducible refine Tk.Rd.noPart ?_
  | with_reducible refine Tk.Rd.part ?_
  | with_reducible refine Tk.Rd.partK_i ?_
  | with_reducible refine Tk.Rd.slc ?_
  | ((with_reducible refine' Tk.Rd.gtup ?k0 ?k1 ?_); (case k0 => walk_at "sqt"); (case k1 => exact rfl))
  | ((with_reducible refine' Tk.Rd.glst ?k0 ?k1 ?_); (case k0 => walk_at "sql"); (case k1 => exact rfl))
  | with_reducible refine Tk.Rd.gcons ?_
  | with_reducible refine Tk.Rd.gnil ?_
  | with_reducible refine Tk.Rd.next ?_
  | with_reducible refine Tk.Rd.drop ?_
  | with_reducible refine Tk.Rd.ret ?_
  | with_reducible refine Tk.Rd.retN ?_
  | with_reducible refine Tk.Rd.par ?_
  | with_reducible refine Tk.Rd.parK_i ?_
  | with_reducible refine Tk.Rd.par3 ?_
  | with_reducible refine Tk.Rd.par3K_i ?_
  | ((with_reducible refine' Tk.Rd.aug ?k0 ?_); (case k0 => exact rfl))
  | with_reducible refine Tk.Rd.ip ?_
  | ((with_reducible refine' Tk.Rd.bmK_l ?k0 ?_); (case k0 => walk_at "sql"))
  | ((with_reducible refine' Tk.Rd.addS ?k0 ?_); (case k0 => walk_at "sz"))
  | fail "rd1")
local macro_rules | `(tactic| walk_at "rd1i") => `(tactic| first
  | walk_at "rd1"
  | with_reducible refine Tk.Rd.ifS ?_
  | fail "rd1i")
local macro_rules | `(tactic| walk_at "rd") => `(tactic| (repeat' walk_at "rd1i"))
local macro_rules | `(tactic| walk_at "rs") => `(tactic| ((repeat' walk_at "rd1"); (try dsimp only)))
local macro_rules | `(tactic| walk_at "hall") => `(tactic| first
  | assumption
  | ((with_reducible refine' Tk.HallAt.sm ?k0 ?k1); (case k0 => assumption); (case k1 => walk_at "hall"))
  | fail "hall")
local macro_rules | `(tactic| walk_at "parts") => `(tactic| first
  | assumption
  | ((with_reducible refine' Tk.PartsAt.sm ?k0 ?k1); (case k0 => assumption); (case k1 => walk_at "parts"))
  | fail "parts")
local macro_rules | `(tactic| walk_at "sm") => `(tactic| first
  | assumption
  | exact Tk.Sm.int rfl
  | exact Tk.Sm.flat1 rfl
  | ((with_reducible refine' Tk.Sm.sm ?k0 ?k1); (case k0 => assumption); (case k1 => walk_at "sm"))
  | fail "sm")
local macro_rules | `(tactic| walk_at "rd1") => `(tactic| first
  | ((with_reducible refine' Tk.Rd.f_modulus ?k0 ?k1 ?_); (case k0 => assumption); (case k1 => walk_at "hall"))
  | ((with_reducible refine' Tk.Rd.f_lateness ?k0 ?k1 ?_); (case k0 => assumption); (case k1 => walk_at "hall"))
  | ((with_reducible refine' Tk.Rd.f_takes ?k0 ?k1 fun tp htp => ?_); (case k0 => assumption); (case k1 => walk_at "hall"))
  | ((with_reducible refine' Tk.Rd.f_calls ?k0 ?k1 fun cp hcp => ?_); (case k0 => assumption); (case k1 => walk_at "hall"))
  | ((with_reducible refine' Tk.Rd.h_meth ?k0 ?k1 ?_); (case k0 => walk_at "hall"); (case k1 => decide +kernel))
  | ((with_reducible refine' Tk.Rd.h_prop ?k0 ?_); (case k0 => walk_at "hall"))
  | ((with_reducible refine' Tk.Rd.h_taken0 ?k0 fun H' S => ?_); (case k0 => walk_at "hall"))
  | ((with_reducible refine' Tk.Rd.h_taken1 ?k0 fun H' S => ?_); (case k0 => walk_at "hall"))
  | ((with_reducible refine' Tk.Rd.h_takenL ?k0 fun H' S => ?_); (case k0 => walk_at "hall"))
  | ((with_reducible refine' Tk.Rd.h_called0 ?k0 ?_); (case k0 => walk_at "hall"))
  | ((with_reducible refine' Tk.Rd.h_called1 ?k0 ?_); (case k0 => walk_at "hall"))
  | ((with_reducible refine' Tk.Rd.h_calledL ?k0 ?_); (case k0 => walk_at "hall"))
  | ((with_reducible refine' Tk.Rd.h_waiting ?k0 ?k1 fun H' S => ?_); (case k0 => walk_at "hall"); (case k1 => omega))
  | ((with_reducible refine' Tk.Rd.h_growth ?k0 fun H' S => ?_); (case k0 => walk_at "hall"))
  | ((with_reducible refine' Tk.Rd.h_period ?k0 ?_); (case k0 => walk_at "hall"))
  | ((with_reducible refine' Tk.Rd.h_lhall ?k0 fun h lp H' nh nl S hA => ?_); (case k0 => walk_at "parts"))
  | ((with_reducible refine' Tk.Rd.h_length ?k0 ?_); (case k0 => walk_at "parts"))
  | ((with_reducible refine' Tk.Rd.h_counts ?k0 ?k1 fun r a b H' nr na nb nab S hr ha hb => ?_); (case k0 => walk_at "parts"); (case k1 => omega))
  | ((with_reducible refine' Tk.Rd.h_countsL ?k0 ?k1 fun r a b H' nr na nb nab S hr ha hb => ?_); (case k0 => walk_at "parts"); (case k1 => decide))
  | ((with_reducible refine' Tk.Rd.h_make ?k0 ?k1 ?k2 fun h lp H' nh nl S hA => ?_); (case k0 => assumption); (case k1 => walk_at "hp"); (case k2 => walk_at "hp"))
  | ((with_reducible refine' Tk.Rd.p_0 ?k0 ?_); (case k0 => walk_at "parts"))
  | ((with_reducible refine' Tk.Rd.p_1 ?k0 fun htp => ?_); (case k0 => walk_at "parts"))
  | ((with_reducible refine' Tk.Rd.p_2 ?k0 fun hcp => ?_); (case k0 => walk_at "parts"))
  | ((with_reducible refine' Tk.Rd.p_3 ?k0 ?_); (case k0 => walk_at "parts"))
  | fail "rd1")
local macro_rules | `(tactic| walk_at "sqt") => `(tactic| first | ((with_reducible refine' Tk.PartsAt.sq ?k0); (case k0 => walk_at "parts")) | fail "sqt")
local macro_rules | `(tactic| walk_at "free") => `(tactic| first
  | assumption
  | ((with_reducible refine' Tk.Same.fr ?k0 ?k1); (case k0 => assumption); (case k1 => walk_at "free")))
local macro_rules | `(tactic| walk_at "hp") => `(tactic| first
  | ((with_reducible refine' Tk.But.gt ?k0 ?k1 ?k2); (case k0 => assumption); (case k1 => assumption); (case k2 => walk_at "hp"))
  | ((with_reducible refine' Tk.But.gl ?k0 ?k1 ?k2); (case k0 => assumption); (case k1 => assumption); (case k2 => walk_at "hp"))
  | fail "hp")
local macro_rules | `(tactic| walk_at "hall") => `(tactic| first | ((with_reducible refine' Tk.HallAt.bt ?k0 ?k1 ?k2 ?k3); (case k0 => assumption); (case k1 => assumption); (case k2 => assumption); (case k3 => walk_at "hall")) | fail "hall")
local macro_rules | `(tactic| walk_at "parts") => `(tactic| first | ((with_reducible refine' Tk.PartsAt.bt ?k0 ?k1 ?k2); (case k0 => assumption); (case k1 => assumption); (case k2 => walk_at "parts")) | fail "parts")
local macro_rules | `(tactic| walk_at "rd1") => `(tactic| first
  | ((with_reducible refine' Tk.Rd.h_below ?k0 ?k1 ?k2 ?k3 fun r H' cs hr B hd hcs => ?_); (case k0 => walk_at "hp"); (case k1 => assumption); (case k2 => first | decide | omega); (case k3 => first | decide | omega))
  | ((with_reducible refine' Tk.Rd.h_parts ?k0 ?k1 ?k2 ?k3 fun t tp cp m lt tk cl H' cs nt B hd hcs hP l1 l2 => ?_); (case k0 => walk_at "hp"); (case k1 => assumption); (case k2 => first | decide | omega); (case k3 => first | decide | omega))
  | ((with_reducible refine' Tk.Rd.h_partsL ?k0 ?k1 ?k2 ?k3 fun t tp cp m lt tk cl H' cs nt B hd hcs hP l1 l2 => ?_); (case k0 => walk_at "hp"); (case k1 => assumption); (case k2 => first | decide | omega); (case k3 => first | decide | omega))
  | ((with_reducible refine' Tk.Rd.h_small ?k0 ?k1 fun t tp cp m lt tk cl H' cs nt B hd hcs hP m1 l1 l2 l3 => ?_); (case k0 => walk_at "hp"); (case k1 => assumption))
  | ((with_reducible refine' Tk.Rd.h_tick ?k0 ?k1 fun t H' cs ht B hd hcs => ?_); (case k0 => walk_at "hp"); (case k1 => assumption))
  | ((with_reducible refine' Tk.Rd.h_mo ?k0 fun v H' S hv => ?_); (case k0 => walk_at "hall"))
  | ((with_reducible refine' Tk.Rd.h_lc ?k0 fun v H' S hv => ?_); (case k0 => walk_at "hall"))
  | ((with_reducible refine' Tk.Rd.h_lm ?k0 fun v H' S hv => ?_); (case k0 => walk_at "hall"))
  | ((with_reducible refine' Tk.Rd.h_gl ?k0 fun v H' S hv => ?_); (case k0 => walk_at "hall"))
  | ((with_reducible refine' Tk.Rd.h_ot ?k0 ?k1 fun r H' nr S hr => ?_); (case k0 => walk_at "hall"); (case k1 => first | assumption | omega))
  | ((with_reducible refine' Tk.Rd.h_most2 ?k0 fun v H' S hv => ?_); (case k0 => walk_at "parts"))
  | ((with_reducible refine' Tk.Rd.h_opens2L ?k0 ?k1 fun l ys H' nl S hl hlen hR => ?_); (case k0 => walk_at "parts"); (case k1 => decide))
  | ((with_reducible refine' Tk.Rd.h_opens2 ?k0 ?k1 fun l ys H' nl S hl hlen hR => ?_); (case k0 => walk_at "parts"); (case k1 => first | decide | omega))
  | fail "rd1")
local macro_rules | `(tactic| walk_at "ok") => `(tactic| first
  | assumption
  | ((with_reducible refine' Tk.HallAt.ok ?k0); (case k0 => walk_at "hall"))
  | ((with_reducible refine' Tk.PartsAt.ok ?k0); (case k0 => walk_at "parts"))
  | fail "ok")
local macro_rules | `(tactic| walk_at "sml") => `(tactic| first
  | exact Tk.Sml.ints (by walk_at "szb")
  | exact Tk.Sml.intsT (by walk_at "szb")
  | trivial
  | (simp [Tk.Sml]; done)
  | (simp [Tk.Sml]; omega)
  | fail "sml")
local macro_rules | `(tactic| walk_at "rd1") => `(tactic| first
  | ((with_reducible refine' Tk.Rd.nT ?k0 ?_); (case k0 => with_reducible exact rfl))
  | ((with_reducible refine' Tk.Rd.dT ?k0 ?_); (case k0 => with_reducible exact rfl))
  | with_reducible refine Tk.Rd.nF Tk.Rd.int_non ?_
  | with_reducible refine Tk.Rd.nF Tk.Rd.ref_non ?_
  | with_reducible refine Tk.Rd.dF Tk.Rd.int_non ?_
  | with_reducible refine Tk.Rd.dF Tk.Rd.ref_non ?_
  | ((with_reducible refine' Tk.Rd.h_disp ?k0 ?k1 ?_); (case k0 => first | assumption | omega); (case k1 => walk_at "hall"))
  | ((with_reducible refine' Tk.Rd.h_hold ?k0 ?k1 ?k2 ?k3 fun l H' nl S hl => ?_); (case k0 => walk_at "hall"); (case k1 => first | assumption | omega); (case k2 => first | assumption | omega); (case k3 => first | assumption | omega))
  | ((with_reducible refine' Tk.Rd.h_mis ?k0 ?k1 ?k2 fun l ys H' nl S hl hd => ?_); (case k0 => walk_at "hall"); (case k1 => first | assumption | omega); (case k2 => first | assumption | omega))
  | ((with_reducible refine' Tk.Rd.h_enc ?k0 fun l H' nl S hl => ?_); (case k0 => walk_at "hall"))
  | ((with_reducible refine' Tk.Rd.h_dec ?k0 ?k1 fun h lp H' nh nl S hA => ?_); (case k0 => walk_at "hp"); (case k1 => walk_at "ok"))
  | ((with_reducible refine' Tk.Rd.h_text ?k0 fun H' S => ?_); (case k0 => walk_at "hall"))
  | ((with_reducible refine' Tk.Rd.h_eqd ?k0 ?k1 ?k2 fun H' S => ?_); (case k0 => walk_at "dp"); (case k1 => walk_at "dp"); (case k2 => walk_at "sml"))
  | ((with_reducible refine' Tk.Rd.eqd ?k0 ?k1 ?k2 ?k3 ?_); (case k0 => walk_at "dp"); (case k1 => walk_at "dp"); (case k2 => walk_at "sml"); (case k3 => walk_at "sml"))
  | ((with_reducible refine' Tk.Rd.ned ?k0 ?k1 ?k2 ?k3 ?_); (case k0 => walk_at "dp"); (case k1 => walk_at "dp"); (case k2 => walk_at "sml"); (case k3 => walk_at "sml"))
  | fail "rd1")
/-! ### Plans: the program's defs -/
namespace Tk
open PySem PySem.Spec PyProof.Rows L2 Mm Pn
theorem MostV.num {tk cl : List Nat} {lt M : Nat} (h : MostV tk cl lt .non) : ¬ MostV tk cl lt (vn M) := fun g => by
  have := MostV.uniq h g
  cases this
namespace Rd
variable {K : PySem.W.Frag} {σ : L2.St} {H : Hp} {Q : VK} {te : TE}
theorem ienT {ta : TA} {R : It → Hp → Prop} (k : ta σ H fun vs H1 => ∃ a xs, vs = [.ref a] ∧ SqT K H1 a xs ∧ R (Itu K a) H1) : iEnumT K ta σ H R := k
/-- [e for i, x in enumerate(a tuple)] -/
theorem lc_enT {a : Addr} {xs : List V} {vs : List Nat} {i j : Nat} (f : Nat → V) (ha : SqT K H a xs) (hn : xs.length ≤ 100000)
    (hw : ∀ x y : V, wipe (((wipe σ vs).set i (some x)).set j (some y)) vs = wipe σ vs) (hs : ∀ (n : Nat) x, xs[n]? = some x → ∀ H', Same H H' → ∀ Q' : VK, (∀ H'', Same H' H'' → Q' (f n) H'') → te (((wipe σ vs).set i (some (vnI n))).set j (some x)) H' Q')
    (k : ∀ D H', H D = none → Same H H' → H' D = some (.lst ((List.range xs.length).map f)) → Q (.ref D) H') : lcK (gTup K 2 (gCons (gName i) (gCons (gName j) gNil))) tYes te vs σ Q (Itu K a) H := fun D hD => by
  refine ⟨fun n m H2 => m = xs.length - n ∧ n ≤ xs.length ∧ Same H H2 ∧ H2 D = some (.lst ((List.range n).map f)), ⟨xs.length, by simp, Nat.zero_le _, Same.new hD, upd_same⟩, ?_⟩
  rintro n m H2 ⟨rfl, hn2, S2, h2⟩
  rcases Nat.lt_or_ge n xs.length with lt | ge
  · refine .inr ⟨⟨xs, xs[n], sqt_sm S2 ha, by simp [lt]⟩, fun H' => Same H H' ∧ H' D = some (.lst ((List.range (n + 1)).map f)), fun H' p' => ⟨_, (by omega : xs.length - (n + 1) < xs.length - n), rfl, lt, p'⟩, fun v H' y => ?_⟩
    obtain ⟨T, x, rfl, hT, rfl, hx⟩ := y
    have S3 : Same H2 (upd H2 T (.tup [vnI n, x])) := Same.new hT
    refine ⟨T, _, rfl, SqT.of upd_same, rfl, _, _, rfl, _, _, rfl, rfl, hw _ _, yes (ift (hs n x (hx xs (sqt_sm S2 ha)) _ (S2.trans S3) _ fun H4 S4 => ⟨_, S4 _ _ (S3 _ _ h2), Nat.lt_of_le_of_lt (m := 100000) (by simp; omega) (by decide), fun b o e => ?_, ?_⟩))⟩
    · rw [upd_ne (ne_of_none e hD)]
      exact S4 _ _ (S3 _ _ (S2 _ _ e))
    · rw [upd_same, List.range_succ, List.map_append]
      rfl
  · obtain rfl : n = xs.length := by omega
    exact .inl ⟨⟨xs, sqt_sm S2 ha, Nat.le_refl _⟩, k D H2 hD S2 h2⟩
end Rd
theorem vn_get {ns : List Nat} {i : Nat} {x : V} (h : (ns.map vn)[i]? = some x) : ∃ n, x = vn n ∧ ns[i]? = some n := by
  rw [List.getElem?_map] at h
  cases e : ns[i]? with
  | none => rw [e] at h; cases h
  | some n =>
    rw [e] at h
    exact ⟨n, (Option.some.inj h).symm, rfl⟩
def spNc (C : Addr) : Sp := fun vs H Q _ => ∃ (h lp : Addr) (m lt : Nat) (tk cl : List Nat), vs = [.ref h] ∧ HallAt C H h m tk cl lt lp ∧ ∀ b H', Same H H' → (b = true ↔ NC m tk cl lt) → Q (.bl b) H'
def spLp (K : PySem.W.Frag) : Sp := fun vs H Q _ => ∃ (p : Addr) (pl : List Nat), vs = [.ref p] ∧ SqT K H p (pl.map vn) ∧ Q (vn (lastP pl)) H
def spWc (K : PySem.W.Frag) (C : Addr) : Sp := fun vs H Q _ => ∃ (h lp p : Addr) (m lt : Nat) (tk cl pl : List Nat), vs = [.ref h, .ref p] ∧ HallAt C H h m tk cl lt lp ∧ Cn.FzT H p (pl.map vn) ∧ fine cl pl = true ∧
  ∀ h' lp' H', Same H H' → HallAt C H' h' m tk (addAt cl pl) lt lp' → Q (.ref h') H'
def spLg (K : PySem.W.Frag) : Sp := fun vs H Q _ => ∃ (c l : Addr) (cl : List Nat) (xs : List V) (pls : List (List Nat)), vs = [.ref c, .ref l] ∧ SqT K H c (cl.map vn) ∧ SqL K H l xs ∧ PlA H xs pls ∧ cl.length ≤ 12 ∧ (∀ pl ∈ pls, pl.length ≤ 900 ∧ lastP pl ≤ 1000) ∧ (pls.flatMap (extP cl)).length ≤ 100000 ∧
  ∀ D ys H', H D = none → Same H H' → H' D = some (.lst ys) → PlA H' ys (pls.flatMap (extP cl)) → Q (.ref D) H'
section
variable {P : Program} {w : World} {K : PySem.W.Frag} {mg : Str → Option Value} {base : Heap}
theorem ok_never_clashes (T : Txt K mg) : OkF P w K mg base 9 (He.ga K "never_clashes") ["hall"] (spNc (He.ga K "Hall")) := by
  have G_most_open : OkF P w K mg base 8 (He.ga K "most_open") ["hall"] (spMo (He.ga K "Hall")) := ok_most_open T
  refine FnP.okF T.f_never_clashes sc_never_clashes (fun _ _ _ _ _ _ us hl => match us, hl with | [_], _ => rfl) (fun vs H Q E h => ?_) (fun cdv A outer s H vs Q E hr h => ?_)
  · obtain ⟨h, lp, m, lt, tk, cl, rfl, _⟩ := h
    rfl
  obtain ⟨h, lp, m, lt, tk, cl, rfl, hA, k⟩ := h
  refine ⟨_, (pss_cons (ps_set (i := 1) sc_never_clashes.nd rfl (Or.inl rfl) (pe_call G_most_open.one (hr.mono (by decide)) (by rfl) T.g_most_open G_most_open.kp G_most_open.two .nil passL (pa_cons (pv 0) pa_nil)))
    (pss_one (ps_ret (pe_and (pe_cmpR (show OpR _ (compareOp .IsNot) Rd.rNotN from op_notN) (pv 1) pe_non (nomark _)) (pe_one (pe_cmpR op_le (pv 1) (pe_fld (pv 0) rfl) (nomark _))))))), ?_⟩
  walk_at "rd"
  rename_i v H1 S1 hv
  have hA1 := hA.same S1
  rcases id hv with ⟨_, rfl⟩ | ⟨_, M, rfl, _⟩
  · walk_at "rd"
    exact k false _ S1 ⟨fun q => (by cases q), fun ⟨M, hM, _⟩ => absurd hM (MostV.num hv)⟩
  · walk_at "rd"
    refine k _ _ S1 ⟨fun q => ?_, fun ⟨M', hM, hle⟩ => ?_⟩
    · have q := of_decide_eq_true q
      exact ⟨M, hv, by omega⟩
    · have e := MostV.uniq hv hM
      have e : V.int (M : Int) = V.int (M' : Int) := e
      injection e with e
      exact decide_eq_true (by omega)
theorem ok_last_place (T : Txt K mg) : OkF P w K mg base 1 (He.ga K "last_place") ["plan"] (spLp K) := by
  refine FnP.okF T.f_last_place sc_last_place (fun _ _ _ _ _ _ us hl => match us, hl with | [_], _ => rfl) (fun vs H Q E h => ?_) (fun cdv A outer s H vs Q E hr h => ?_)
  · obtain ⟨p, pl, rfl, _⟩ := h
    rfl
  obtain ⟨p, pl, rfl, hp, k⟩ := h
  refine ⟨_, (pss_cons (ps_if (pt_cmpR op_eq (pe_callB (lenK (K := K)) (by rfl) T.g_len (by decide +kernel) (pa_cons (pv 0) pa_nil)) pe_int (nomark _)) (pss_one (ps_ret pe_int)) pss_nil)
    (pss_one (ps_ret (pe_ix (ixTK (K := K)) (pv 0) (pe_un un_neg pe_int) (fun _ _ => rfl))))), ?_⟩
  walk_at "rd"
  rcases List.eq_nil_or_concat pl with rfl | ⟨r, x, rfl⟩
  · refine Rd.dT rfl ?_
    walk_at "rd"
    exact k
  · refine Rd.dF (by simp; omega) ?_
    walk_at "rd"
    refine Rd.ixT hp (at_last (n := r.length) (x := vn x) (by simp) (by simp)) ?_
    have e : lastP (r ++ [x]) = x := by unfold lastP; simp
    rw [List.concat_eq_append, e] at k
    exact k
theorem ok_with_calls_at (T : Txt K mg) : OkF P w K mg base 7 (He.ga K "with_calls_at") ["hall", "plan"] (spWc K (He.ga K "Hall")) := by
  have G_init : OkF P w K mg base 5 (He.ma K (He.ga K "Hall") "__init__") ["self", "modulus", "takes", "calls", "lateness"] (spInit (He.ga K "Hall")) := ok_init T
  refine FnP.okF T.f_with_calls_at sc_with_calls_at (fun _ _ _ _ _ _ us hl => match us, hl with | [_, _], _ => rfl) (fun vs H Q E h => ?_) (fun cdv A outer s H vs Q E hr h => ?_)
  · obtain ⟨h, lp, p, m, lt, tk, cl, pl, rfl, _⟩ := h
    rfl
  obtain ⟨h, lp, p, m, lt, tk, cl, pl, rfl, hA, hp, hf, k⟩ := h
  have c1 := hA.ok.clP.len
  have c0 := hA.ok.clP.pos
  refine ⟨_, (pss_cons (ps_setLc (i := 2) (own := [("place", 3), ("item", 4)]) (g := gTup K 2 (gCons (gName 3) (gCons (gName 4) gNil))) (tt := tYes) (by rfl) sc_with_calls_at.nd rfl rfl (sw_true rfl rfl rfl (by decide +kernel)) (pi_enumT (by rfl) T.g_enumerate (pa_cons (pe_fld (pv 0) rfl) pa_nil)) (blkOk_by (own := [("place", 3), ("item", 4)]) (N := N_with_calls_at) (sc := (defScope s_with_calls_at)) (by decide +kernel)) (fun _ _ _ _ _ => pg_tup rfl (pgs_cons (pg_name (i := 3) sc_with_calls_at.nd rfl (Or.inl rfl) (by first | exact Or.inr rfl | exact Or.inl rfl)) (pgs_cons (pg_name (i := 4) sc_with_calls_at.nd rfl (Or.inl rfl) (by first | exact Or.inr rfl | exact Or.inl rfl)) pgs_nil))) (fun _ _ _ _ _ => pts_nil) (fun _ _ _ _ _ => (pe_op op_add (pv 4) (Cn.pe_cntF (K := K) (pv 1) (pa_cons (pv 3) pa_nil)))))
    (pss_one (ps_ret (pe_make T.mk_Hall G_init.one (hr.mono (by decide)) (by rfl) T.g_Hall G_init.two .nil passL (pa_cons (pe_fld (pv 0) rfl) (pa_cons (pe_fld (pv 0) rfl) (pa_cons (pe_callTy (tplK (K := K)) (by rfl) T.g_tuple (by decide +kernel) (pa_cons (pv 2) pa_nil)) (pa_cons (pe_fld (pv 0) rfl) pa_nil)))))))), ?_⟩
  walk_at "rd"
  refine Rd.ienT ?_
  walk_at "rd"
  rename_i cp hcp
  refine ⟨cp, _, rfl, SqT.of hcp, Rd.lc_enT (fun i => vn (cl.getD i 0 + pl.count i)) (SqT.of hcp) (by rw [List.length_map]; omega) (fun _ _ => rfl) (fun n x hx H' S Q' q => ?_) fun D H1 nD S1 h1 => ?_⟩
  · obtain ⟨y, rfl, hy⟩ := vn_get hx
    walk_at "rd"
    refine Rd.cntF (n := n) rfl rfl (hp.same S) ?_
    walk_at "rd"
    have e : V.int ((y : Int) + (pl.count n : Nat)) = vn (cl.getD n 0 + pl.count n) := vn_int (by rw [List.getD_eq_getElem?_getD, hy]; simp)
    rw [e]
    exact q _ (Same.refl _)
  · have e : (List.range (cl.map vn).length).map (fun i => vn (cl.getD i 0 + pl.count i)) = (addAt cl pl).map vn := by
      unfold addAt
      rw [List.length_map, List.map_map]
      rfl
    rw [e] at h1
    walk_at "rd"
    rename_i tp htp q H2 nq S2 hq
    refine Rd.h_make ⟨hA.ok.m2, hA.ok.m4, hA.ok.tkP, ⟨by rw [addAt_len]; omega, by rw [addAt_len]; omega, fine_nine hf⟩, hA.ok.l99⟩ (S2 _ _ htp) hq fun h' lp' H3 nh nl S3 hA3 => ?_
    exact k h' lp' H3 ((S1.trans S2).trans S3) hA3
theorem ok_longer_plans (T : Txt K mg) : OkF P w K mg base 2 (He.ga K "longer_plans") ["calls", "plans"] (spLg K) := by
  have G_last_place : OkF P w K mg base 1 (He.ga K "last_place") ["plan"] (spLp K) := ok_last_place T
  refine FnP.okF T.f_longer_plans sc_longer_plans (fun _ _ _ _ _ _ us hl => match us, hl with | [_, _], _ => rfl) (fun vs H Q E h => ?_) (fun cdv A outer s H vs Q E hr h => ?_)
  · obtain ⟨c, l, cl, xs, pls, rfl, _⟩ := h
    rfl
  obtain ⟨c, l, cl, xs, pls, rfl, hc, hl, hD, c12, h900, hN, k⟩ := h
  have lx : xs.length = pls.length := plA_len hD
  have flat : (List.range xs.length).flatMap (fun i => ((List.range (cl.length - lastP (pls.getD i []))).filter (okx cl (pls.getD i []))).map fun j => pls.getD i [] ++ [lastP (pls.getD i []) + j]) = pls.flatMap (extP cl) := by
    rw [lx]
    have e := Rd.range_get pls [] (extP cl)
    rw [List.flatMap_def, List.flatMap_def, ← e]
    rfl
  refine ⟨_, (pss_one (ps_ret (pe_lc2 (wi1 := iRng2 _) (own := [("plan", 2), ("place", 3)]) (g := gName 2) (tt := tYes) (vs1 := [3]) (g1 := gName 3) (tt1 := _) (by rfl) sc_longer_plans.nd (pi_listK (K := K) (pv 1)) (blkOk_by (own := [("plan", 2), ("place", 3)]) (N := N_longer_plans) (sc := (defScope s_longer_plans)) (by decide +kernel)) (by decide) (fun _ _ _ _ _ => pg_name (i := 2) sc_longer_plans.nd rfl (Or.inl rfl)) (fun _ _ _ _ _ => pts_nil) (fun _ _ _ _ _ => (pi_range2 (by rfl) T.g_range (pa_cons (pe_call G_last_place.one (hr.mono (by decide)) (by rfl) T.g_last_place G_last_place.kp G_last_place.two .nil passL (pa_cons (pv 2) pa_nil)) (pa_cons (pe_callB (lenK (K := K)) (by rfl) T.g_len (by decide +kernel) (pa_cons (pv 0) pa_nil)) pa_nil)))) (fun _ _ _ _ _ => pg_name (i := 3) sc_longer_plans.nd rfl (Or.inl rfl)) (fun _ _ _ _ _ => (pts_one (pt_cmpR op_lt (pe_op op_add (pe_ix (ixTK (K := K)) (pv 0) (pv 3) (fun _ _ => rfl)) (Cn.pe_cntF (K := K) (pv 2) (pa_cons (pv 3) pa_nil))) (pe_gint (by rfl) T.c_GREATEST_ITEM) (nomark _)))) (fun _ _ _ _ _ => (pe_op (Cn.op_catF (K := K)) (pv 2) (Cn.pe_tupF (pa_cons (pv 3) pa_nil))))))), ?_⟩
  walk_at "rd"
  refine Rd.lc2_lst (N := 100000) (fun i => lastP (pls.getD i [])) (fun i => cl.length - lastP (pls.getD i [])) (fun i => okx cl (pls.getD i [])) (fun i j => pls.getD i [] ++ [lastP (pls.getD i []) + j]) hl (by rw [flat]; exact hN) (Nat.le_refl _) (fun _ => rfl) (fun _ _ => rfl) (fun i x hx H' S R q => ?_) (fun i x j hx hj H' S Q' q => ?_) (fun i x j hx hj hok H' D hDn S hD' Q' q => ?_) fun D ys H' nD S h1 hd => ?_
  · obtain ⟨r, pl, hpl, rfl, hr⟩ := plA_get (hD.same S) hx
    have ep : pls.getD i [] = pl := by rw [List.getD_eq_getElem?_getD, hpl]; rfl
    rw [ep] at q
    walk_at "rd"
    refine ⟨r, pl, rfl, hr.sq, ?_⟩
    walk_at "rd"
    have l2 := (h900 pl (List.mem_of_getElem? hpl)).2
    refine Rd.rng2K_i (by rw [List.length_map]; omega) ?_
    have e : ((((cl.map vn).length : Nat) : Int) - ((lastP pl : Nat) : Int)).toNat = cl.length - lastP pl := by rw [List.length_map]; omega
    rw [e]
    exact q _ (Same.refl _)
  · obtain ⟨r, pl, hpl, rfl, hr⟩ := plA_get (hD.same S) hx
    have ep : pls.getD i [] = pl := by rw [List.getD_eq_getElem?_getD, hpl]; rfl
    rw [ep] at q hj ⊢
    walk_at "rd"
    refine Rd.ixT (sqt_sm S hc) (i := ((lastP pl + j : Nat) : Int)) (atn (by rw [List.getElem?_map, List.getElem?_eq_getElem (by omega)]; rfl)) ?_
    walk_at "rd"
    refine Rd.cntF (n := lastP pl + j) rfl rfl hr ?_
    walk_at "rd"
    have e : decide ((cl[lastP pl + j]'(by omega) : Int) + ((pl.count (lastP pl + j) : Nat) : Int) < 9) = okx cl pl j := by
      unfold okx
      rw [List.getD_eq_getElem?_getD, List.getElem?_eq_getElem (by omega), decide_eq_decide]
      show _ ↔ (cl[lastP pl + j]'(by omega)) + pl.count (lastP pl + j) < 9
      omega
    rw [e]
    exact q _ (Same.refl _)
  · obtain ⟨r, pl, hpl, rfl, hr⟩ := plA_get (hD.same S) hx
    have ep : pls.getD i [] = pl := by rw [List.getD_eq_getElem?_getD, hpl]; rfl
    rw [ep] at q hj ⊢
    refine Rd.snoc rfl rfl hr (h900 pl (List.mem_of_getElem? hpl)).1 fun p H2 np S2 h2 => ?_
    refine q _ _ S2 fun Hx B => ⟨p, rfl, h2.but B fun e => hD' ?_⟩
    rw [← e]
    exact np
  · rw [flat] at hd
    exact k D ys H' nD S h1 hd
/-- what plan_calls gives -/
def PlO (H : Hp) (v : V) : Option (List Nat) → Prop
  | none => v = .non
  | some pl => PlV H v pl
def spPc (K : PySem.W.Frag) (C : Addr) : Sp := fun vs H Q _ => ∃ (h lp : Addr) (m lt lim : Nat) (tk cl : List Nat), vs = [.ref h, vn lim] ∧ HallAt C H h m tk cl lt lp ∧ lim ≤ 4 ∧ cl.length ≤ 3 ∧
  ∀ v H', Same H H' → PlO H' v (((List.range (lim + 1)).flatMap (pru cl)).find? (ncB m tk cl lt)) → Q v H'
theorem pru_ok {cl : List Nat} (h : Pat cl) (h3 : cl.length ≤ 3) {k : Nat} (hk : k ≤ 5) : (pru cl k).length ≤ 243 ∧ ∀ pl ∈ pru cl k, pl.length ≤ 900 ∧ lastP pl ≤ 1000 ∧ fine cl pl = true := by
  refine ⟨?_, fun pl hm => ?_⟩
  · rw [pru_full h.nine]
    have a := List.length_filter_le (fine cl) (full cl.length k)
    have b := full_len h3 k
    have c : 3 ^ k ≤ 3 ^ 5 := Nat.pow_le_pow_right (by decide) hk
    omega
  · obtain ⟨h1, h2⟩ := pru_mem h.nine hm
    rw [pru_full h.nine] at hm
    obtain ⟨_, h4⟩ := mem_len k pl (List.mem_filter.mp hm).1
    refine ⟨by omega, ?_, h2⟩
    unfold lastP
    cases e : pl.getLast? with
    | none => exact Nat.zero_le _
    | some x =>
      have := h4 x (List.mem_of_getLast? e)
      show x ≤ 1000
      omega
theorem ok_plan_calls (T : Txt K mg) : OkF P w K mg base 10 (He.ga K "plan_calls") ["hall", "limit"] (spPc K (He.ga K "Hall")) := by
  have G_is_integer_within : OkF P w K mg base 1 (He.ga K "is_integer_within") ["value", "low", "high"] spWithin := ok_is_integer_within T
  have G_never_clashes : OkF P w K mg base 9 (He.ga K "never_clashes") ["hall"] (spNc (He.ga K "Hall")) := ok_never_clashes T
  have G_with_calls_at : OkF P w K mg base 7 (He.ga K "with_calls_at") ["hall", "plan"] (spWc K (He.ga K "Hall")) := ok_with_calls_at T
  have G_longer_plans : OkF P w K mg base 2 (He.ga K "longer_plans") ["calls", "plans"] (spLg K) := ok_longer_plans T
  refine FnP.okF T.f_plan_calls sc_plan_calls (fun _ _ _ _ _ _ us hl => match us, hl with | [_, _], _ => rfl) (fun vs H Q E h => ?_) (fun cdv A outer s H vs Q E hr h => ?_)
  · obtain ⟨h, lp, m, lt, lim, tk, cl, rfl, _⟩ := h
    rfl
  obtain ⟨h, lp, m, lt, lim, tk, cl, rfl, hA, hlim, h3, k⟩ := h
  have hP := hA.ok.clP
  refine ⟨_, (pss_cons (ps_if (pt_not (pt_val (pe_call G_is_integer_within.one (hr.mono (by decide)) (by rfl) T.g_is_integer_within G_is_integer_within.kp G_is_integer_within.two .nil passL (pa_cons (pv 1) (pa_cons pe_int (pa_cons (pe_gint (by rfl) T.c_MOST_PLACES) pa_nil)))))) (pss_one ps_never) pss_nil)
    (pss_cons (ps_set (i := 2) sc_plan_calls.nd rfl (Or.inl rfl) (pe_lst (pa_cons (Cn.pe_tupF pa_nil) pa_nil)))
    (pss_cons (ps_for own_cx rfl (pi_range1 (by rfl) T.g_range (pa_cons (pe_op op_add (pv 1) pe_int) pa_nil)) (pg_name (i := 3) sc_plan_calls.nd rfl (Or.inl rfl))
      (pss_cons (ps_for own_cx rfl (pi_listK (K := K) (pv 2)) (pg_name (i := 4) sc_plan_calls.nd rfl (Or.inl rfl))
      (pss_one (ps_if (pt_val (pe_call G_never_clashes.one (hr.mono (by decide)) (by rfl) T.g_never_clashes G_never_clashes.kp G_never_clashes.two .nil passL (pa_cons (pe_call G_with_calls_at.one (hr.mono (by decide)) (by rfl) T.g_with_calls_at G_with_calls_at.kp G_with_calls_at.two .nil passL (pa_cons (pv 0) (pa_cons (pv 4) pa_nil))) pa_nil))) (pss_one (ps_ret (pv 4))) pss_nil)))
    (pss_one (ps_set (i := 2) sc_plan_calls.nd rfl (Or.inl rfl) (pe_call G_longer_plans.one (hr.mono (by decide)) (by rfl) T.g_longer_plans G_longer_plans.kp G_longer_plans.two .nil passL (pa_cons (pe_fld (pv 0) rfl) (pa_cons (pv 2) pa_nil)))))))
    (pss_one (ps_ret pe_non))))), ?_⟩
  walk_at "rd"
  refine ⟨_, _, _, rfl, .int _, ?_⟩
  rw [inB_in (by omega) (by omega)]
  walk_at "rd"
  refine Rd.tup0F fun p0 H1 n0 S1 h0 => ?_
  walk_at "rd"
  rename_i p1 H2 n1 S2 h1
  rw [show V.int ((lim : Int) + 1) = vn (lim + 1) from vn_int (by omega)]
  refine Rd.rngK_n (by omega) ?_
  refine Rd.for_rng (n := lim + 1) (fun i σ H3 => ∃ v3 v4 l xs, σ = [some (.ref h), some (vn lim), some (.ref l), v3, v4] ∧ Same H H3 ∧ H3 l = some (.lst xs) ∧ PlA H3 xs (pru cl i) ∧ ((List.range i).flatMap (pru cl)).find? (ncB m tk cl lt) = none)
    ⟨_, _, p1, _, rfl, S1.trans S2, h1, .cons ⟨p0, rfl, h0.same S2⟩ .nil, rfl⟩ ?_ ?_
  · clear h1 n1 S2 h0 n0 S1
    rintro i σ H3 hi ⟨v3, v4, l, xs, rfl, S3, hl, hx, hnone⟩
    obtain ⟨ok1, ok2⟩ := pru_ok hP h3 (k := i) (by omega)
    walk_at "rd"
    refine Rd.for_lst (xs := xs) (fun j σ H4 => ∃ v4, σ = [some (.ref h), some (vn lim), some (.ref l), some (vn i), v4] ∧ Same H3 H4 ∧ ((pru cl i).take j).find? (ncB m tk cl lt) = none)
      ⟨_, rfl, Same.refl _, rfl⟩ (fun j σ H4 _ ⟨_, _, S4, _⟩ => SqL.of (S4 _ _ hl)) ?_ ?_
    · rintro j x σ H4 hxj ⟨v4, rfl, S4, hn4⟩
      obtain ⟨r, pl, hpl, rfl, hr⟩ := plA_get (hx.same S4) hxj
      obtain ⟨_, _, hf⟩ := ok2 pl (List.mem_of_getElem? hpl)
      walk_at "rd"
      refine ⟨h, lp, r, m, lt, tk, cl, pl, rfl, hA.same (S3.trans S4), hr, hf, fun h' lp' H5 S5 hA5 => ?_⟩
      walk_at "rd"
      refine ⟨h', lp', m, lt, tk, addAt cl pl, rfl, hA5, fun b H6 S6 hb => ?_⟩
      walk_at "rd"
      have S36 := (S4.trans S5).trans S6
      cases b with
      | true =>
        walk_at "rd"
        refine k (.ref r) H6 (S3.trans S36) ?_
        have e : ((List.range (lim + 1)).flatMap (pru cl)).find? (ncB m tk cl lt) = some pl := hit (i := i) (x := i) (List.getElem?_range hi) (by rw [List.take_range, Nat.min_eq_left (Nat.le_of_lt hi)]; exact hnone) hpl hn4 (ncB_iff.mpr (hb.mp rfl))
        rw [e]
        exact ⟨r, rfl, hr.same (S5.trans S6)⟩
      | false =>
        walk_at "rd"
        exact ⟨_, rfl, S36, miss hpl hn4 (by
          cases e : ncB m tk cl lt pl with
          | false => rfl
          | true =>
            have := hb.mpr (ncB_iff.mp e)
            cases this)⟩
    · rintro σ H4 ⟨v4, rfl, S4, hn4⟩
      rw [plA_len hx, List.take_length] at hn4
      have hA4 := hA.same (S3.trans S4)
      walk_at "rd"
      rename_i cp hcp
      refine ⟨cp, l, cl, xs, pru cl i, rfl, SqT.of hcp, SqL.of (S4 _ _ hl), hx.same S4, by omega, fun pl hm => ⟨(ok2 pl hm).1, (ok2 pl hm).2.1⟩, ?_, fun D ys H5 nD S5 h5 hp5 => ?_⟩
      · have := (pru_ok hP h3 (k := i + 1) (by omega)).1
        exact Nat.le_trans this (by decide)
      walk_at "rd"
      refine ⟨_, _, D, ys, rfl, (S3.trans S4).trans S5, h5, hp5, ?_⟩
      rw [List.range_succ, List.flatMap_append, List.find?_append, hnone]
      simpa using hn4
  · rintro σ H3 ⟨v3, v4, l, xs, rfl, S3, hl, hx, hnone⟩
    walk_at "rd"
    refine k .non H3 S3 ?_
    rw [hnone]
    rfl
end
end Tk

end

section
local macro_rules | `(tactic| walk_at "hp") => `(tactic| first
  | assumption
  | with_reducible exact L2.upd_same
  | ((with_reducible refine' Tk.Same.get ?k0 ?k1); (case k0 => assumption); (case k1 => walk_at "hp"))
  | fail "hp")
local macro_rules | `(tactic| walk_at "same") => `(tactic| first
  | assumption
  | exact L2.Same.refl _
  | ((with_reducible refine' Tk.Same.nw ?k0 ?k1); (case k0 => assumption); (case k1 => walk_at "same"))
  | ((with_reducible refine' Tk.Same.tr ?k0 ?k1); (case k0 => assumption); (case k1 => walk_at "same")))
local macro_rules | `(tactic| walk_at "sql") => `(tactic| first
  | assumption
  | ((with_reducible refine' L2.SqL.of ?k0); (case k0 => walk_at "hp"))
  | ((with_reducible refine' L2.Same.seq ?k0 ?k1); (case k0 => assumption); (case k1 => walk_at "sql")))
local macro_rules | `(tactic| walk_at "sqt") => `(tactic| first
  | assumption
  | ((with_reducible refine' L2.SqT.of ?k0); (case k0 => walk_at "hp"))
  | ((with_reducible refine' Tk.sqt_sm ?k0 ?k1); (case k0 => assumption); (case k1 => walk_at "sqt")))
local macro_rules | `(tactic| walk_at "sz") => `(tactic| first
  | (show (_ : Nat) ≤ 1000; decide)
  | (simp; done)
  | (simp; omega))
local macro_rules | `(tactic| walk_at "szb") => `(tactic| first
  | assumption
  | (show (_ : Nat) ≤ 100000; decide)
  | (simp; done)
  | (simp; omega))
local macro_rules | `(tactic| walk_at "dp") => `(tactic| first
  | assumption
  | with_reducible exact L2.Dp.non
  | with_reducible exact L2.Dp.int _
  | with_reducible exact L2.Dp.str _
  | with_reducible exact L2.Dp.bl _
  | ((with_reducible refine' L2.Dp.lst ?k0 ?k1); (case k0 => walk_at "sql"); (case k1 => walk_at "dpa"))
  | ((with_reducible refine' L2.Dp.tup ?k0 ?k1); (case k0 => walk_at "sqt"); (case k1 => walk_at "dpa"))
  | ((with_reducible refine' Tk.dp_sm ?k0 ?k1); (case k0 => assumption); (case k1 => walk_at "dp"))
  | fail "dp")
local macro_rules | `(tactic| walk_at "dpa") => `(tactic| first
  | assumption
  | with_reducible exact L2.DpAll.nil
  | ((with_reducible refine' L2.DpAll.cons ?k0 ?k1); (case k0 => walk_at "dp"); (case k1 => walk_at "dpa"))
  | with_reducible exact Tk.dp_nats _
  | ((with_reducible refine' Tk.dpA_sm ?k0 ?k1); (case k0 => assumption); (case k1 => walk_at "dpa"))
  | fail "dpa")
local macro_rules | `(tactic| walk_at "ci") => `(tactic| first
  | exact .inl ⟨by decide, by decide⟩
  | exact .inr ⟨by decide, by decide⟩
  | exact .inl ⟨by omega, by omega⟩
  | exact .inr ⟨by omega, by omega⟩
  | exact ⟨by decide, by decide⟩
  | exact ⟨by omega, by omega⟩
  | (show (0 : Int) < _; decide)
  | (show (0 : Int) < _; omega))
local macro_rules | `(tactic| walk_at "rd1") => `(tactic| first
  | with_reducible refine Tk.Rd.seq ?_
  | with_reducible refine Tk.Rd.star ?_
  | with_reducible refine Tk.Rd.int1_i ?_
  | with_reducible refine Tk.Rd.int1_b ?_
  | with_reducible refine Tk.Rd.tlc2 ?_
  | with_reducible refine Tk.Rd.lrg3 ?_
  | with_reducible refine Tk.Rd.lrg ?_
  | with_reducible refine Tk.Rd.rg1 ?_
  | with_reducible refine Tk.Rd.rg1K_i ?_
  | with_reducible refine Tk.Rd.rg2 ?_
  | with_reducible refine Tk.Rd.rg2K_i ?_
  | ((with_reducible refine' Tk.Rd.catL ?k0 ?k1 ?k2 fun p H' np S hp => ?_); (case k0 => walk_at "hp"); (case k1 => walk_at "hp"); (case k2 => walk_at "szb"))
  | ((with_reducible refine' Tk.Rd.starK_t ?k0 ?_); (case k0 => walk_at "sqt"))
  | ((with_reducible refine' Tk.Rd.starK_l ?k0 ?_); (case k0 => walk_at "sql"))
  | ((with_reducible refine' Tk.Rd.var ?k0 ?_); (case k0 => exact rfl))
  | with_reducible refine Tk.Rd.c ?_
  | with_reducible refine Tk.Rd.op ?_
  | with_reducible refine Tk.Rd.i0 ?_
  | with_reducible refine Tk.Rd.asg ?_
  | with_reducible refine Tk.Rd.name ?_
  | with_reducible refine Tk.Rd.cons ?_
  | with_reducible refine Tk.Rd.nil ?_
  | with_reducible refine Tk.Rd.call ?_
  | with_reducible refine Tk.Rd.callK_i ?_
  | with_reducible refine Tk.Rd.tst ?_
  | with_reducible refine Tk.Rd.bv ?_
  | with_reducible refine Tk.Rd.toB_i ?_
  | with_reducible refine Tk.Rd.ift ?_
  | with_reducible refine Tk.Rd.iff ?_
  | with_reducible refine Tk.Rd.ifnt ?_
  | with_reducible refine Tk.Rd.ifnf ?_
  | with_reducible refine Tk.Rd.not ?_
  | with_reducible refine Tk.Rd.and ?_
  | with_reducible refine Tk.Rd.or ?_
  | with_reducible refine Tk.Rd.andV ?_
  | with_reducible refine Tk.Rd.andK_i ?_
  | with_reducible refine Tk.Rd.orV ?_
  | with_reducible refine Tk.Rd.orK_i ?_
  | with_reducible refine Tk.Rd.notV ?_
  | with_reducible refine Tk.Rd.notK_i ?_
  | with_reducible refine Tk.Rd.tif ?_
  | with_reducible refine Tk.Rd.yes ?_
  | with_reducible refine Tk.Rd.tfor ?_
  | with_reducible refine Tk.Rd.tlc ?_
  | with_reducible refine Tk.Rd.rng ?_
  | ((with_reducible refine' Tk.Rd.rngK_n ?k0 ?_); (case k0 => first | decide | omega))
  | ((with_reducible refine' Tk.Rd.rngK_lit ?k0 ?_); (case k0 => decide))
  | with_reducible refine Tk.Rd.rng2 ?_
  | with_reducible refine Tk.Rd.rng3 ?_
  | with_reducible refine Tk.Rd.ilist ?_
  | with_reducible refine Tk.Rd.zip ?_
  | with_reducible refine Tk.Rd.itup ?_
  | ((with_reducible refine' Tk.Rd.listK_i ?k0 ?_); (case k0 => walk_at "sql"))
  | ((with_reducible refine' Tk.Rd.ituK_i ?k0 ?_); (case k0 => walk_at "sqt"))
  | with_reducible refine Tk.Rd.chain ?_
  | with_reducible refine Tk.Rd.chainL_i ?_
  | with_reducible refine Tk.Rd.un ?_
  | with_reducible refine Tk.Rd.u1 ?_
  | ((with_reducible refine' Tk.Rd.i1 ?k0 ?_); (case k0 => walk_at "ci"))
  | ((with_reducible refine' Tk.Rd.eq ?k0 ?_); (case k0 => exact rfl))
  | ((with_reducible refine' Tk.Rd.ne ?k0 ?_); (case k0 => exact rfl))
  | with_reducible refine Tk.Rd.isN ?_
  | with_reducible refine Tk.Rd.notN ?_
  | with_reducible refine Tk.Rd.fld ?_
  | with_reducible refine Tk.Rd.meth ?_
  | with_reducible refine Tk.Rd.prop ?_
  | with_reducible refine Tk.Rd.cb ?_
  | with_reducible refine Tk.Rd.bm ?_
  | with_reducible refine Tk.Rd.m0 ?_
  | with_reducible refine Tk.Rd.m0K_i ?_
  | with_reducible refine Tk.Rd.m1 ?_
  | with_reducible refine Tk.Rd.m1K_i ?_
  | with_reducible refine Tk.Rd.tup ?_
  | ((with_reducible refine' Tk.Rd.tupK_i ?k0 fun p H' np S hp => ?_); (case k0 => walk_at "sz"))
  | with_reducible refine Tk.Rd.lst ?_
  | ((with_reducible refine' Tk.Rd.lstK_i ?k0 fun p H' np S hp => ?_); (case k0 => walk_at "sz"))
  | ((with_reducible refine' Tk.Rd.ixF ?k0 ?k1 ?_); (case k0 => walk_at "hp"); (case k1 => omega))
  | ((with_reducible refine' Tk.Rd.ixF1 ?k0 ?k1 ?_); (case k0 => walk_at "hp"); (case k1 => omega))
  | ((with_reducible refine' Tk.Rd.ixT ?k0 ?k1 ?_); (case k0 => walk_at "sqt"); (case k1 => exact rfl))
  | ((with_reducible refine' Tk.Rd.ixL ?k0 ?k1 ?_); (case k0 => walk_at "sql"); (case k1 => exact rfl))
  | ((with_reducible refine' Tk.Rd.lenL ?k0 ?_); (case k0 => walk_at "sql"))
  | ((with_reducible refine' Tk.Rd.lenT ?k0 ?_); (case k0 => walk_at "sqt"))
  | ((with_reducible refine' Tk.Rd.lenS ?k0 ?_); (case k0 => first | assumption | omega | (simp; omega)))
  | ((with_reducible refine' Tk.Rd.slTr ?k0 fun p H' S hp => ?_); (case k0 => walk_at "hp"))
  | ((with_reducible refine' Tk.Rd.slT ?k0 fun p H' S hq => ?_); (case k0 => walk_at "sqt"))
  | ((with_reducible refine' Tk.Rd.catTr ?k0 ?k1 ?k2 fun p H' S hp => ?_); (case k0 => walk_at "hp"); (case k1 => walk_at "hp"); (case k2 => walk_at "sz"))
  | ((with_reducible refine' Tk.Rd.catA ?k0 ?k1 ?k2 ?k3 ?k4 fun p H' np S hp => ?_); (case k0 => walk_at "sqt"); (case k1 => walk_at "sqt"); (case k2 => simp); (case k3 => simp); (case k4 => first | (simp; done) | (simp; omega)))
  | with_reducible refine Tk.Rd.make ?_
  | ((with_reducible refine' Tk.Rd.tplL ?k0 fun q H' nq S hq => ?_); (case k0 => walk_at "sql"))
  | ((with_reducible refine' Tk.Rd.lstL ?k0 fun q H' nq S hq => ?_); (case k0 => walk_at "sql"))
  | ((with_reducible refine' Tk.Rd.lstT ?k0 fun q H' nq S hq => ?_); (case k0 => walk_at "sqt"))
  | ((with_reducible refine' Tk.Rd.join ?k0 ?k1 ?_); (case k0 => walk_at "sql"); (case k1 => first | assumption | omega))
  | with_reducible refine Tk.Rd.mx ?_
  | with_reducible refine Tk.Rd.mn ?_
  | with_reducible refine Tk.Rd.noPart ?_
  | with_reducible refine Tk.Rd.part ?_
  | with_reducible refine Tk.Rd.partK_i ?_
  | with_reducible refine Tk.Rd.slc ?_
  | ((with_reducible refine' Tk.Rd.gtup ?k0 ?k1 ?_); (case k0 => walk_at "sqt"); (case k1 => exact rfl))
  | ((with_reducible refine' Tk.Rd.glst ?k0 ?k1 ?_); (case k0 => walk_at "sql"); (case k1 => exact rfl))
  | with_reducible refine Tk.Rd.gcons ?_
  | with_reducible refine Tk.Rd.gnil ?_
  | with_reducible refine Tk.Rd.next ?_
  | with_reducible refine Tk.Rd.drop ?_
  | with_reducible refine Tk.Rd.ret ?_
  | with_reducible refine Tk.Rd.retN ?_
  | with_reducible refine Tk.Rd.par ?_
  | with_reducible refine Tk.Rd.parK_i ?_
  | with_reducible refine Tk.Rd.par3 ?_
  | with_reducible refine Tk.Rd.par3K_i ?_
  | ((with_reducible refine' Tk.Rd.aug ?k0 ?_); (case k0 => exact rfl))
  | with_reducible refine Tk.Rd.ip ?_
  | ((with_reducible refine' Tk.Rd.bmK_l ?k0 ?_); (case k0 => walk_at "sql"))
  | ((with_reducible refine' Tk.Rd.addS ?k0 ?_); (case k0 => walk_at "sz"))
  | fail "rd1")
local macro_rules | `(tactic| walk_at "rd1i") => `(tactic| first
  | walk_at "rd1"
  | with_reducible refine Tk.Rd.ifS ?_
  | fail "rd1i")
local macro_rules | `(tactic| walk_at "rd") => `(tactic| (repeat' walk_at "rd1i"))
local macro_rules | `(tactic| walk_at "rs") => `(tactic| ((repeat' walk_at "rd1"); (try dsimp only)))
local macro_rules | `(tactic| walk_at "hall") => `(tactic| first
  | assumption
  | ((with_reducible refine' Tk.HallAt.sm ?k0 ?k1); (case k0 => assumption); (case k1 => walk_at "hall"))
  | fail "hall")
local macro_rules | `(tactic| walk_at "parts") => `(tactic| first
  | assumption
  | ((with_reducible refine' Tk.PartsAt.sm ?k0 ?k1); (case k0 => assumption); (case k1 => walk_at "parts"))
  | fail "parts")
local macro_rules | `(tactic| walk_at "sm") => `(tactic| first
  | assumption
  | exact Tk.Sm.int rfl
  | exact Tk.Sm.flat1 rfl
  | ((with_reducible refine' Tk.Sm.sm ?k0 ?k1); (case k0 => assumption); (case k1 => walk_at "sm"))
  | fail "sm")
local macro_rules | `(tactic| walk_at "rd1") => `(tactic| first
  | ((with_reducible refine' Tk.Rd.f_modulus ?k0 ?k1 ?_); (case k0 => assumption); (case k1 => walk_at "hall"))
  | ((with_reducible refine' Tk.Rd.f_lateness ?k0 ?k1 ?_); (case k0 => assumption); (case k1 => walk_at "hall"))
  | ((with_reducible refine' Tk.Rd.f_takes ?k0 ?k1 fun tp htp => ?_); (case k0 => assumption); (case k1 => walk_at "hall"))
  | ((with_reducible refine' Tk.Rd.f_calls ?k0 ?k1 fun cp hcp => ?_); (case k0 => assumption); (case k1 => walk_at "hall"))
  | ((with_reducible refine' Tk.Rd.h_meth ?k0 ?k1 ?_); (case k0 => walk_at "hall"); (case k1 => decide +kernel))
  | ((with_reducible refine' Tk.Rd.h_prop ?k0 ?_); (case k0 => walk_at "hall"))
  | ((with_reducible refine' Tk.Rd.h_taken0 ?k0 fun H' S => ?_); (case k0 => walk_at "hall"))
  | ((with_reducible refine' Tk.Rd.h_taken1 ?k0 fun H' S => ?_); (case k0 => walk_at "hall"))
  | ((with_reducible refine' Tk.Rd.h_takenL ?k0 fun H' S => ?_); (case k0 => walk_at "hall"))
  | ((with_reducible refine' Tk.Rd.h_called0 ?k0 ?_); (case k0 => walk_at "hall"))
  | ((with_reducible refine' Tk.Rd.h_called1 ?k0 ?_); (case k0 => walk_at "hall"))
  | ((with_reducible refine' Tk.Rd.h_calledL ?k0 ?_); (case k0 => walk_at "hall"))
  | ((with_reducible refine' Tk.Rd.h_waiting ?k0 ?k1 fun H' S => ?_); (case k0 => walk_at "hall"); (case k1 => omega))
  | ((with_reducible refine' Tk.Rd.h_growth ?k0 fun H' S => ?_); (case k0 => walk_at "hall"))
  | ((with_reducible refine' Tk.Rd.h_period ?k0 ?_); (case k0 => walk_at "hall"))
  | ((with_reducible refine' Tk.Rd.h_lhall ?k0 fun h lp H' nh nl S hA => ?_); (case k0 => walk_at "parts"))
  | ((with_reducible refine' Tk.Rd.h_length ?k0 ?_); (case k0 => walk_at "parts"))
  | ((with_reducible refine' Tk.Rd.h_counts ?k0 ?k1 fun r a b H' nr na nb nab S hr ha hb => ?_); (case k0 => walk_at "parts"); (case k1 => omega))
  | ((with_reducible refine' Tk.Rd.h_countsL ?k0 ?k1 fun r a b H' nr na nb nab S hr ha hb => ?_); (case k0 => walk_at "parts"); (case k1 => decide))
  | ((with_reducible refine' Tk.Rd.h_make ?k0 ?k1 ?k2 fun h lp H' nh nl S hA => ?_); (case k0 => assumption); (case k1 => walk_at "hp"); (case k2 => walk_at "hp"))
  | ((with_reducible refine' Tk.Rd.p_0 ?k0 ?_); (case k0 => walk_at "parts"))
  | ((with_reducible refine' Tk.Rd.p_1 ?k0 fun htp => ?_); (case k0 => walk_at "parts"))
  | ((with_reducible refine' Tk.Rd.p_2 ?k0 fun hcp => ?_); (case k0 => walk_at "parts"))
  | ((with_reducible refine' Tk.Rd.p_3 ?k0 ?_); (case k0 => walk_at "parts"))
  | fail "rd1")
local macro_rules | `(tactic| walk_at "sqt") => `(tactic| first | ((with_reducible refine' Tk.PartsAt.sq ?k0); (case k0 => walk_at "parts")) | fail "sqt")
local macro_rules | `(tactic| walk_at "free") => `(tactic| first
  | assumption
  | ((with_reducible refine' Tk.Same.fr ?k0 ?k1); (case k0 => assumption); (case k1 => walk_at "free")))
local macro_rules | `(tactic| walk_at "hp") => `(tactic| first
  | ((with_reducible refine' Tk.But.gt ?k0 ?k1 ?k2); (case k0 => assumption); (case k1 => assumption); (case k2 => walk_at "hp"))
  | ((with_reducible refine' Tk.But.gl ?k0 ?k1 ?k2); (case k0 => assumption); (case k1 => assumption); (case k2 => walk_at "hp"))
  | fail "hp")
local macro_rules | `(tactic| walk_at "hall") => `(tactic| first | ((with_reducible refine' Tk.HallAt.bt ?k0 ?k1 ?k2 ?k3); (case k0 => assumption); (case k1 => assumption); (case k2 => assumption); (case k3 => walk_at "hall")) | fail "hall")
local macro_rules | `(tactic| walk_at "parts") => `(tactic| first | ((with_reducible refine' Tk.PartsAt.bt ?k0 ?k1 ?k2); (case k0 => assumption); (case k1 => assumption); (case k2 => walk_at "parts")) | fail "parts")
local macro_rules | `(tactic| walk_at "rd1") => `(tactic| first
  | ((with_reducible refine' Tk.Rd.h_below ?k0 ?k1 ?k2 ?k3 fun r H' cs hr B hd hcs => ?_); (case k0 => walk_at "hp"); (case k1 => assumption); (case k2 => first | decide | omega); (case k3 => first | decide | omega))
  | ((with_reducible refine' Tk.Rd.h_parts ?k0 ?k1 ?k2 ?k3 fun t tp cp m lt tk cl H' cs nt B hd hcs hP l1 l2 => ?_); (case k0 => walk_at "hp"); (case k1 => assumption); (case k2 => first | decide | omega); (case k3 => first | decide | omega))
  | ((with_reducible refine' Tk.Rd.h_partsL ?k0 ?k1 ?k2 ?k3 fun t tp cp m lt tk cl H' cs nt B hd hcs hP l1 l2 => ?_); (case k0 => walk_at "hp"); (case k1 => assumption); (case k2 => first | decide | omega); (case k3 => first | decide | omega))
  | ((with_reducible refine' Tk.Rd.h_small ?k0 ?k1 fun t tp cp m lt tk cl H' cs nt B hd hcs hP m1 l1 l2 l3 => ?_); (case k0 => walk_at "hp"); (case k1 => assumption))
  | ((with_reducible refine' Tk.Rd.h_tick ?k0 ?k1 fun t H' cs ht B hd hcs => ?_); (case k0 => walk_at "hp"); (case k1 => assumption))
  | ((with_reducible refine' Tk.Rd.h_mo ?k0 fun v H' S hv => ?_); (case k0 => walk_at "hall"))
  | ((with_reducible refine' Tk.Rd.h_lc ?k0 fun v H' S hv => ?_); (case k0 => walk_at "hall"))
  | ((with_reducible refine' Tk.Rd.h_lm ?k0 fun v H' S hv => ?_); (case k0 => walk_at "hall"))
  | ((with_reducible refine' Tk.Rd.h_gl ?k0 fun v H' S hv => ?_); (case k0 => walk_at "hall"))
  | ((with_reducible refine' Tk.Rd.h_ot ?k0 ?k1 fun r H' nr S hr => ?_); (case k0 => walk_at "hall"); (case k1 => first | assumption | omega))
  | ((with_reducible refine' Tk.Rd.h_most2 ?k0 fun v H' S hv => ?_); (case k0 => walk_at "parts"))
  | ((with_reducible refine' Tk.Rd.h_opens2L ?k0 ?k1 fun l ys H' nl S hl hlen hR => ?_); (case k0 => walk_at "parts"); (case k1 => decide))
  | ((with_reducible refine' Tk.Rd.h_opens2 ?k0 ?k1 fun l ys H' nl S hl hlen hR => ?_); (case k0 => walk_at "parts"); (case k1 => first | decide | omega))
  | fail "rd1")
local macro_rules | `(tactic| walk_at "ok") => `(tactic| first
  | assumption
  | ((with_reducible refine' Tk.HallAt.ok ?k0); (case k0 => walk_at "hall"))
  | ((with_reducible refine' Tk.PartsAt.ok ?k0); (case k0 => walk_at "parts"))
  | fail "ok")
local macro_rules | `(tactic| walk_at "sml") => `(tactic| first
  | exact Tk.Sml.ints (by walk_at "szb")
  | exact Tk.Sml.intsT (by walk_at "szb")
  | trivial
  | (simp [Tk.Sml]; done)
  | (simp [Tk.Sml]; omega)
  | fail "sml")
local macro_rules | `(tactic| walk_at "rd1") => `(tactic| first
  | ((with_reducible refine' Tk.Rd.nT ?k0 ?_); (case k0 => with_reducible exact rfl))
  | ((with_reducible refine' Tk.Rd.dT ?k0 ?_); (case k0 => with_reducible exact rfl))
  | with_reducible refine Tk.Rd.nF Tk.Rd.int_non ?_
  | with_reducible refine Tk.Rd.nF Tk.Rd.ref_non ?_
  | with_reducible refine Tk.Rd.dF Tk.Rd.int_non ?_
  | with_reducible refine Tk.Rd.dF Tk.Rd.ref_non ?_
  | ((with_reducible refine' Tk.Rd.h_disp ?k0 ?k1 ?_); (case k0 => first | assumption | omega); (case k1 => walk_at "hall"))
  | ((with_reducible refine' Tk.Rd.h_hold ?k0 ?k1 ?k2 ?k3 fun l H' nl S hl => ?_); (case k0 => walk_at "hall"); (case k1 => first | assumption | omega); (case k2 => first | assumption | omega); (case k3 => first | assumption | omega))
  | ((with_reducible refine' Tk.Rd.h_mis ?k0 ?k1 ?k2 fun l ys H' nl S hl hd => ?_); (case k0 => walk_at "hall"); (case k1 => first | assumption | omega); (case k2 => first | assumption | omega))
  | ((with_reducible refine' Tk.Rd.h_enc ?k0 fun l H' nl S hl => ?_); (case k0 => walk_at "hall"))
  | ((with_reducible refine' Tk.Rd.h_dec ?k0 ?k1 fun h lp H' nh nl S hA => ?_); (case k0 => walk_at "hp"); (case k1 => walk_at "ok"))
  | ((with_reducible refine' Tk.Rd.h_text ?k0 fun H' S => ?_); (case k0 => walk_at "hall"))
  | ((with_reducible refine' Tk.Rd.h_eqd ?k0 ?k1 ?k2 fun H' S => ?_); (case k0 => walk_at "dp"); (case k1 => walk_at "dp"); (case k2 => walk_at "sml"))
  | ((with_reducible refine' Tk.Rd.eqd ?k0 ?k1 ?k2 ?k3 ?_); (case k0 => walk_at "dp"); (case k1 => walk_at "dp"); (case k2 => walk_at "sml"); (case k3 => walk_at "sml"))
  | ((with_reducible refine' Tk.Rd.ned ?k0 ?k1 ?k2 ?k3 ?_); (case k0 => walk_at "dp"); (case k1 => walk_at "dp"); (case k2 => walk_at "sml"); (case k3 => walk_at "sml"))
  | fail "rd1")
/-! ### The law's open tickets, exactly -/
namespace Tk
open PySem PySem.Spec PyProof.Rows L2 Mm
/-- what stands for the tick i -/
def OpR_ (tk cl : List Nat) (lt i : Nat) (y : V) (H : Hp) : Prop := ∃ r, y = .ref r ∧ H r = some (.tup [vn (cal tk cl (i - lt)), vn (tak tk (i + 1))])
def spOpens2 : Sp := fun vs H Q _ => ∃ (t tp cp : Addr) (m lt : Nat) (tk cl : List Nat) (n : Nat), vs = [.ref t, vn n] ∧ PartsAt H t m tp tk cp cl lt ∧ n ≤ 900 ∧
  ∀ (l : Addr) (ys : List V) H', H l = none → Same H H' → H' l = some (.lst ys) → ys.length = n → (∀ (i : Nat) y, ys[i]? = some y → OpR_ tk cl lt i y H') → Q (.ref l) H'
def spMost2 : Sp := fun vs H Q _ => ∃ (t tp cp : Addr) (m lt : Nat) (tk cl : List Nat), vs = [.ref t] ∧ PartsAt H t m tp tk cp cl lt ∧ ∀ v H', Same H H' → MostV tk cl lt v → Q v H'
section
variable {P : Program} {w : World} {K : PySem.W.Frag} {mg : Str → Option Value} {base : Heap}
theorem ok2__law_opens (T : Txt K mg) : OkF P w K mg base 2 (He.ga K "_law_opens") ["_law_parts", "_law_ticks"] spOpens2 := by
  have G__law_counts : OkF P w K mg base 1 (He.ga K "_law_counts") ["_law_parts", "_law_ticks"] spCounts := ok__law_counts T
  refine FnP.okF T.f__law_opens sc__law_opens (fun _ _ _ _ _ _ us hl => match us, hl with | [_, _], _ => rfl) (fun vs H Q E h => ?_) (fun cdv A outer s H vs Q E hr h => ?_)
  · obtain ⟨t, _, _, _, _, _, _, _, rfl, _⟩ := h
    rfl
  obtain ⟨t, tp, cp, m, lt, tk, cl, n, rfl, hP, hn, k⟩ := h
  refine ⟨_, (pss_cons (ps_asg (pe_call G__law_counts.one (hr.mono (by decide)) (by rfl) T.g__law_counts G__law_counts.kp G__law_counts.two .nil passL (pa_cons (pv 0) (pa_cons (pv 1) pa_nil))) (pg_tup rfl (pgs_cons (pg_name (i := 2) sc__law_opens.nd rfl (Or.inr rfl)) (pgs_cons (pg_name (i := 3) sc__law_opens.nd rfl (Or.inr rfl)) pgs_nil))))
    (pss_one (ps_ret (pe_lc (own := [("_law_tick", 4)]) (g := gName 4) (tt := tYes) (by rfl) sc__law_opens.nd (pi_range1 (by rfl) T.g_range (pa_cons (pv 1) pa_nil)) (blkOk_by (own := [("_law_tick", 4)]) (N := N__law_opens) (sc := (defScope s__law_opens)) (by decide +kernel)) (fun _ _ _ _ _ => pg_name (i := 4) sc__law_opens.nd rfl (Or.inl rfl)) (fun _ _ _ _ _ => pts_nil) (fun _ _ _ _ _ => (pe_tup (pa_cons (pe_ix (ixLK (K := K)) (pv 3) (pe_callB (show CallR _ (.builtin "max") Rd.rMax2 from call_max2 (by rfl)) (by rfl) T.g_max (by decide +kernel) (pa_cons pe_int (pa_cons (pe_op op_sub (pv 4) (pe_ix (ixTK (K := K)) (pv 0) pe_int (fun _ _ => rfl))) pa_nil))) (fun _ _ => rfl)) (pa_cons (pe_ix (ixLK (K := K)) (pv 2) (pe_op op_add (pv 4) pe_int) (fun _ _ => rfl)) pa_nil)))))))), ?_⟩
  walk_at "rd"
  rename_i rr a1 b1 H5 _ na nb nab S5 h5 h5a h5b
  have hP5 := hP.same S5
  refine Rd.lc_rngR (OpR_ tk cl lt) (by omega) (fun _ => rfl) (fun i hi H' D hD S hDn Q' q => ?_) fun D ys H6 nD S6 h6 hl hR => ?_
  · have hP6 := hP5.same S
    have e0 : V.int ((0 : Int) + (i : Int)) = vn i := vn_int (by omega)
    rw [e0]
    walk_at "rd"
    refine Rd.ixL (SqL.of (S _ _ h5b)) (i := max 0 ((i : Int) - (lt : Int))) (v := vn (cal tk cl (i - lt))) (by rw [show max 0 ((i : Int) - (lt : Int)) = ((i - lt : Nat) : Int) by omega]; exact atn (fV_at (by omega))) ?_
    walk_at "rd"
    rename_i r H7 nr S7 hr7
    refine q _ _ S7 fun Hx hb => ⟨r, rfl, hb r _ (fun e => hDn (by rw [← e]; exact nr)) hr7⟩
  · exact k D ys H6 (Same.fr S5 nD) (S5.trans S6) h6 hl hR
theorem ok2__law_most (T : Txt K mg) : OkF P w K mg base 3 (He.ga K "_law_most") ["_law_parts"] spMost2 := by
  have G__law_length : OkF P w K mg base 1 (He.ga K "_law_length") ["_law_parts"] spLength := ok__law_length T
  have G__law_opens : OkF P w K mg base 2 (He.ga K "_law_opens") ["_law_parts", "_law_ticks"] spOpens2 := ok2__law_opens T
  refine FnP.okF T.f__law_most sc__law_most (fun _ _ _ _ _ _ us hl => match us, hl with | [_], _ => rfl) (fun vs H Q E h => ?_) (fun cdv A outer s H vs Q E hr h => ?_)
  · obtain ⟨t, _, _, _, _, _, _, rfl, _⟩ := h
    rfl
  obtain ⟨t, tp, cp, m, lt, tk, cl, rfl, hP, k⟩ := h
  refine ⟨_, (pss_cons (ps_set (i := 1) sc__law_most.nd rfl (Or.inl rfl) (pe_call G__law_length.one (hr.mono (by decide)) (by rfl) T.g__law_length G__law_length.kp G__law_length.two .nil passL (pa_cons (pv 0) pa_nil)))
    (pss_cons (ps_if (pt_cmpR op_gt (pe_op op_mul (pe_callB (sumTK (K := K)) (by rfl) T.g_sum (by decide +kernel) (pa_cons (pe_ix (ixTK (K := K)) (pv 0) pe_int (fun _ _ => rfl)) pa_nil)) (pe_callB (lenK (K := K)) (by rfl) T.g_len (by decide +kernel) (pa_cons (pe_ix (ixTK (K := K)) (pv 0) pe_int (fun _ _ => rfl)) pa_nil))) (pe_op op_mul (pe_callB (sumTK (K := K)) (by rfl) T.g_sum (by decide +kernel) (pa_cons (pe_ix (ixTK (K := K)) (pv 0) pe_int (fun _ _ => rfl)) pa_nil)) (pe_callB (lenK (K := K)) (by rfl) T.g_len (by decide +kernel) (pa_cons (pe_ix (ixTK (K := K)) (pv 0) pe_int (fun _ _ => rfl)) pa_nil))) (nomark _)) (pss_one (ps_ret pe_non)) pss_nil)
    (pss_one (ps_ret (pe_callB (maxLK (K := K)) (by rfl) T.g_max (by decide +kernel) (pa_cons (pe_lc (own := [("_law_first", 2), ("_law_end", 3)]) (g := gTup K 2 (gCons (gName 2) (gCons (gName 3) gNil))) (tt := tYes) (by rfl) sc__law_most.nd (pi_listK (K := K) (pe_call G__law_opens.one (hr.mono (by decide)) (by rfl) T.g__law_opens G__law_opens.kp G__law_opens.two .nil passL (pa_cons (pv 0) (pa_cons (pe_op op_add (pe_op op_add (pe_op op_mul pe_int (pv 1)) (pe_ix (ixTK (K := K)) (pv 0) pe_int (fun _ _ => rfl))) pe_int) pa_nil)))) (blkOk_by (own := [("_law_first", 2), ("_law_end", 3)]) (N := N__law_most) (sc := (defScope s__law_most)) (by decide +kernel)) (fun _ _ _ _ _ => pg_tup rfl (pgs_cons (pg_name (i := 2) sc__law_most.nd rfl (Or.inl rfl) (by first | exact Or.inr rfl | exact Or.inl rfl)) (pgs_cons (pg_name (i := 3) sc__law_most.nd rfl (Or.inl rfl) (by first | exact Or.inr rfl | exact Or.inl rfl)) pgs_nil))) (fun _ _ _ _ _ => pts_nil) (fun _ _ _ _ _ => (pe_op op_sub (pv 3) (pv 2)))) pa_nil)))))), ?_⟩
  have n0 := hP.ok.tkP.pos
  have c0 := hP.ok.clP.pos
  have p144 := per_144 hP.ok.tkP hP.ok.clP
  have p0 := per_pos n0 c0
  have lt99 := hP.ok.l99
  walk_at "rd"
  refine ⟨tp, _, rfl, (by rw [map_vn]; exact SqT.of hP.tkA), ?_⟩
  walk_at "rd"
  refine Rd.i1 (.inr ⟨by simp; omega, by have := hP.ok.clP.len; simp; omega⟩) ?_
  walk_at "rd"
  refine ⟨cp, _, rfl, (by rw [map_vn]; exact SqT.of hP.clA), ?_⟩
  walk_at "rd"
  refine Rd.i1 (.inr ⟨by simp; omega, by have := hP.ok.tkP.len; simp; omega⟩) ?_
  walk_at "rd"
  rw [sum_cast, sum_cast, List.length_map, List.length_map]
  have key := cmp_sums n0 c0
  have gi := grow_iff (tk := tk) (cl := cl) p0 per_tk per_cl
  have gz := grow0 (tk := tk) (cl := cl)
  refine Rd.d2 (fun c => ?_) fun c => ?_
  · rw [← Int.natCast_mul, ← Int.natCast_mul] at c
    exact k _ _ (Same.refl _) (.inl ⟨by omega, rfl⟩)
  rw [← Int.natCast_mul, ← Int.natCast_mul] at c
  have g0 : grow tk cl = 0 := by omega
  walk_at "rd"
  refine ⟨t, tp, cp, m, lt, tk, cl, 2 * per tk cl + lt + 1, ?_, hP, by omega, fun l ys H1 nl S1 hl hlen hR => ?_⟩
  · have e : V.int ((2 : Int) * ((per tk cl : Nat) : Int) + (lt : Int) + 1) = vn (2 * per tk cl + lt + 1) := vn_int (by omega)
    rw [← e]
  walk_at "rd"
  refine Rd.lc_lst (fun i => vn (opn tk cl lt i)) (SqL.of hl) (by omega) (fun i y hy => ?_) fun D H2 nD S2 h2 => ?_
  · obtain ⟨r, rfl, hr⟩ := hR i y hy
    refine Rd.turn_tup2 rfl (SqT.of hr) fun H' S Q' q => ?_
    walk_at "rd"
    rw [← opn_int] at q
    exact q _ (Same.refl _)
  · rw [hlen] at h2
    walk_at "rd"
    refine ⟨D, (List.range (2 * per tk cl + lt + 1)).map fun i => ((opn tk cl lt i : Nat) : Int), rfl, SqL.of (by rw [List.map_map]; exact h2), by simp, fun z hz hall => ?_⟩
    obtain ⟨i, hi, rfl⟩ := List.mem_map.mp hz
    refine k _ _ (S1.trans S2) (.inr ⟨g0, _, rfl, opn_window p0 per_tk per_cl (gz.mp g0) (N := 2 * per tk cl + lt + 1) (by omega) (fun j hj => ?_) ⟨_, rfl⟩⟩)
    have := hall _ (List.mem_map.mpr ⟨j, List.mem_range.mpr hj, rfl⟩)
    omega
end
end Tk
namespace Tk
open PySem PySem.Spec PyProof.Rows L2 Mm
namespace Rd
variable {H : Hp} {Q : VK} {E : XK} {p tp cp : Addr} {m lt : Nat} {tk cl : List Nat}
theorem h_most2 (hP : PartsAt H p m tp tk cp cl lt) (k : ∀ v H', Same H H' → MostV tk cl lt v → Q v H') : spMost2 [.ref p] H Q E := ⟨p, tp, cp, m, lt, tk, cl, rfl, hP, k⟩
theorem h_opens2 {n : Nat} (hP : PartsAt H p m tp tk cp cl lt) (hn : n ≤ 900) (k : ∀ (l : Addr) (ys : List V) H', H l = none → Same H H' → H' l = some (.lst ys) → ys.length = n → (∀ (i : Nat) y, ys[i]? = some y → OpR_ tk cl lt i y H') → Q (.ref l) H') : spOpens2 [.ref p, .int (n : Int)] H Q E := ⟨p, tp, cp, m, lt, tk, cl, n, rfl, hP, hn, k⟩
theorem h_opens2L {n : Nat} (hP : PartsAt H p m tp tk cp cl lt) (hn : n ≤ 900) (k : ∀ (l : Addr) (ys : List V) H', H l = none → Same H H' → H' l = some (.lst ys) → ys.length = (OfNat.ofNat n : Nat) → (∀ (i : Nat) y, ys[i]? = some y → OpR_ tk cl lt i y H') → Q (.ref l) H') : spOpens2 [.ref p, .int (OfNat.ofNat n : Int)] H Q E := h_opens2 hP hn k
end Rd
end Tk

end

section
local macro_rules | `(tactic| walk_at "hp") => `(tactic| first
  | assumption
  | with_reducible exact L2.upd_same
  | ((with_reducible refine' Tk.Same.get ?k0 ?k1); (case k0 => assumption); (case k1 => walk_at "hp"))
  | fail "hp")
local macro_rules | `(tactic| walk_at "same") => `(tactic| first
  | assumption
  | exact L2.Same.refl _
  | ((with_reducible refine' Tk.Same.nw ?k0 ?k1); (case k0 => assumption); (case k1 => walk_at "same"))
  | ((with_reducible refine' Tk.Same.tr ?k0 ?k1); (case k0 => assumption); (case k1 => walk_at "same")))
local macro_rules | `(tactic| walk_at "sql") => `(tactic| first
  | assumption
  | ((with_reducible refine' L2.SqL.of ?k0); (case k0 => walk_at "hp"))
  | ((with_reducible refine' L2.Same.seq ?k0 ?k1); (case k0 => assumption); (case k1 => walk_at "sql")))
local macro_rules | `(tactic| walk_at "sqt") => `(tactic| first
  | assumption
  | ((with_reducible refine' L2.SqT.of ?k0); (case k0 => walk_at "hp"))
  | ((with_reducible refine' Tk.sqt_sm ?k0 ?k1); (case k0 => assumption); (case k1 => walk_at "sqt")))
local macro_rules | `(tactic| walk_at "sz") => `(tactic| first
  | (show (_ : Nat) ≤ 1000; decide)
  | (simp; done)
  | (simp; omega))
local macro_rules | `(tactic| walk_at "szb") => `(tactic| first
  | assumption
  | (show (_ : Nat) ≤ 100000; decide)
  | (simp; done)
  | (simp; omega))
local macro_rules | `(tactic| walk_at "dp") => `(tactic| first
  | assumption
  | with_reducible exact L2.Dp.non
  | with_reducible exact L2.Dp.int _
  | with_reducible exact L2.Dp.str _
  | with_reducible exact L2.Dp.bl _
  | ((with_reducible refine' L2.Dp.lst ?k0 ?k1); (case k0 => walk_at "sql"); (case k1 => walk_at "dpa"))
  | ((with_reducible refine' L2.Dp.tup ?k0 ?k1); (case k0 => walk_at "sqt"); (case k1 => walk_at "dpa"))
  | ((with_reducible refine' Tk.dp_sm ?k0 ?k1); (case k0 => assumption); (case k1 => walk_at "dp"))
  | fail "dp")
local macro_rules | `(tactic| walk_at "dpa") => `(tactic| first
  | assumption
  | with_reducible exact L2.DpAll.nil
  | ((with_reducible refine' L2.DpAll.cons ?k0 ?k1); (case k0 => walk_at "dp"); (case k1 => walk_at "dpa"))
  | with_reducible exact Tk.dp_nats _
  | ((with_reducible refine' Tk.dpA_sm ?k0 ?k1); (case k0 => assumption); (case k1 => walk_at "dpa"))
  | fail "dpa")
local macro_rules | `(tactic| walk_at "ci") => `(tactic| first
  | exact .inl ⟨by decide, by decide⟩
  | exact .inr ⟨by decide, by decide⟩
  | exact .inl ⟨by omega, by omega⟩
  | exact .inr ⟨by omega, by omega⟩
  | exact ⟨by decide, by decide⟩
  | exact ⟨by omega, by omega⟩
  | (show (0 : Int) < _; decide)
  | (show (0 : Int) < _; omega))
local macro_rules | `(tactic| walk_at "rd1") => `(tactic| first
  | with_reducible refine Tk.Rd.seq ?_
  | with_reducible refine Tk.Rd.star ?_
  | with_reducible refine Tk.Rd.int1_i ?_
  | with_reducible refine Tk.Rd.int1_b ?_
  | with_reducible refine Tk.Rd.tlc2 ?_
  | with_reducible refine Tk.Rd.lrg3 ?_
  | with_reducible refine Tk.Rd.lrg ?_
  | with_reducible refine Tk.Rd.rg1 ?_
  | with_reducible refine Tk.Rd.rg1K_i ?_
  | with_reducible refine Tk.Rd.rg2 ?_
  | with_reducible refine Tk.Rd.rg2K_i ?_
  | ((with_reducible refine' Tk.Rd.catL ?k0 ?k1 ?k2 fun p H' np S hp => ?_); (case k0 => walk_at "hp"); (case k1 => walk_at "hp"); (case k2 => walk_at "szb"))
  | ((with_reducible refine' Tk.Rd.starK_t ?k0 ?_); (case k0 => walk_at "sqt"))
  | ((with_reducible refine' Tk.Rd.starK_l ?k0 ?_); (case k0 => walk_at "sql"))
  | ((with_reducible refine' Tk.Rd.var ?k0 ?_); (case k0 => exact rfl))
  | with_reducible refine Tk.Rd.c ?_
  | with_reducible refine Tk.Rd.op ?_
  | with_reducible refine Tk.Rd.i0 ?_
  | with_reducible refine Tk.Rd.asg ?_
  | with_reducible refine Tk.Rd.name ?_
  | with_reducible refine Tk.Rd.cons ?_
  | with_reducible refine Tk.Rd.nil ?_
  | with_reducible refine Tk.Rd.call ?_
  | with_reducible refine Tk.Rd.callK_i ?_
  | with_reducible refine Tk.Rd.tst ?_
  | with_reducible refine Tk.Rd.bv ?_
  | with_reducible refine Tk.Rd.toB_i ?_
  | with_reducible refine Tk.Rd.ift ?_
  | with_reducible refine Tk.Rd.iff ?_
  | with_reducible refine Tk.Rd.ifnt ?_
  | with_reducible refine Tk.Rd.ifnf ?_
  | with_reducible refine Tk.Rd.not ?_
  | with_reducible refine Tk.Rd.and ?_
  | with_reducible refine Tk.Rd.or ?_
  | with_reducible refine Tk.Rd.andV ?_
  | with_reducible refine Tk.Rd.andK_i ?_
  | with_reducible refine Tk.Rd.orV ?_
  | with_reducible refine Tk.Rd.orK_i ?_
  | with_reducible refine Tk.Rd.notV ?_
  | with_reducible refine Tk.Rd.notK_i ?_
  | with_reducible refine Tk.Rd.tif ?_
  | with_reducible refine Tk.Rd.yes ?_
  | with_reducible refine Tk.Rd.tfor ?_
  | with_reducible refine Tk.Rd.tlc ?_
  | with_reducible refine Tk.Rd.rng ?_
  | ((with_reducible refine' Tk.Rd.rngK_n ?k0 ?_); (case k0 => first | decide | omega))
  | ((with_reducible refine' Tk.Rd.rngK_lit ?k0 ?_); (case k0 => decide))
  | with_reducible refine Tk.Rd.rng2 ?_
  | with_reducible refine Tk.Rd.rng3 ?_
  | with_reducible refine Tk.Rd.ilist ?_
  | with_reducible refine Tk.Rd.zip ?_
  | with_reducible refine Tk.Rd.itup ?_
  | ((with_reducible refine' Tk.Rd.listK_i ?k0 ?_); (case k0 => walk_at "sql"))
  | ((with_reducible refine' Tk.Rd.ituK_i ?k0 ?_); (case k0 => walk_at "sqt"))
  | with_reducible refine Tk.Rd.chain ?_
  | with_reducible refine Tk.Rd.chainL_i ?_
  | with_reducible refine Tk.Rd.un ?_
  | with_reducible refine Tk.Rd.u1 ?_
  | ((with_reducible refine' Tk.Rd.i1 ?k0 ?_); (case k0 => walk_at "ci"))
  | ((with_reducible refine' Tk.Rd.eq ?k0 ?_); (case k0 => exact rfl))
  | ((with_reducible refine' Tk.Rd.ne ?k0 ?_); (case k0 => exact rfl))
  | with_reducible refine Tk.Rd.isN ?_
  | with_reducible refine Tk.Rd.notN ?_
  | with_reducible refine Tk.Rd.fld ?_
  | with_reducible refine Tk.Rd.meth ?_
  | with_reducible refine Tk.Rd.prop ?_
  | with_reducible refine Tk.Rd.cb ?_
  | with_reducible refine Tk.Rd.bm ?_
  | with_reducible refine Tk.Rd.m0 ?_
  | with_reducible refine Tk.Rd.m0K_i ?_
  | with_reducible refine Tk.Rd.m1 ?_
  | with_reducible refine Tk.Rd.m1K_i ?_
  | with_reducible refine Tk.Rd.tup ?_
  | ((with_reducible refine' Tk.Rd.tupK_i ?k0 fun p H' np S hp => ?_); (case k0 => walk_at "sz"))
  | with_reducible refine Tk.Rd.lst ?_
  | ((with_reducible refine' Tk.Rd.lstK_i ?k0 fun p H' np S hp => ?_); (case k0 => walk_at "sz"))
  | ((with_reducible refine' Tk.Rd.ixF ?k0 ?k1 ?_); (case k0 => walk_at "hp"); (case k1 => omega))
  | ((with_reducible refine' Tk.Rd.ixF1 ?k0 ?k1 ?_); (case k0 => walk_at "hp"); (case k1 => omega))
  | ((with_reducible refine' Tk.Rd.ixT ?k0 ?k1 ?_); (case k0 => walk_at "sqt"); (case k1 => exact rfl))
  | ((with_reducible refine' Tk.Rd.ixL ?k0 ?k1 ?_); (case k0 => walk_at "sql"); (case k1 => exact rfl))
  | ((with_reducible refine' Tk.Rd.lenL ?k0 ?_); (case k0 => walk_at "sql"))
  | ((with_reducible refine' Tk.Rd.lenT ?k0 ?_); (case k0 => walk_at "sqt"))
  | ((with_reducible refine' Tk.Rd.lenS ?k0 ?_); (case k0 => first | assumption | omega | (simp; omega)))
  | ((with_reducible refine' Tk.Rd.slTr ?k0 fun p H' S hp => ?_); (case k0 => walk_at "hp"))
  | ((with_reducible refine' Tk.Rd.slT ?k0 fun p H' S hq => ?_); (case k0 => walk_at "sqt"))
  | ((with_reducible refine' Tk.Rd.catTr ?k0 ?k1 ?k2 fun p H' S hp => ?_); (case k0 => walk_at "hp"); (case k1 => walk_at "hp"); (case k2 => walk_at "sz"))
  | ((with_reducible refine' Tk.Rd.catA ?k0 ?k1 ?k2 ?k3 ?k4 fun p H' np S hp => ?_); (case k0 => walk_at "sqt"); (case k1 => walk_at "sqt"); (case k2 => simp); (case k3 => simp); (case k4 => first | (simp; done) | (simp; omega)))
  | with_reducible refine Tk.Rd.make ?_
  | ((with_reducible refine' Tk.Rd.tplL ?k0 fun q H' nq S hq => ?_); (case k0 => walk_at "sql"))
  | ((with_reducible refine' Tk.Rd.lstL ?k0 fun q H' nq S hq => ?_); (case k0 => walk_at "sql"))
  | ((with_reducible refine' Tk.Rd.lstT ?k0 fun q H' nq S hq => ?_); (case k0 => walk_at "sqt"))
  | ((with_reducible refine' Tk.Rd.join ?k0 ?k1 ?_); (case k0 => walk_at "sql"); (case k1 => first | assumption | omega))
  | with_reducible refine Tk.Rd.mx ?_
  | with_reducible refine Tk.Rd.mn ?_
  | with_reducible refine Tk.Rd.noPart ?_
  | with_reducible refine Tk.Rd.part ?_
  | with_reducible refine Tk.Rd.partK_i ?_
  | with_reducible refine Tk.Rd.slc ?_
  | ((with_reducible refine' Tk.Rd.gtup ?k0 ?k1 ?_); (case k0 => walk_at "sqt"); (case k1 => exact rfl))
  | ((with_reducible refine' Tk.Rd.glst ?k0 ?k1 ?_); (case k0 => walk_at "sql"); (case k1 => exact rfl))
  | with_reducible refine Tk.Rd.gcons ?_
  | with_reducible refine Tk.Rd.gnil ?_
  | with_reducible refine Tk.Rd.next ?_
  | with_reducible refine Tk.Rd.drop ?_
  | with_reducible refine Tk.Rd.ret ?_
  | with_reducible refine Tk.Rd.retN ?_
  | with_reducible refine Tk.Rd.par ?_
  | with_reducible refine Tk.Rd.parK_i ?_
  | with_reducible refine Tk.Rd.par3 ?_
  | with_reducible refine Tk.Rd.par3K_i ?_
  | ((with_reducible refine' Tk.Rd.aug ?k0 ?_); (case k0 => exact rfl))
  | with_reducible refine Tk.Rd.ip ?_
  | ((with_reducible refine' Tk.Rd.bmK_l ?k0 ?_); (case k0 => walk_at "sql"))
  | ((with_reducible refine' Tk.Rd.addS ?k0 ?_); (case k0 => walk_at "sz"))
  | fail "rd1")
local macro_rules | `(tactic| walk_at "rd1i") => `(tactic| first
  | walk_at "rd1"
  | with_reducible refine Tk.Rd.ifS ?_
  | fail "rd1i")
local macro_rules | `(tactic| walk_at "rd") => `(tactic| (repeat' walk_at "rd1i"))
local macro_rules | `(tactic| walk_at "rs") => `(tactic| ((repeat' walk_at "rd1"); (try dsimp only)))
local macro_rules | `(tactic| walk_at "hall") => `(tactic| first
  | assumption
  | ((with_reducible refine' Tk.HallAt.sm ?k0 ?k1); (case k0 => assumption); (case k1 => walk_at "hall"))
  | fail "hall")
local macro_rules | `(tactic| walk_at "parts") => `(tactic| first
  | assumption
  | ((with_reducible refine' Tk.PartsAt.sm ?k0 ?k1); (case k0 => assumption); (case k1 => walk_at "parts"))
  | fail "parts")
local macro_rules | `(tactic| walk_at "sm") => `(tactic| first
  | assumption
  | exact Tk.Sm.int rfl
  | exact Tk.Sm.flat1 rfl
  | ((with_reducible refine' Tk.Sm.sm ?k0 ?k1); (case k0 => assumption); (case k1 => walk_at "sm"))
  | fail "sm")
local macro_rules | `(tactic| walk_at "rd1") => `(tactic| first
  | ((with_reducible refine' Tk.Rd.f_modulus ?k0 ?k1 ?_); (case k0 => assumption); (case k1 => walk_at "hall"))
  | ((with_reducible refine' Tk.Rd.f_lateness ?k0 ?k1 ?_); (case k0 => assumption); (case k1 => walk_at "hall"))
  | ((with_reducible refine' Tk.Rd.f_takes ?k0 ?k1 fun tp htp => ?_); (case k0 => assumption); (case k1 => walk_at "hall"))
  | ((with_reducible refine' Tk.Rd.f_calls ?k0 ?k1 fun cp hcp => ?_); (case k0 => assumption); (case k1 => walk_at "hall"))
  | ((with_reducible refine' Tk.Rd.h_meth ?k0 ?k1 ?_); (case k0 => walk_at "hall"); (case k1 => decide +kernel))
  | ((with_reducible refine' Tk.Rd.h_prop ?k0 ?_); (case k0 => walk_at "hall"))
  | ((with_reducible refine' Tk.Rd.h_taken0 ?k0 fun H' S => ?_); (case k0 => walk_at "hall"))
  | ((with_reducible refine' Tk.Rd.h_taken1 ?k0 fun H' S => ?_); (case k0 => walk_at "hall"))
  | ((with_reducible refine' Tk.Rd.h_takenL ?k0 fun H' S => ?_); (case k0 => walk_at "hall"))
  | ((with_reducible refine' Tk.Rd.h_called0 ?k0 ?_); (case k0 => walk_at "hall"))
  | ((with_reducible refine' Tk.Rd.h_called1 ?k0 ?_); (case k0 => walk_at "hall"))
  | ((with_reducible refine' Tk.Rd.h_calledL ?k0 ?_); (case k0 => walk_at "hall"))
  | ((with_reducible refine' Tk.Rd.h_waiting ?k0 ?k1 fun H' S => ?_); (case k0 => walk_at "hall"); (case k1 => omega))
  | ((with_reducible refine' Tk.Rd.h_growth ?k0 fun H' S => ?_); (case k0 => walk_at "hall"))
  | ((with_reducible refine' Tk.Rd.h_period ?k0 ?_); (case k0 => walk_at "hall"))
  | ((with_reducible refine' Tk.Rd.h_lhall ?k0 fun h lp H' nh nl S hA => ?_); (case k0 => walk_at "parts"))
  | ((with_reducible refine' Tk.Rd.h_length ?k0 ?_); (case k0 => walk_at "parts"))
  | ((with_reducible refine' Tk.Rd.h_counts ?k0 ?k1 fun r a b H' nr na nb nab S hr ha hb => ?_); (case k0 => walk_at "parts"); (case k1 => omega))
  | ((with_reducible refine' Tk.Rd.h_countsL ?k0 ?k1 fun r a b H' nr na nb nab S hr ha hb => ?_); (case k0 => walk_at "parts"); (case k1 => decide))
  | ((with_reducible refine' Tk.Rd.h_make ?k0 ?k1 ?k2 fun h lp H' nh nl S hA => ?_); (case k0 => assumption); (case k1 => walk_at "hp"); (case k2 => walk_at "hp"))
  | ((with_reducible refine' Tk.Rd.p_0 ?k0 ?_); (case k0 => walk_at "parts"))
  | ((with_reducible refine' Tk.Rd.p_1 ?k0 fun htp => ?_); (case k0 => walk_at "parts"))
  | ((with_reducible refine' Tk.Rd.p_2 ?k0 fun hcp => ?_); (case k0 => walk_at "parts"))
  | ((with_reducible refine' Tk.Rd.p_3 ?k0 ?_); (case k0 => walk_at "parts"))
  | fail "rd1")
local macro_rules | `(tactic| walk_at "sqt") => `(tactic| first | ((with_reducible refine' Tk.PartsAt.sq ?k0); (case k0 => walk_at "parts")) | fail "sqt")
local macro_rules | `(tactic| walk_at "free") => `(tactic| first
  | assumption
  | ((with_reducible refine' Tk.Same.fr ?k0 ?k1); (case k0 => assumption); (case k1 => walk_at "free")))
local macro_rules | `(tactic| walk_at "hp") => `(tactic| first
  | ((with_reducible refine' Tk.But.gt ?k0 ?k1 ?k2); (case k0 => assumption); (case k1 => assumption); (case k2 => walk_at "hp"))
  | ((with_reducible refine' Tk.But.gl ?k0 ?k1 ?k2); (case k0 => assumption); (case k1 => assumption); (case k2 => walk_at "hp"))
  | fail "hp")
local macro_rules | `(tactic| walk_at "hall") => `(tactic| first | ((with_reducible refine' Tk.HallAt.bt ?k0 ?k1 ?k2 ?k3); (case k0 => assumption); (case k1 => assumption); (case k2 => assumption); (case k3 => walk_at "hall")) | fail "hall")
local macro_rules | `(tactic| walk_at "parts") => `(tactic| first | ((with_reducible refine' Tk.PartsAt.bt ?k0 ?k1 ?k2); (case k0 => assumption); (case k1 => assumption); (case k2 => walk_at "parts")) | fail "parts")
local macro_rules | `(tactic| walk_at "rd1") => `(tactic| first
  | ((with_reducible refine' Tk.Rd.h_below ?k0 ?k1 ?k2 ?k3 fun r H' cs hr B hd hcs => ?_); (case k0 => walk_at "hp"); (case k1 => assumption); (case k2 => first | decide | omega); (case k3 => first | decide | omega))
  | ((with_reducible refine' Tk.Rd.h_parts ?k0 ?k1 ?k2 ?k3 fun t tp cp m lt tk cl H' cs nt B hd hcs hP l1 l2 => ?_); (case k0 => walk_at "hp"); (case k1 => assumption); (case k2 => first | decide | omega); (case k3 => first | decide | omega))
  | ((with_reducible refine' Tk.Rd.h_partsL ?k0 ?k1 ?k2 ?k3 fun t tp cp m lt tk cl H' cs nt B hd hcs hP l1 l2 => ?_); (case k0 => walk_at "hp"); (case k1 => assumption); (case k2 => first | decide | omega); (case k3 => first | decide | omega))
  | ((with_reducible refine' Tk.Rd.h_small ?k0 ?k1 fun t tp cp m lt tk cl H' cs nt B hd hcs hP m1 l1 l2 l3 => ?_); (case k0 => walk_at "hp"); (case k1 => assumption))
  | ((with_reducible refine' Tk.Rd.h_tick ?k0 ?k1 fun t H' cs ht B hd hcs => ?_); (case k0 => walk_at "hp"); (case k1 => assumption))
  | ((with_reducible refine' Tk.Rd.h_mo ?k0 fun v H' S hv => ?_); (case k0 => walk_at "hall"))
  | ((with_reducible refine' Tk.Rd.h_lc ?k0 fun v H' S hv => ?_); (case k0 => walk_at "hall"))
  | ((with_reducible refine' Tk.Rd.h_lm ?k0 fun v H' S hv => ?_); (case k0 => walk_at "hall"))
  | ((with_reducible refine' Tk.Rd.h_gl ?k0 fun v H' S hv => ?_); (case k0 => walk_at "hall"))
  | ((with_reducible refine' Tk.Rd.h_ot ?k0 ?k1 fun r H' nr S hr => ?_); (case k0 => walk_at "hall"); (case k1 => first | assumption | omega))
  | ((with_reducible refine' Tk.Rd.h_most2 ?k0 fun v H' S hv => ?_); (case k0 => walk_at "parts"))
  | ((with_reducible refine' Tk.Rd.h_opens2L ?k0 ?k1 fun l ys H' nl S hl hlen hR => ?_); (case k0 => walk_at "parts"); (case k1 => decide))
  | ((with_reducible refine' Tk.Rd.h_opens2 ?k0 ?k1 fun l ys H' nl S hl hlen hR => ?_); (case k0 => walk_at "parts"); (case k1 => first | decide | omega))
  | fail "rd1")
local macro_rules | `(tactic| walk_at "ok") => `(tactic| first
  | assumption
  | ((with_reducible refine' Tk.HallAt.ok ?k0); (case k0 => walk_at "hall"))
  | ((with_reducible refine' Tk.PartsAt.ok ?k0); (case k0 => walk_at "parts"))
  | fail "ok")
local macro_rules | `(tactic| walk_at "sml") => `(tactic| first
  | exact Tk.Sml.ints (by walk_at "szb")
  | exact Tk.Sml.intsT (by walk_at "szb")
  | trivial
  | (simp [Tk.Sml]; done)
  | (simp [Tk.Sml]; omega)
  | fail "sml")
local macro_rules | `(tactic| walk_at "rd1") => `(tactic| first
  | ((with_reducible refine' Tk.Rd.nT ?k0 ?_); (case k0 => with_reducible exact rfl))
  | ((with_reducible refine' Tk.Rd.dT ?k0 ?_); (case k0 => with_reducible exact rfl))
  | with_reducible refine Tk.Rd.nF Tk.Rd.int_non ?_
  | with_reducible refine Tk.Rd.nF Tk.Rd.ref_non ?_
  | with_reducible refine Tk.Rd.dF Tk.Rd.int_non ?_
  | with_reducible refine Tk.Rd.dF Tk.Rd.ref_non ?_
  | ((with_reducible refine' Tk.Rd.h_disp ?k0 ?k1 ?_); (case k0 => first | assumption | omega); (case k1 => walk_at "hall"))
  | ((with_reducible refine' Tk.Rd.h_hold ?k0 ?k1 ?k2 ?k3 fun l H' nl S hl => ?_); (case k0 => walk_at "hall"); (case k1 => first | assumption | omega); (case k2 => first | assumption | omega); (case k3 => first | assumption | omega))
  | ((with_reducible refine' Tk.Rd.h_mis ?k0 ?k1 ?k2 fun l ys H' nl S hl hd => ?_); (case k0 => walk_at "hall"); (case k1 => first | assumption | omega); (case k2 => first | assumption | omega))
  | ((with_reducible refine' Tk.Rd.h_enc ?k0 fun l H' nl S hl => ?_); (case k0 => walk_at "hall"))
  | ((with_reducible refine' Tk.Rd.h_dec ?k0 ?k1 fun h lp H' nh nl S hA => ?_); (case k0 => walk_at "hp"); (case k1 => walk_at "ok"))
  | ((with_reducible refine' Tk.Rd.h_text ?k0 fun H' S => ?_); (case k0 => walk_at "hall"))
  | ((with_reducible refine' Tk.Rd.h_eqd ?k0 ?k1 ?k2 fun H' S => ?_); (case k0 => walk_at "dp"); (case k1 => walk_at "dp"); (case k2 => walk_at "sml"))
  | ((with_reducible refine' Tk.Rd.eqd ?k0 ?k1 ?k2 ?k3 ?_); (case k0 => walk_at "dp"); (case k1 => walk_at "dp"); (case k2 => walk_at "sml"); (case k3 => walk_at "sml"))
  | ((with_reducible refine' Tk.Rd.ned ?k0 ?k1 ?k2 ?k3 ?_); (case k0 => walk_at "dp"); (case k1 => walk_at "dp"); (case k2 => walk_at "sml"); (case k3 => walk_at "sml"))
  | fail "rd1")
/-! ### The law's own counts for items of any size -/
namespace Tk
open PySem PySem.Spec PyProof.Rows L2 Mm
/-- a pattern whose items may be large -/
structure PatW (ps : List Nat) : Prop where
  pos : 0 < ps.length
  len : ps.length ≤ 12
structure PtW (tk cl : List Nat) (lt : Nat) : Prop where
  tkP : PatW tk
  clP : PatW cl
  l99 : lt ≤ 99
theorem per_144w {tk cl : List Nat} (h1 : PatW tk) (h2 : PatW cl) : per tk cl ≤ 144 :=
  have e1 : (List.replicate tk.length 0).length = tk.length := List.length_replicate
  have e2 : (List.replicate cl.length 0).length = cl.length := List.length_replicate
  have z : per (List.replicate tk.length 0) (List.replicate cl.length 0) ≤ 144 := per_144 ⟨by rw [e1]; exact h1.pos, by rw [e1]; exact h1.len, fun x hx => by rw [(List.mem_replicate.mp hx).2]; decide⟩ ⟨by rw [e2]; exact h2.pos, by rw [e2]; exact h2.len, fun x hx => by rw [(List.mem_replicate.mp hx).2]; decide⟩
  by unfold per at z ⊢; rw [e1, e2] at z; exact z
structure PartsW (H : Hp) (t : Addr) (m : Nat) (tp : Addr) (tk : List Nat) (cp : Addr) (cl : List Nat) (lt : Nat) : Prop where
  at_ : H t = some (.tup [vn m, .ref tp, .ref cp, vn lt])
  tkA : H tp = some (.tup (tk.map vn))
  clA : H cp = some (.tup (cl.map vn))
  ok : PtW tk cl lt
theorem PartsW.same {t tp cp : Addr} {H H' : Hp} {m lt : Nat} {tk cl : List Nat} (p : PartsW H t m tp tk cp cl lt) (b : Same H H') : PartsW H' t m tp tk cp cl lt := ⟨b _ _ p.at_, b _ _ p.tkA, b _ _ p.clA, p.ok⟩
theorem PartsW.sm {t tp cp : Addr} {H H' : Hp} {m lt : Nat} {tk cl : List Nat} (b : Same H H') (p : PartsW H t m tp tk cp cl lt) : PartsW H' t m tp tk cp cl lt := p.same b
theorem PartsW.sq {K : PySem.W.Frag} {t tp cp : Addr} {H : Hp} {m lt : Nat} {tk cl : List Nat} (p : PartsW H t m tp tk cp cl lt) : SqT K H t [vn m, .ref tp, .ref cp, vn lt] := SqT.of p.at_
def spLengthW : Sp := fun vs H Q _ => ∃ (t tp cp : Addr) (m lt : Nat) (tk cl : List Nat), vs = [.ref t] ∧ PartsW H t m tp tk cp cl lt ∧ Q (vn (per tk cl)) H
def spCountsW : Sp := fun vs H Q _ => ∃ (t tp cp : Addr) (m lt : Nat) (tk cl : List Nat) (n : Nat), vs = [.ref t, vn n] ∧ PartsW H t m tp tk cp cl lt ∧ n ≤ 10000 ∧
  ∀ r a b H', H r = none → H a = none → H b = none → a ≠ b → Same H H' → H' r = some (.tup [.ref a, .ref b]) → H' a = some (.lst (fV (tak tk) n)) → H' b = some (.lst (fV (cal tk cl) n)) → Q (.ref r) H'
def spOpensW : Sp := fun vs H Q _ => ∃ (t tp cp : Addr) (m lt : Nat) (tk cl : List Nat) (n : Nat), vs = [.ref t, vn n] ∧ PartsW H t m tp tk cp cl lt ∧ n ≤ 900 ∧
  ∀ (l : Addr) (ys : List V) H', H l = none → Same H H' → H' l = some (.lst ys) → ys.length = n → (∀ (i : Nat) y, ys[i]? = some y → OpR_ tk cl lt i y H') → Q (.ref l) H'
def spMostW : Sp := fun vs H Q _ => ∃ (t tp cp : Addr) (m lt : Nat) (tk cl : List Nat), vs = [.ref t] ∧ PartsW H t m tp tk cp cl lt ∧ ∀ v H', Same H H' → MostV tk cl lt v → Q v H'
namespace Rd
variable {K : PySem.W.Frag} {H : Hp} {Q : VK} {E : XK} {m lt : Nat} {tk cl : List Nat}
theorem pw_0 {tp cp p : Addr} (hP : PartsW H p m tp tk cp cl lt) (k : Q (vn m) H) : rIxT K (.ref p) (.int 0) H Q := ixT (SqT.of hP.at_) (at3 (j := 0) rfl) k
theorem pw_1 {tp cp p : Addr} (hP : PartsW H p m tp tk cp cl lt) (k : H tp = some (.tup (tk.map vn)) → Q (.ref tp) H) : rIxT K (.ref p) (.int 1) H Q := ixT (SqT.of hP.at_) (at3 (j := 1) rfl) (k hP.tkA)
theorem pw_2 {tp cp p : Addr} (hP : PartsW H p m tp tk cp cl lt) (k : H cp = some (.tup (cl.map vn)) → Q (.ref cp) H) : rIxT K (.ref p) (.int 2) H Q := ixT (SqT.of hP.at_) (at3 (j := 2) rfl) (k hP.clA)
theorem pw_3 {tp cp p : Addr} (hP : PartsW H p m tp tk cp cl lt) (k : Q (vn lt) H) : rIxT K (.ref p) (.int 3) H Q := ixT (SqT.of hP.at_) (at3 (j := 3) rfl) k
theorem w_length {tp cp p : Addr} (hP : PartsW H p m tp tk cp cl lt) (k : Q (vn (per tk cl)) H) : spLengthW [.ref p] H Q E := ⟨p, tp, cp, m, lt, tk, cl, rfl, hP, k⟩
theorem w_counts {tp cp p : Addr} {n : Nat} (hP : PartsW H p m tp tk cp cl lt) (hn : n ≤ 10000) (k : ∀ r a b H', H r = none → H a = none → H b = none → a ≠ b → Same H H' → H' r = some (.tup [.ref a, .ref b]) → H' a = some (.lst (fV (tak tk) n)) → H' b = some (.lst (fV (cal tk cl) n)) → Q (.ref r) H') :
    spCountsW [.ref p, .int (n : Int)] H Q E := ⟨p, tp, cp, m, lt, tk, cl, n, rfl, hP, hn, k⟩
end Rd
local macro_rules | `(tactic| walk_at "partsw") => `(tactic| first
  | assumption
  | ((with_reducible refine' Tk.PartsW.sm ?k0 ?k1); (case k0 => assumption); (case k1 => walk_at "partsw"))
  | fail "partsw")
local macro_rules | `(tactic| walk_at "sqt") => `(tactic| first | ((with_reducible refine' Tk.PartsW.sq ?k0); (case k0 => walk_at "partsw")) | fail "sqt")
local macro_rules | `(tactic| walk_at "rd1") => `(tactic| first
  | ((with_reducible refine' Tk.Rd.pw_0 ?k0 ?_); (case k0 => walk_at "partsw"))
  | ((with_reducible refine' Tk.Rd.pw_1 ?k0 fun htp => ?_); (case k0 => walk_at "partsw"))
  | ((with_reducible refine' Tk.Rd.pw_2 ?k0 fun hcp => ?_); (case k0 => walk_at "partsw"))
  | ((with_reducible refine' Tk.Rd.pw_3 ?k0 ?_); (case k0 => walk_at "partsw"))
  | ((with_reducible refine' Tk.Rd.w_length ?k0 ?_); (case k0 => walk_at "partsw"))
  | ((with_reducible refine' Tk.Rd.w_counts ?k0 ?k1 fun r a b H' nr na nb nab S hr ha hb => ?_); (case k0 => walk_at "partsw"); (case k1 => omega))
  | fail "rd1")
section
variable {P : Program} {w : World} {K : PySem.W.Frag} {mg : Str → Option Value} {base : Heap}
theorem okw__law_length (T : Txt K mg) : OkF P w K mg base 1 (He.ga K "_law_length") ["_law_parts"] spLengthW := by
  refine FnP.okF T.f__law_length sc__law_length (fun _ _ _ _ _ _ us hl => match us, hl with | [_], _ => rfl) (fun vs H Q E h => ?_) (fun cdv A outer s H vs Q E hr h => ?_)
  · obtain ⟨t, _, _, _, _, _, _, rfl, _⟩ := h
    rfl
  obtain ⟨t, tp, cp, m, lt, tk, cl, rfl, hP, k⟩ := h
  have n0 := hP.ok.tkP.pos
  have c0 := hP.ok.clP.pos
  have p144 := per_144w hP.ok.tkP hP.ok.clP
  refine ⟨_, (pss_cons (ps_set (i := 1) sc__law_length.nd rfl (Or.inl rfl) (pe_callB (lenK (K := K)) (by rfl) T.g_len (by decide +kernel) (pa_cons (pe_ix (ixTK (K := K)) (pv 0) pe_int (fun _ _ => rfl)) pa_nil)))
    (pss_cons (ps_while own_cx (pt_cmpR op_gt (pe_op op_mod (pv 1) (pe_callB (lenK (K := K)) (by rfl) T.g_len (by decide +kernel) (pa_cons (pe_ix (ixTK (K := K)) (pv 0) pe_int (fun _ _ => rfl)) pa_nil))) pe_int (nomark _))
      (pss_one (ps_set (i := 1) sc__law_length.nd rfl (Or.inl rfl) (pe_op op_add (pv 1) (pe_callB (lenK (K := K)) (by rfl) T.g_len (by decide +kernel) (pa_cons (pe_ix (ixTK (K := K)) (pv 0) pe_int (fun _ _ => rfl)) pa_nil))))))
    (pss_one (ps_ret (pv 1))))), ?_⟩
  have S := SqT.of (K := K) hP.at_
  have St := SqT.of (K := K) hP.tkA
  have Sc := SqT.of (K := K) hP.clA
  refine ⟨_, rfl, t, _, 1, _, rfl, rfl, S, at3 (j := 1) rfl, tp, _, rfl, .inr St, ?_⟩
  refine ⟨fun mm σ H2 => ∃ q : Nat, 0 < q ∧ (∀ j, 0 < j → j < q → ¬ cl.length ∣ j * tk.length) ∧ σ = [some (.ref t), some (vn (q * tk.length))] ∧ H2 = H ∧ mm = 300 - q * tk.length, ⟨_, 1, by omega, fun j h1 h2 => by omega, ?_, rfl, rfl⟩, ?_⟩
  · rw [Nat.one_mul, List.length_map]
    rfl
  · rintro mm σ H2 ⟨q, q0, no, rfl, rfl, rfl⟩
    have le := below_lcm (c := cl.length) no n0 c0
    have le2 : q * tk.length ≤ 144 := Nat.le_trans le p144
    refine ⟨_, rfl, _, rfl, t, _, 2, _, rfl, rfl, S, at3 (j := 2) rfl, cp, _, rfl, .inr Sc, _, _, rfl, rfl, (by show (0 : Int) < ((cl.map vn).length : Int); rw [List.length_map]; omega), _, _, rfl, rfl, _, rfl, ?_⟩
    have em : ((q * tk.length : Nat) : Int) % ((cl.map vn).length : Int) = ((q * tk.length % cl.length : Nat) : Int) := by rw [List.length_map]; exact (Int.natCast_emod _ _).symm
    rw [em]
    refine ite2 (fun c => ?_) (fun c => ?_)
    · have c2 : (0 : Int) < ((q * tk.length % cl.length : Nat) : Int) := of_decide_eq_true c
      refine ⟨_, fun σ' H' z => z, ?_⟩
      refine ⟨_, rfl, _, rfl, t, _, 1, _, rfl, rfl, S, at3 (j := 1) rfl, tp, _, rfl, .inr St, _, _, rfl, rfl, ?_⟩
      refine ⟨300 - (q + 1) * tk.length, by rw [Nat.succ_mul]; omega, q + 1, by omega, fun j j0 jq => ?_, ?_, rfl, rfl⟩
      · rcases Nat.lt_or_ge j q with lt | ge
        · exact no j j0 lt
        · obtain rfl : j = q := by omega
          intro d
          have := Nat.mod_eq_zero_of_dvd d
          omega
      · rw [List.length_map, Nat.succ_mul]
        have e : V.int (((q * tk.length : Nat) : Int) + ((tk.length : Nat) : Int)) = vn (q * tk.length + tk.length) := vn_int (Int.natCast_add _ _).symm
        rw [← e]
        rfl
    · have c2 : ¬ (0 : Int) < ((q * tk.length % cl.length : Nat) : Int) := fun h => c (decide_eq_true h)
      have d : cl.length ∣ q * tk.length := Nat.dvd_of_mod_eq_zero (by omega)
      have e := least_lcm q0 d no n0 c0
      refine ⟨_, rfl, ?_⟩
      show Q (vn (q * tk.length)) _
      rw [e]
      exact k
theorem okw__law_counts (T : Txt K mg) : OkF P w K mg base 1 (He.ga K "_law_counts") ["_law_parts", "_law_ticks"] spCountsW := by
  refine FnP.okF T.f__law_counts sc__law_counts (fun _ _ _ _ _ _ us hl => match us, hl with | [_, _], _ => rfl) (fun vs H Q E h => ?_) (fun cdv A outer s H vs Q E hr h => ?_)
  · obtain ⟨t, _, _, _, _, _, _, _, rfl, _⟩ := h
    rfl
  obtain ⟨t, tp, cp, m, lt, tk, cl, n, rfl, hP, hn, k⟩ := h
  have n0 := hP.ok.tkP.pos
  have c0 := hP.ok.clP.pos
  refine ⟨_, (pss_cons (ps_par (i := 2) (j := 3) (by rfl) sc__law_counts.nd rfl rfl (by decide) rfl rfl (pa_cons (pe_lst (pa_cons pe_int pa_nil)) (pa_cons (pe_lst (pa_cons pe_int pa_nil)) pa_nil)) (by rfl))
    (pss_cons (ps_for own_cx rfl (pi_range1 (by rfl) T.g_range (pa_cons (pv 1) pa_nil)) (pg_name (i := 4) sc__law_counts.nd rfl (Or.inl rfl))
      (pss_cons (ps_expr (pe_bm PySem.F.plainAttrs_list PySem.F.slot_list_append PySem.F.type_list_append mt_append (pv 2) (pa_cons (pe_op op_add (pe_ix (ixLK (K := K)) (pv 2) (pe_un un_neg pe_int) (fun _ _ => rfl)) (pe_ix (ixTK (K := K)) (pe_ix (ixTK (K := K)) (pv 0) pe_int (fun _ _ => rfl)) (pe_op op_mod (pv 4) (pe_callB (lenK (K := K)) (by rfl) T.g_len (by decide +kernel) (pa_cons (pe_ix (ixTK (K := K)) (pv 0) pe_int (fun _ _ => rfl)) pa_nil))) (fun _ _ => rfl))) pa_nil)))
    (pss_one (ps_expr (pe_bm PySem.F.plainAttrs_list PySem.F.slot_list_append PySem.F.type_list_append mt_append (pv 3) (pa_cons (pe_callB (show CallR _ (.builtin "min") Rd.rMin2 from call_min2 (by rfl)) (by rfl) T.g_min (by decide +kernel) (pa_cons (pe_ix (ixLK (K := K)) (pv 2) (pe_un un_neg pe_int) (fun _ _ => rfl)) (pa_cons (pe_op op_add (pe_ix (ixLK (K := K)) (pv 3) (pe_un un_neg pe_int) (fun _ _ => rfl)) (pe_ix (ixTK (K := K)) (pe_ix (ixTK (K := K)) (pv 0) pe_int (fun _ _ => rfl)) (pe_op op_mod (pv 4) (pe_callB (lenK (K := K)) (by rfl) T.g_len (by decide +kernel) (pa_cons (pe_ix (ixTK (K := K)) (pv 0) pe_int (fun _ _ => rfl)) pa_nil))) (fun _ _ => rfl))) pa_nil))) pa_nil))))))
    (pss_one (ps_ret (pe_tup (pa_cons (pv 2) (pa_cons (pv 3) pa_nil))))))), ?_⟩
  refine ⟨(by show 1 ≤ sizeLine; decide), fun a ha => ⟨(by show 1 ≤ sizeLine; decide), fun b hb => ⟨_, _, rfl, ?_⟩⟩⟩
  have nab : a ≠ b := fun e => by rw [← e, upd_same] at hb; cases hb
  have hb0 : H b = none := by rw [upd_ne nab.symm] at hb; exact hb
  have Sab : ∀ x y, Same H (upd (upd H a x) b y) := fun x y q o e => by
    rw [upd_ne (ne_of_none e hb0), upd_ne (ne_of_none e ha)]
    exact e
  refine ⟨_, rfl, (n : Int), rfl, by omega, by omega, for_range (lo := 0) (n := ((n : Int)).toNat) (fun i σ H2 => ∃ v, σ = [some (.ref t), some (vn n), some (.ref a), some (.ref b), v] ∧ H2 = upd (upd H a (.lst (fV (tak tk) i))) b (.lst (fV (cal tk cl) i)))
    ⟨_, rfl, rfl⟩ ?_ ?_⟩
  · rintro i σ H2 hi ⟨v, rfl, rfl⟩
    have hi2 : i < n := by simpa using hi
    have P2 : ∀ x y, PartsW (upd (upd H a x) b y) t m tp tk cp cl lt := fun x y => hP.same (Sab x y)
    generalize hX : HO.lst (fV (tak tk) i) = X
    have hA : ∀ y, upd (upd H a X) b y a = some X := fun y => by rw [upd_ne nab]; exact upd_same
    have La : ∀ y, SqL K (upd (upd H a X) b y) a (fV (tak tk) i) := fun y => SqL.of (by rw [hA, hX])
    have St := fun x y => SqT.of (K := K) (P2 x y).at_
    have last1 : atI (fV (tak tk) i) (-(1 : Int)) = some (vn (tak tk i)) := at_last fV_len (fV_at (Nat.le_refl i))
    -- taken.append(taken[-1] + takes[tick % n])
    refine ⟨_, rfl, .inl ⟨rfl, _, La _⟩, _, rfl, 1, rfl, a, _, _, _, rfl, rfl, La _, last1, _, rfl, t, _, 1, _, rfl, rfl, St _ _, at3 (j := 1) rfl, _, rfl, _, rfl, t, _, 1, _, rfl, rfl, St _ _, at3 (j := 1) rfl, tp, _, rfl, .inr (SqT.of (P2 _ _).tkA), _, _, rfl, rfl,
      (by show (0 : Int) < ((tk.map vn).length : Int); rw [List.length_map]; omega), tp, _, _, _, rfl, rfl, SqT.of (P2 _ _).tkA, pat_at n0 (Int.zero_add _), _, _, rfl, rfl, ?_⟩
    refine ⟨a, _, _, rfl, rfl, by rw [hA, hX], small10k (by rw [fV_len]; omega), ?_⟩
    have e1 : fV (tak tk) i ++ [V.int ((tak tk i : Int) + (atp tk i : Int))] = fV (tak tk) (i + 1) := by
      rw [fV_succ]
      rfl
    rw [e1]
    have sw : upd (upd (upd H a X) b (.lst (fV (cal tk cl) i))) a (.lst (fV (tak tk) (i + 1))) = upd (upd H a (.lst (fV (tak tk) (i + 1)))) b (.lst (fV (cal tk cl) i)) := by
      funext q
      unfold upd
      by_cases h1 : q = a
      · rw [if_pos h1, if_neg (by rw [h1]; exact nab), if_pos h1]
      · rw [if_neg h1, if_neg h1]
        by_cases h2 : q = b
        · rw [if_pos h2, if_pos h2]
        · rw [if_neg h2, if_neg h2, if_neg h1]
    rw [sw]
    have La2 : SqL K (upd (upd H a (.lst (fV (tak tk) (i + 1)))) b (.lst (fV (cal tk cl) i))) a (fV (tak tk) (i + 1)) := SqL.of (by rw [upd_ne nab]; exact upd_same)
    have Lb2 : SqL K (upd (upd H a (.lst (fV (tak tk) (i + 1)))) b (.lst (fV (cal tk cl) i))) b (fV (cal tk cl) i) := SqL.of upd_same
    have last2 : atI (fV (tak tk) (i + 1)) (-(1 : Int)) = some (vn (tak tk (i + 1))) := at_last fV_len (fV_at (Nat.le_refl (i + 1)))
    have last3 : atI (fV (cal tk cl) i) (-(1 : Int)) = some (vn (cal tk cl i)) := at_last fV_len (fV_at (Nat.le_refl i))
    -- called.append(min(taken[-1], called[-1] + calls[tick % n]))
    refine ⟨_, rfl, .inl ⟨rfl, _, Lb2⟩, _, rfl, 1, rfl, a, _, _, _, rfl, rfl, La2, last2, _, rfl, 1, rfl, b, _, _, _, rfl, rfl, Lb2, last3, _, rfl, t, _, 2, _, rfl, rfl, St _ _, at3 (j := 2) rfl, _, rfl, _, rfl, t, _, 2, _, rfl, rfl, St _ _, at3 (j := 2) rfl, cp, _, rfl, .inr (SqT.of (P2 _ _).clA), _, _, rfl, rfl,
      (by show (0 : Int) < ((cl.map vn).length : Int); rw [List.length_map]; omega), cp, _, _, _, rfl, rfl, SqT.of (P2 _ _).clA, pat_at c0 (Int.zero_add _), _, _, rfl, rfl, _, _, rfl, ?_⟩
    refine ⟨b, _, _, rfl, rfl, upd_same, small10k (by rw [fV_len]; omega), _, rfl, ?_⟩
    rw [upd_upd, fV_succ (f := cal tk cl)]
    have e2 : V.int (if ((cal tk cl i : Int) + (atp cl i : Int)) < (tak tk (i + 1) : Int) then ((cal tk cl i : Int) + (atp cl i : Int)) else (tak tk (i + 1) : Int)) = vn (cal tk cl (i + 1)) := by
      refine vn_int ?_
      have : cal tk cl (i + 1) = min (tak tk (i + 1)) (cal tk cl i + atp cl i) := rfl
      rw [this]
      split <;> omega
    rw [← e2]
  · rintro σ H2 ⟨v, rfl, rfl⟩
    have en : ((n : Int)).toNat = n := by simp
    rw [en]
    refine ⟨_, rfl, _, rfl, (by show 2 ≤ sizeLine; decide), fun r hr' => ?_⟩
    have nra : r ≠ a := fun e => by rw [e, upd_ne nab, upd_same] at hr'; cases hr'
    have nrb : r ≠ b := fun e => by rw [e, upd_same] at hr'; cases hr'
    have hr0 : H r = none := by rw [upd_ne nrb, upd_ne nra] at hr'; exact hr'
    refine k r a b _ hr0 ha hb0 nab ((Sab _ _).trans (Same.new hr')) upd_same (by rw [upd_ne nra.symm, upd_ne nab]; exact upd_same) (by rw [upd_ne nrb.symm]; exact upd_same)
theorem okw__law_opens (T : Txt K mg) : OkF P w K mg base 2 (He.ga K "_law_opens") ["_law_parts", "_law_ticks"] spOpensW := by
  have G__law_counts : OkF P w K mg base 1 (He.ga K "_law_counts") ["_law_parts", "_law_ticks"] spCountsW := okw__law_counts T
  refine FnP.okF T.f__law_opens sc__law_opens (fun _ _ _ _ _ _ us hl => match us, hl with | [_, _], _ => rfl) (fun vs H Q E h => ?_) (fun cdv A outer s H vs Q E hr h => ?_)
  · obtain ⟨t, _, _, _, _, _, _, _, rfl, _⟩ := h
    rfl
  obtain ⟨t, tp, cp, m, lt, tk, cl, n, rfl, hP, hn, k⟩ := h
  refine ⟨_, (pss_cons (ps_asg (pe_call G__law_counts.one (hr.mono (by decide)) (by rfl) T.g__law_counts G__law_counts.kp G__law_counts.two .nil passL (pa_cons (pv 0) (pa_cons (pv 1) pa_nil))) (pg_tup rfl (pgs_cons (pg_name (i := 2) sc__law_opens.nd rfl (Or.inr rfl)) (pgs_cons (pg_name (i := 3) sc__law_opens.nd rfl (Or.inr rfl)) pgs_nil))))
    (pss_one (ps_ret (pe_lc (own := [("_law_tick", 4)]) (g := gName 4) (tt := tYes) (by rfl) sc__law_opens.nd (pi_range1 (by rfl) T.g_range (pa_cons (pv 1) pa_nil)) (blkOk_by (own := [("_law_tick", 4)]) (N := N__law_opens) (sc := (defScope s__law_opens)) (by decide +kernel)) (fun _ _ _ _ _ => pg_name (i := 4) sc__law_opens.nd rfl (Or.inl rfl)) (fun _ _ _ _ _ => pts_nil) (fun _ _ _ _ _ => (pe_tup (pa_cons (pe_ix (ixLK (K := K)) (pv 3) (pe_callB (show CallR _ (.builtin "max") Rd.rMax2 from call_max2 (by rfl)) (by rfl) T.g_max (by decide +kernel) (pa_cons pe_int (pa_cons (pe_op op_sub (pv 4) (pe_ix (ixTK (K := K)) (pv 0) pe_int (fun _ _ => rfl))) pa_nil))) (fun _ _ => rfl)) (pa_cons (pe_ix (ixLK (K := K)) (pv 2) (pe_op op_add (pv 4) pe_int) (fun _ _ => rfl)) pa_nil)))))))), ?_⟩
  walk_at "rd"
  rename_i rr a1 b1 H5 _ na nb nab S5 h5 h5a h5b
  have hP5 := hP.same S5
  refine Rd.lc_rngR (OpR_ tk cl lt) (by omega) (fun _ => rfl) (fun i hi H' D hD S hDn Q' q => ?_) fun D ys H6 nD S6 h6 hl hR => ?_
  · have hP6 := hP5.same S
    have e0 : V.int ((0 : Int) + (i : Int)) = vn i := vn_int (by omega)
    rw [e0]
    walk_at "rd"
    refine Rd.ixL (SqL.of (S _ _ h5b)) (i := max 0 ((i : Int) - (lt : Int))) (v := vn (cal tk cl (i - lt))) (by rw [show max 0 ((i : Int) - (lt : Int)) = ((i - lt : Nat) : Int) by omega]; exact atn (fV_at (by omega))) ?_
    walk_at "rd"
    rename_i r H7 nr S7 hr7
    refine q _ _ S7 fun Hx hb => ⟨r, rfl, hb r _ (fun e => hDn (by rw [← e]; exact nr)) hr7⟩
  · exact k D ys H6 (Same.fr S5 nD) (S5.trans S6) h6 hl hR
theorem okw__law_most (T : Txt K mg) : OkF P w K mg base 3 (He.ga K "_law_most") ["_law_parts"] spMostW := by
  have G__law_length : OkF P w K mg base 1 (He.ga K "_law_length") ["_law_parts"] spLengthW := okw__law_length T
  have G__law_opens : OkF P w K mg base 2 (He.ga K "_law_opens") ["_law_parts", "_law_ticks"] spOpensW := okw__law_opens T
  refine FnP.okF T.f__law_most sc__law_most (fun _ _ _ _ _ _ us hl => match us, hl with | [_], _ => rfl) (fun vs H Q E h => ?_) (fun cdv A outer s H vs Q E hr h => ?_)
  · obtain ⟨t, _, _, _, _, _, _, rfl, _⟩ := h
    rfl
  obtain ⟨t, tp, cp, m, lt, tk, cl, rfl, hP, k⟩ := h
  refine ⟨_, (pss_cons (ps_set (i := 1) sc__law_most.nd rfl (Or.inl rfl) (pe_call G__law_length.one (hr.mono (by decide)) (by rfl) T.g__law_length G__law_length.kp G__law_length.two .nil passL (pa_cons (pv 0) pa_nil)))
    (pss_cons (ps_if (pt_cmpR op_gt (pe_op op_mul (pe_callB (sumTK (K := K)) (by rfl) T.g_sum (by decide +kernel) (pa_cons (pe_ix (ixTK (K := K)) (pv 0) pe_int (fun _ _ => rfl)) pa_nil)) (pe_callB (lenK (K := K)) (by rfl) T.g_len (by decide +kernel) (pa_cons (pe_ix (ixTK (K := K)) (pv 0) pe_int (fun _ _ => rfl)) pa_nil))) (pe_op op_mul (pe_callB (sumTK (K := K)) (by rfl) T.g_sum (by decide +kernel) (pa_cons (pe_ix (ixTK (K := K)) (pv 0) pe_int (fun _ _ => rfl)) pa_nil)) (pe_callB (lenK (K := K)) (by rfl) T.g_len (by decide +kernel) (pa_cons (pe_ix (ixTK (K := K)) (pv 0) pe_int (fun _ _ => rfl)) pa_nil))) (nomark _)) (pss_one (ps_ret pe_non)) pss_nil)
    (pss_one (ps_ret (pe_callB (maxLK (K := K)) (by rfl) T.g_max (by decide +kernel) (pa_cons (pe_lc (own := [("_law_first", 2), ("_law_end", 3)]) (g := gTup K 2 (gCons (gName 2) (gCons (gName 3) gNil))) (tt := tYes) (by rfl) sc__law_most.nd (pi_listK (K := K) (pe_call G__law_opens.one (hr.mono (by decide)) (by rfl) T.g__law_opens G__law_opens.kp G__law_opens.two .nil passL (pa_cons (pv 0) (pa_cons (pe_op op_add (pe_op op_add (pe_op op_mul pe_int (pv 1)) (pe_ix (ixTK (K := K)) (pv 0) pe_int (fun _ _ => rfl))) pe_int) pa_nil)))) (blkOk_by (own := [("_law_first", 2), ("_law_end", 3)]) (N := N__law_most) (sc := (defScope s__law_most)) (by decide +kernel)) (fun _ _ _ _ _ => pg_tup rfl (pgs_cons (pg_name (i := 2) sc__law_most.nd rfl (Or.inl rfl) (by first | exact Or.inr rfl | exact Or.inl rfl)) (pgs_cons (pg_name (i := 3) sc__law_most.nd rfl (Or.inl rfl) (by first | exact Or.inr rfl | exact Or.inl rfl)) pgs_nil))) (fun _ _ _ _ _ => pts_nil) (fun _ _ _ _ _ => (pe_op op_sub (pv 3) (pv 2)))) pa_nil)))))), ?_⟩
  have n0 := hP.ok.tkP.pos
  have c0 := hP.ok.clP.pos
  have p144 := per_144w hP.ok.tkP hP.ok.clP
  have p0 := per_pos n0 c0
  have lt99 := hP.ok.l99
  walk_at "rd"
  refine ⟨tp, _, rfl, (by rw [map_vn]; exact SqT.of hP.tkA), ?_⟩
  walk_at "rd"
  refine Rd.i1 (.inr ⟨by simp; omega, by have := hP.ok.clP.len; simp; omega⟩) ?_
  walk_at "rd"
  refine ⟨cp, _, rfl, (by rw [map_vn]; exact SqT.of hP.clA), ?_⟩
  walk_at "rd"
  refine Rd.i1 (.inr ⟨by simp; omega, by have := hP.ok.tkP.len; simp; omega⟩) ?_
  walk_at "rd"
  rw [sum_cast, sum_cast, List.length_map, List.length_map]
  have key := cmp_sums n0 c0
  have gi := grow_iff (tk := tk) (cl := cl) p0 per_tk per_cl
  have gz := grow0 (tk := tk) (cl := cl)
  refine Rd.d2 (fun c => ?_) fun c => ?_
  · rw [← Int.natCast_mul, ← Int.natCast_mul] at c
    exact k _ _ (Same.refl _) (.inl ⟨by omega, rfl⟩)
  rw [← Int.natCast_mul, ← Int.natCast_mul] at c
  have g0 : grow tk cl = 0 := by omega
  walk_at "rd"
  refine ⟨t, tp, cp, m, lt, tk, cl, 2 * per tk cl + lt + 1, ?_, hP, by omega, fun l ys H1 nl S1 hl hlen hR => ?_⟩
  · have e : V.int ((2 : Int) * ((per tk cl : Nat) : Int) + (lt : Int) + 1) = vn (2 * per tk cl + lt + 1) := vn_int (by omega)
    rw [← e]
  walk_at "rd"
  refine Rd.lc_lst (fun i => vn (opn tk cl lt i)) (SqL.of hl) (by omega) (fun i y hy => ?_) fun D H2 nD S2 h2 => ?_
  · obtain ⟨r, rfl, hr⟩ := hR i y hy
    refine Rd.turn_tup2 rfl (SqT.of hr) fun H' S Q' q => ?_
    walk_at "rd"
    rw [← opn_int] at q
    exact q _ (Same.refl _)
  · rw [hlen] at h2
    walk_at "rd"
    refine ⟨D, (List.range (2 * per tk cl + lt + 1)).map fun i => ((opn tk cl lt i : Nat) : Int), rfl, SqL.of (by rw [List.map_map]; exact h2), by simp, fun z hz hall => ?_⟩
    obtain ⟨i, hi, rfl⟩ := List.mem_map.mp hz
    refine k _ _ (S1.trans S2) (.inr ⟨g0, _, rfl, opn_window p0 per_tk per_cl (gz.mp g0) (N := 2 * per tk cl + lt + 1) (by omega) (fun j hj => ?_) ⟨_, rfl⟩⟩)
    have := hall _ (List.mem_map.mpr ⟨j, List.mem_range.mpr hj, rfl⟩)
    omega
end
end Tk

end

section
local macro_rules | `(tactic| walk_at "hp") => `(tactic| first
  | assumption
  | with_reducible exact L2.upd_same
  | ((with_reducible refine' Tk.Same.get ?k0 ?k1); (case k0 => assumption); (case k1 => walk_at "hp"))
  | fail "hp")
local macro_rules | `(tactic| walk_at "same") => `(tactic| first
  | assumption
  | exact L2.Same.refl _
  | ((with_reducible refine' Tk.Same.nw ?k0 ?k1); (case k0 => assumption); (case k1 => walk_at "same"))
  | ((with_reducible refine' Tk.Same.tr ?k0 ?k1); (case k0 => assumption); (case k1 => walk_at "same")))
local macro_rules | `(tactic| walk_at "sql") => `(tactic| first
  | assumption
  | ((with_reducible refine' L2.SqL.of ?k0); (case k0 => walk_at "hp"))
  | ((with_reducible refine' L2.Same.seq ?k0 ?k1); (case k0 => assumption); (case k1 => walk_at "sql")))
local macro_rules | `(tactic| walk_at "sqt") => `(tactic| first
  | assumption
  | ((with_reducible refine' L2.SqT.of ?k0); (case k0 => walk_at "hp"))
  | ((with_reducible refine' Tk.sqt_sm ?k0 ?k1); (case k0 => assumption); (case k1 => walk_at "sqt")))
local macro_rules | `(tactic| walk_at "sz") => `(tactic| first
  | (show (_ : Nat) ≤ 1000; decide)
  | (simp; done)
  | (simp; omega))
local macro_rules | `(tactic| walk_at "szb") => `(tactic| first
  | assumption
  | (show (_ : Nat) ≤ 100000; decide)
  | (simp; done)
  | (simp; omega))
local macro_rules | `(tactic| walk_at "dp") => `(tactic| first
  | assumption
  | with_reducible exact L2.Dp.non
  | with_reducible exact L2.Dp.int _
  | with_reducible exact L2.Dp.str _
  | with_reducible exact L2.Dp.bl _
  | ((with_reducible refine' L2.Dp.lst ?k0 ?k1); (case k0 => walk_at "sql"); (case k1 => walk_at "dpa"))
  | ((with_reducible refine' L2.Dp.tup ?k0 ?k1); (case k0 => walk_at "sqt"); (case k1 => walk_at "dpa"))
  | ((with_reducible refine' Tk.dp_sm ?k0 ?k1); (case k0 => assumption); (case k1 => walk_at "dp"))
  | fail "dp")
local macro_rules | `(tactic| walk_at "dpa") => `(tactic| first
  | assumption
  | with_reducible exact L2.DpAll.nil
  | ((with_reducible refine' L2.DpAll.cons ?k0 ?k1); (case k0 => walk_at "dp"); (case k1 => walk_at "dpa"))
  | with_reducible exact Tk.dp_nats _
  | ((with_reducible refine' Tk.dpA_sm ?k0 ?k1); (case k0 => assumption); (case k1 => walk_at "dpa"))
  | fail "dpa")
local macro_rules | `(tactic| walk_at "ci") => `(tactic| first
  | exact .inl ⟨by decide, by decide⟩
  | exact .inr ⟨by decide, by decide⟩
  | exact .inl ⟨by omega, by omega⟩
  | exact .inr ⟨by omega, by omega⟩
  | exact ⟨by decide, by decide⟩
  | exact ⟨by omega, by omega⟩
  | (show (0 : Int) < _; decide)
  | (show (0 : Int) < _; omega))
local macro_rules | `(tactic| walk_at "rd1") => `(tactic| first
  | with_reducible refine Tk.Rd.seq ?_
  | with_reducible refine Tk.Rd.star ?_
  | with_reducible refine Tk.Rd.int1_i ?_
  | with_reducible refine Tk.Rd.int1_b ?_
  | with_reducible refine Tk.Rd.tlc2 ?_
  | with_reducible refine Tk.Rd.lrg3 ?_
  | with_reducible refine Tk.Rd.lrg ?_
  | with_reducible refine Tk.Rd.rg1 ?_
  | with_reducible refine Tk.Rd.rg1K_i ?_
  | with_reducible refine Tk.Rd.rg2 ?_
  | with_reducible refine Tk.Rd.rg2K_i ?_
  | ((with_reducible refine' Tk.Rd.catL ?k0 ?k1 ?k2 fun p H' np S hp => ?_); (case k0 => walk_at "hp"); (case k1 => walk_at "hp"); (case k2 => walk_at "szb"))
  | ((with_reducible refine' Tk.Rd.starK_t ?k0 ?_); (case k0 => walk_at "sqt"))
  | ((with_reducible refine' Tk.Rd.starK_l ?k0 ?_); (case k0 => walk_at "sql"))
  | ((with_reducible refine' Tk.Rd.var ?k0 ?_); (case k0 => exact rfl))
  | with_reducible refine Tk.Rd.c ?_
  | with_reducible refine Tk.Rd.op ?_
  | with_reducible refine Tk.Rd.i0 ?_
  | with_reducible refine Tk.Rd.asg ?_
  | with_reducible refine Tk.Rd.name ?_
  | with_reducible refine Tk.Rd.cons ?_
  | with_reducible refine Tk.Rd.nil ?_
  | with_reducible refine Tk.Rd.call ?_
  | with_reducible refine Tk.Rd.callK_i ?_
  | with_reducible refine Tk.Rd.tst ?_
  | with_reducible refine Tk.Rd.bv ?_
  | with_reducible refine Tk.Rd.toB_i ?_
  | with_reducible refine Tk.Rd.ift ?_
  | with_reducible refine Tk.Rd.iff ?_
  | with_reducible refine Tk.Rd.ifnt ?_
  | with_reducible refine Tk.Rd.ifnf ?_
  | with_reducible refine Tk.Rd.not ?_
  | with_reducible refine Tk.Rd.and ?_
  | with_reducible refine Tk.Rd.or ?_
  | with_reducible refine Tk.Rd.andV ?_
  | with_reducible refine Tk.Rd.andK_i ?_
  | with_reducible refine Tk.Rd.orV ?_
  | with_reducible refine Tk.Rd.orK_i ?_
  | with_reducible refine Tk.Rd.notV ?_
  | with_reducible refine Tk.Rd.notK_i ?_
  | with_reducible refine Tk.Rd.tif ?_
  | with_reducible refine Tk.Rd.yes ?_
  | with_reducible refine Tk.Rd.tfor ?_
  | with_reducible refine Tk.Rd.tlc ?_
  | with_reducible refine Tk.Rd.rng ?_
  | ((with_reducible refine' Tk.Rd.rngK_n ?k0 ?_); (case k0 => first | decide | omega))
  | ((with_reducible refine' Tk.Rd.rngK_lit ?k0 ?_); (case k0 => decide))
  | with_reducible refine Tk.Rd.rng2 ?_
  | with_reducible refine Tk.Rd.rng3 ?_
  | with_reducible refine Tk.Rd.ilist ?_
  | with_reducible refine Tk.Rd.zip ?_
  | with_reducible refine Tk.Rd.itup ?_
  | ((with_reducible refine' Tk.Rd.listK_i ?k0 ?_); (case k0 => walk_at "sql"))
  | ((with_reducible refine' Tk.Rd.ituK_i ?k0 ?_); (case k0 => walk_at "sqt"))
  | with_reducible refine Tk.Rd.chain ?_
  | with_reducible refine Tk.Rd.chainL_i ?_
  | with_reducible refine Tk.Rd.un ?_
  | with_reducible refine Tk.Rd.u1 ?_
  | ((with_reducible refine' Tk.Rd.i1 ?k0 ?_); (case k0 => walk_at "ci"))
  | ((with_reducible refine' Tk.Rd.eq ?k0 ?_); (case k0 => exact rfl))
  | ((with_reducible refine' Tk.Rd.ne ?k0 ?_); (case k0 => exact rfl))
  | with_reducible refine Tk.Rd.isN ?_
  | with_reducible refine Tk.Rd.notN ?_
  | with_reducible refine Tk.Rd.fld ?_
  | with_reducible refine Tk.Rd.meth ?_
  | with_reducible refine Tk.Rd.prop ?_
  | with_reducible refine Tk.Rd.cb ?_
  | with_reducible refine Tk.Rd.bm ?_
  | with_reducible refine Tk.Rd.m0 ?_
  | with_reducible refine Tk.Rd.m0K_i ?_
  | with_reducible refine Tk.Rd.m1 ?_
  | with_reducible refine Tk.Rd.m1K_i ?_
  | with_reducible refine Tk.Rd.tup ?_
  | ((with_reducible refine' Tk.Rd.tupK_i ?k0 fun p H' np S hp => ?_); (case k0 => walk_at "sz"))
  | with_reducible refine Tk.Rd.lst ?_
  | ((with_reducible refine' Tk.Rd.lstK_i ?k0 fun p H' np S hp => ?_); (case k0 => walk_at "sz"))
  | ((with_reducible refine' Tk.Rd.ixF ?k0 ?k1 ?_); (case k0 => walk_at "hp"); (case k1 => omega))
  | ((with_reducible refine' Tk.Rd.ixF1 ?k0 ?k1 ?_); (case k0 => walk_at "hp"); (case k1 => omega))
  | ((with_reducible refine' Tk.Rd.ixT ?k0 ?k1 ?_); (case k0 => walk_at "sqt"); (case k1 => exact rfl))
  | ((with_reducible refine' Tk.Rd.ixL ?k0 ?k1 ?_); (case k0 => walk_at "sql"); (case k1 => exact rfl))
  | ((with_reducible refine' Tk.Rd.lenL ?k0 ?_); (case k0 => walk_at "sql"))
  | ((with_reducible refine' Tk.Rd.lenT ?k0 ?_); (case k0 => walk_at "sqt"))
  | ((with_reducible refine' Tk.Rd.lenS ?k0 ?_); (case k0 => first | assumption | omega | (simp; omega)))
  | ((with_reducible refine' Tk.Rd.slTr ?k0 fun p H' S hp => ?_); (case k0 => walk_at "hp"))
  | ((with_reducible refine' Tk.Rd.slT ?k0 fun p H' S hq => ?_); (case k0 => walk_at "sqt"))
  | ((with_reducible refine' Tk.Rd.catTr ?k0 ?k1 ?k2 fun p H' S hp => ?_); (case k0 => walk_at "hp"); (case k1 => walk_at "hp"); (case k2 => walk_at "sz"))
  | ((with_reducible refine' Tk.Rd.catA ?k0 ?k1 ?k2 ?k3 ?k4 fun p H' np S hp => ?_); (case k0 => walk_at "sqt"); (case k1 => walk_at "sqt"); (case k2 => simp); (case k3 => simp); (case k4 => first | (simp; done) | (simp; omega)))
  | with_reducible refine Tk.Rd.make ?_
  | ((with_reducible refine' Tk.Rd.tplL ?k0 fun q H' nq S hq => ?_); (case k0 => walk_at "sql"))
  | ((with_reducible refine' Tk.Rd.lstL ?k0 fun q H' nq S hq => ?_); (case k0 => walk_at "sql"))
  | ((with_reducible refine' Tk.Rd.lstT ?k0 fun q H' nq S hq => ?_); (case k0 => walk_at "sqt"))
  | ((with_reducible refine' Tk.Rd.join ?k0 ?k1 ?_); (case k0 => walk_at "sql"); (case k1 => first | assumption | omega))
  | with_reducible refine Tk.Rd.mx ?_
  | with_reducible refine Tk.Rd.mn ?_
  | with_reducible refine Tk.Rd.noPart ?_
  | with_reducible refine Tk.Rd.part ?_
  | with_reducible refine Tk.Rd.partK_i ?_
  | with_reducible refine Tk.Rd.slc ?_
  | ((with_reducible refine' Tk.Rd.gtup ?k0 ?k1 ?_); (case k0 => walk_at "sqt"); (case k1 => exact rfl))
  | ((with_reducible refine' Tk.Rd.glst ?k0 ?k1 ?_); (case k0 => walk_at "sql"); (case k1 => exact rfl))
  | with_reducible refine Tk.Rd.gcons ?_
  | with_reducible refine Tk.Rd.gnil ?_
  | with_reducible refine Tk.Rd.next ?_
  | with_reducible refine Tk.Rd.drop ?_
  | with_reducible refine Tk.Rd.ret ?_
  | with_reducible refine Tk.Rd.retN ?_
  | with_reducible refine Tk.Rd.par ?_
  | with_reducible refine Tk.Rd.parK_i ?_
  | with_reducible refine Tk.Rd.par3 ?_
  | with_reducible refine Tk.Rd.par3K_i ?_
  | ((with_reducible refine' Tk.Rd.aug ?k0 ?_); (case k0 => exact rfl))
  | with_reducible refine Tk.Rd.ip ?_
  | ((with_reducible refine' Tk.Rd.bmK_l ?k0 ?_); (case k0 => walk_at "sql"))
  | ((with_reducible refine' Tk.Rd.addS ?k0 ?_); (case k0 => walk_at "sz"))
  | fail "rd1")
local macro_rules | `(tactic| walk_at "rd1i") => `(tactic| first
  | walk_at "rd1"
  | with_reducible refine Tk.Rd.ifS ?_
  | fail "rd1i")
local macro_rules | `(tactic| walk_at "rd") => `(tactic| (repeat' walk_at "rd1i"))
local macro_rules | `(tactic| walk_at "rs") => `(tactic| ((repeat' walk_at "rd1"); (try dsimp only)))
local macro_rules | `(tactic| walk_at "hall") => `(tactic| first
  | assumption
  | ((with_reducible refine' Tk.HallAt.sm ?k0 ?k1); (case k0 => assumption); (case k1 => walk_at "hall"))
  | fail "hall")
local macro_rules | `(tactic| walk_at "parts") => `(tactic| first
  | assumption
  | ((with_reducible refine' Tk.PartsAt.sm ?k0 ?k1); (case k0 => assumption); (case k1 => walk_at "parts"))
  | fail "parts")
local macro_rules | `(tactic| walk_at "sm") => `(tactic| first
  | assumption
  | exact Tk.Sm.int rfl
  | exact Tk.Sm.flat1 rfl
  | ((with_reducible refine' Tk.Sm.sm ?k0 ?k1); (case k0 => assumption); (case k1 => walk_at "sm"))
  | fail "sm")
local macro_rules | `(tactic| walk_at "rd1") => `(tactic| first
  | ((with_reducible refine' Tk.Rd.f_modulus ?k0 ?k1 ?_); (case k0 => assumption); (case k1 => walk_at "hall"))
  | ((with_reducible refine' Tk.Rd.f_lateness ?k0 ?k1 ?_); (case k0 => assumption); (case k1 => walk_at "hall"))
  | ((with_reducible refine' Tk.Rd.f_takes ?k0 ?k1 fun tp htp => ?_); (case k0 => assumption); (case k1 => walk_at "hall"))
  | ((with_reducible refine' Tk.Rd.f_calls ?k0 ?k1 fun cp hcp => ?_); (case k0 => assumption); (case k1 => walk_at "hall"))
  | ((with_reducible refine' Tk.Rd.h_meth ?k0 ?k1 ?_); (case k0 => walk_at "hall"); (case k1 => decide +kernel))
  | ((with_reducible refine' Tk.Rd.h_prop ?k0 ?_); (case k0 => walk_at "hall"))
  | ((with_reducible refine' Tk.Rd.h_taken0 ?k0 fun H' S => ?_); (case k0 => walk_at "hall"))
  | ((with_reducible refine' Tk.Rd.h_taken1 ?k0 fun H' S => ?_); (case k0 => walk_at "hall"))
  | ((with_reducible refine' Tk.Rd.h_takenL ?k0 fun H' S => ?_); (case k0 => walk_at "hall"))
  | ((with_reducible refine' Tk.Rd.h_called0 ?k0 ?_); (case k0 => walk_at "hall"))
  | ((with_reducible refine' Tk.Rd.h_called1 ?k0 ?_); (case k0 => walk_at "hall"))
  | ((with_reducible refine' Tk.Rd.h_calledL ?k0 ?_); (case k0 => walk_at "hall"))
  | ((with_reducible refine' Tk.Rd.h_waiting ?k0 ?k1 fun H' S => ?_); (case k0 => walk_at "hall"); (case k1 => omega))
  | ((with_reducible refine' Tk.Rd.h_growth ?k0 fun H' S => ?_); (case k0 => walk_at "hall"))
  | ((with_reducible refine' Tk.Rd.h_period ?k0 ?_); (case k0 => walk_at "hall"))
  | ((with_reducible refine' Tk.Rd.h_lhall ?k0 fun h lp H' nh nl S hA => ?_); (case k0 => walk_at "parts"))
  | ((with_reducible refine' Tk.Rd.h_length ?k0 ?_); (case k0 => walk_at "parts"))
  | ((with_reducible refine' Tk.Rd.h_counts ?k0 ?k1 fun r a b H' nr na nb nab S hr ha hb => ?_); (case k0 => walk_at "parts"); (case k1 => omega))
  | ((with_reducible refine' Tk.Rd.h_countsL ?k0 ?k1 fun r a b H' nr na nb nab S hr ha hb => ?_); (case k0 => walk_at "parts"); (case k1 => decide))
  | ((with_reducible refine' Tk.Rd.h_make ?k0 ?k1 ?k2 fun h lp H' nh nl S hA => ?_); (case k0 => assumption); (case k1 => walk_at "hp"); (case k2 => walk_at "hp"))
  | ((with_reducible refine' Tk.Rd.p_0 ?k0 ?_); (case k0 => walk_at "parts"))
  | ((with_reducible refine' Tk.Rd.p_1 ?k0 fun htp => ?_); (case k0 => walk_at "parts"))
  | ((with_reducible refine' Tk.Rd.p_2 ?k0 fun hcp => ?_); (case k0 => walk_at "parts"))
  | ((with_reducible refine' Tk.Rd.p_3 ?k0 ?_); (case k0 => walk_at "parts"))
  | fail "rd1")
local macro_rules | `(tactic| walk_at "sqt") => `(tactic| first | ((with_reducible refine' Tk.PartsAt.sq ?k0); (case k0 => walk_at "parts")) | fail "sqt")
local macro_rules | `(tactic| walk_at "free") => `(tactic| first
  | assumption
  | ((with_reducible refine' Tk.Same.fr ?k0 ?k1); (case k0 => assumption); (case k1 => walk_at "free")))
local macro_rules | `(tactic| walk_at "hp") => `(tactic| first
  | ((with_reducible refine' Tk.But.gt ?k0 ?k1 ?k2); (case k0 => assumption); (case k1 => assumption); (case k2 => walk_at "hp"))
  | ((with_reducible refine' Tk.But.gl ?k0 ?k1 ?k2); (case k0 => assumption); (case k1 => assumption); (case k2 => walk_at "hp"))
  | fail "hp")
local macro_rules | `(tactic| walk_at "hall") => `(tactic| first | ((with_reducible refine' Tk.HallAt.bt ?k0 ?k1 ?k2 ?k3); (case k0 => assumption); (case k1 => assumption); (case k2 => assumption); (case k3 => walk_at "hall")) | fail "hall")
local macro_rules | `(tactic| walk_at "parts") => `(tactic| first | ((with_reducible refine' Tk.PartsAt.bt ?k0 ?k1 ?k2); (case k0 => assumption); (case k1 => assumption); (case k2 => walk_at "parts")) | fail "parts")
local macro_rules | `(tactic| walk_at "rd1") => `(tactic| first
  | ((with_reducible refine' Tk.Rd.h_below ?k0 ?k1 ?k2 ?k3 fun r H' cs hr B hd hcs => ?_); (case k0 => walk_at "hp"); (case k1 => assumption); (case k2 => first | decide | omega); (case k3 => first | decide | omega))
  | ((with_reducible refine' Tk.Rd.h_parts ?k0 ?k1 ?k2 ?k3 fun t tp cp m lt tk cl H' cs nt B hd hcs hP l1 l2 => ?_); (case k0 => walk_at "hp"); (case k1 => assumption); (case k2 => first | decide | omega); (case k3 => first | decide | omega))
  | ((with_reducible refine' Tk.Rd.h_partsL ?k0 ?k1 ?k2 ?k3 fun t tp cp m lt tk cl H' cs nt B hd hcs hP l1 l2 => ?_); (case k0 => walk_at "hp"); (case k1 => assumption); (case k2 => first | decide | omega); (case k3 => first | decide | omega))
  | ((with_reducible refine' Tk.Rd.h_small ?k0 ?k1 fun t tp cp m lt tk cl H' cs nt B hd hcs hP m1 l1 l2 l3 => ?_); (case k0 => walk_at "hp"); (case k1 => assumption))
  | ((with_reducible refine' Tk.Rd.h_tick ?k0 ?k1 fun t H' cs ht B hd hcs => ?_); (case k0 => walk_at "hp"); (case k1 => assumption))
  | ((with_reducible refine' Tk.Rd.h_mo ?k0 fun v H' S hv => ?_); (case k0 => walk_at "hall"))
  | ((with_reducible refine' Tk.Rd.h_lc ?k0 fun v H' S hv => ?_); (case k0 => walk_at "hall"))
  | ((with_reducible refine' Tk.Rd.h_lm ?k0 fun v H' S hv => ?_); (case k0 => walk_at "hall"))
  | ((with_reducible refine' Tk.Rd.h_gl ?k0 fun v H' S hv => ?_); (case k0 => walk_at "hall"))
  | ((with_reducible refine' Tk.Rd.h_ot ?k0 ?k1 fun r H' nr S hr => ?_); (case k0 => walk_at "hall"); (case k1 => first | assumption | omega))
  | ((with_reducible refine' Tk.Rd.h_most2 ?k0 fun v H' S hv => ?_); (case k0 => walk_at "parts"))
  | ((with_reducible refine' Tk.Rd.h_opens2L ?k0 ?k1 fun l ys H' nl S hl hlen hR => ?_); (case k0 => walk_at "parts"); (case k1 => decide))
  | ((with_reducible refine' Tk.Rd.h_opens2 ?k0 ?k1 fun l ys H' nl S hl hlen hR => ?_); (case k0 => walk_at "parts"); (case k1 => first | decide | omega))
  | fail "rd1")
local macro_rules | `(tactic| walk_at "ok") => `(tactic| first
  | assumption
  | ((with_reducible refine' Tk.HallAt.ok ?k0); (case k0 => walk_at "hall"))
  | ((with_reducible refine' Tk.PartsAt.ok ?k0); (case k0 => walk_at "parts"))
  | fail "ok")
local macro_rules | `(tactic| walk_at "sml") => `(tactic| first
  | exact Tk.Sml.ints (by walk_at "szb")
  | exact Tk.Sml.intsT (by walk_at "szb")
  | trivial
  | (simp [Tk.Sml]; done)
  | (simp [Tk.Sml]; omega)
  | fail "sml")
local macro_rules | `(tactic| walk_at "rd1") => `(tactic| first
  | ((with_reducible refine' Tk.Rd.nT ?k0 ?_); (case k0 => with_reducible exact rfl))
  | ((with_reducible refine' Tk.Rd.dT ?k0 ?_); (case k0 => with_reducible exact rfl))
  | with_reducible refine Tk.Rd.nF Tk.Rd.int_non ?_
  | with_reducible refine Tk.Rd.nF Tk.Rd.ref_non ?_
  | with_reducible refine Tk.Rd.dF Tk.Rd.int_non ?_
  | with_reducible refine Tk.Rd.dF Tk.Rd.ref_non ?_
  | ((with_reducible refine' Tk.Rd.h_disp ?k0 ?k1 ?_); (case k0 => first | assumption | omega); (case k1 => walk_at "hall"))
  | ((with_reducible refine' Tk.Rd.h_hold ?k0 ?k1 ?k2 ?k3 fun l H' nl S hl => ?_); (case k0 => walk_at "hall"); (case k1 => first | assumption | omega); (case k2 => first | assumption | omega); (case k3 => first | assumption | omega))
  | ((with_reducible refine' Tk.Rd.h_mis ?k0 ?k1 ?k2 fun l ys H' nl S hl hd => ?_); (case k0 => walk_at "hall"); (case k1 => first | assumption | omega); (case k2 => first | assumption | omega))
  | ((with_reducible refine' Tk.Rd.h_enc ?k0 fun l H' nl S hl => ?_); (case k0 => walk_at "hall"))
  | ((with_reducible refine' Tk.Rd.h_dec ?k0 ?k1 fun h lp H' nh nl S hA => ?_); (case k0 => walk_at "hp"); (case k1 => walk_at "ok"))
  | ((with_reducible refine' Tk.Rd.h_text ?k0 fun H' S => ?_); (case k0 => walk_at "hall"))
  | ((with_reducible refine' Tk.Rd.h_eqd ?k0 ?k1 ?k2 fun H' S => ?_); (case k0 => walk_at "dp"); (case k1 => walk_at "dp"); (case k2 => walk_at "sml"))
  | ((with_reducible refine' Tk.Rd.eqd ?k0 ?k1 ?k2 ?k3 ?_); (case k0 => walk_at "dp"); (case k1 => walk_at "dp"); (case k2 => walk_at "sml"); (case k3 => walk_at "sml"))
  | ((with_reducible refine' Tk.Rd.ned ?k0 ?k1 ?k2 ?k3 ?_); (case k0 => walk_at "dp"); (case k1 => walk_at "dp"); (case k2 => walk_at "sml"); (case k3 => walk_at "sml"))
  | fail "rd1")
namespace Tk
open PySem PySem.Spec PyProof.Rows L2 Mm Pn
/-- what holds all along -/
structure E17 (H : Hp) (d : Addr) (cs : List V) (t : Addr) (m : Nat) (tp : Addr) (tk : List Nat) (cp : Addr) (cl : List Nat) (lt : Nat) : Prop where
  prt : PartsAt H t m tp tk cp cl lt
  src : H d = some (.lst cs)
/-- the layers -/
structure Lay (H : Hp) (L : Addr) (n : Nat) (Ls : List V) : Prop where
  it : ∀ k x, Ls[k]? = some x → ∃ q xs, x = V.ref q ∧ q ≠ L ∧ H q = some (.lst xs) ∧ PlA H xs (full n k)
section
variable {H H' : Hp} {d t tp cp L : Addr} {cs ys : List V} {m lt n : Nat} {tk cl : List Nat} {Ls : List V}
theorem E17.same (e : E17 H d cs t m tp tk cp cl lt) (S : Same H H') : E17 H' d cs t m tp tk cp cl lt := ⟨e.prt.same S, S _ _ e.src⟩
theorem E17.but (e : E17 H d cs t m tp tk cp cl lt) (B : But L H H') (hL : H L = some (.lst ys)) (n : d ≠ L) : E17 H' d cs t m tp tk cp cl lt := ⟨e.prt.but B hL, B _ _ n e.src⟩
theorem Lay.same (e : Lay H L n Ls) (S : Same H H') : Lay H' L n Ls := ⟨fun k x hx => by
  obtain ⟨q, xs, rfl, h1, h2, h3⟩ := e.it k x hx
  exact ⟨q, xs, rfl, h1, S _ _ h2, h3.same S⟩⟩
theorem Lay.but (e : Lay H L n Ls) (B : But L H H') (hL : H L = some (.lst ys)) : Lay H' L n Ls := ⟨fun k x hx => by
  obtain ⟨q, xs, rfl, h1, h2, h3⟩ := e.it k x hx
  exact ⟨q, xs, rfl, h1, B _ _ h1 h2, h3.but B hL⟩⟩
theorem Lay.snoc (e : Lay H L n Ls) {q : Addr} {xs : List V} (hq : q ≠ L) (h : H q = some (.lst xs)) (hx : PlA H xs (full n Ls.length)) : Lay H L n (Ls ++ [.ref q]) := ⟨fun k x hk => by
  rcases Nat.lt_or_ge k Ls.length with lt | ge
  · rw [List.getElem?_append_left lt] at hk
    exact e.it k x hk
  · have hk2 : k < (Ls ++ [V.ref q]).length := (List.getElem?_eq_some_iff.mp hk).1
    have : k = Ls.length := by simp at hk2; omega
    subst this
    rw [List.getElem?_append_right (Nat.le_refl _)] at hk
    simp at hk
    exact ⟨q, xs, hk.symm, hq, h, hx⟩⟩
end
theorem PlO.same {H H' : Hp} {v : V} : ∀ {o : Option (List Nat)}, PlO H v o → Same H H' → PlO H' v o
  | none, h, _ => h
  | some _, h, S => PlV.same h S
def dOp : Option (List Nat) → PyData
  | none => .none
  | some pl => .tuple (pl.map dN)
theorem PlO.dp {K : PySem.W.Frag} {H : Hp} {v : V} : ∀ {o : Option (List Nat)}, PlO H v o → L2.Dp K H v (dOp o)
  | none, h => by
    obtain rfl : v = .non := h
    exact .non
  | some _, h => PlV.dp h
/-- what the law goes by -/
noncomputable def pst (m : Nat) (tk cl : List Nat) (lt : Nat) (pl : List Nat) : Bool := fine cl pl && ncB m tk cl lt pl
noncomputable def stp (m : Nat) (tk cl : List Nat) (lt : Nat) (e : Option (List Nat)) (pl : List Nat) : Option (List Nat) := if pst m tk cl lt pl = true then some pl else e
noncomputable def lstp (m : Nat) (tk cl : List Nat) (lt : Nat) (e : Option (List Nat)) (l : List (List Nat)) : Option (List Nat) := l.reverse.foldl (stp m tk cl lt) e
def lays (n lim : Nat) : List (List (List Nat)) := (List.range (lim + 1)).map (full n)
theorem lays_at {n lim a : Nat} (h : a < lim + 1) : (lays n lim).reverse[a]? = some (full n (lim - a)) := by
  have e : (lays n lim).length = lim + 1 := by unfold lays; simp
  rw [List.getElem?_reverse (by omega), e]
  unfold lays
  rw [List.getElem?_map, show lim + 1 - 1 - a = lim - a by omega, List.getElem?_range (by omega)]
  rfl
theorem fold_succ {α β : Type} {f : β → α → β} {l : List α} {i : Nat} {x : α} {e : β} (h : l[i]? = some x) : (l.take (i + 1)).foldl f e = f ((l.take i).foldl f e) x := by
  rw [List.take_succ, h, List.foldl_append]
  rfl
theorem lays_all {m lt n lim : Nat} {tk cl : List Nat} : (lays n lim).reverse.foldl (lstp m tk cl lt) none = ((List.range (lim + 1)).flatMap (full n)).find? (pst m tk cl lt) := by
  have := back2 (pst m tk cl lt) (lays n lim) none
  rw [Option.or_none] at this
  rw [List.flatMap_def]
  exact this
theorem ext_len {n j b : Nat} (hn : n ≤ 3) (hj : j ≤ 4) : (((full n j).take b).flatMap (ext n)).length ≤ 729 := by
  have h : ∀ l : List (List Nat), (l.flatMap (ext n)).length ≤ 3 * l.length := fun l => by
    induction l with
    | nil => simp
    | cons a r ih =>
      rw [List.flatMap_cons, List.length_append, List.length_cons]
      have : (ext n a).length ≤ 3 := by unfold ext; rw [List.length_map, List.length_range]; omega
      omega
  have h1 := h ((full n j).take b)
  have h2 := full_len hn j
  have h3 : 3 ^ j ≤ 3 ^ 4 := Nat.pow_le_pow_right (by decide) hj
  rw [List.length_take] at h1
  omega
theorem lastP_lt {n k : Nat} {pl : List Nat} (h : pl ∈ full n k) : lastP pl ≤ n := by
  unfold lastP
  cases e : pl.getLast? with
  | none => exact Nat.zero_le _
  | some x => exact Nat.le_of_lt ((mem_len k pl h).2 x (List.mem_of_getLast? e))
theorem ext_succ {n k : Nat} : full n (k + 1) = (full n k).flatMap (ext n) := rfl
theorem flat_take {n k j : Nat} {pl : List Nat} (h : (full n k)[j]? = some pl) : ((full n k).take (j + 1)).flatMap (ext n) = ((full n k).take j).flatMap (ext n) ++ (List.range (n - lastP pl)).map fun i => pl ++ [lastP pl + i] := by
  rw [List.take_succ, h, List.flatMap_append]
  congr 1
  show List.flatMap (ext n) [pl] = _
  rw [List.flatMap_cons, List.flatMap_nil, List.append_nil]
  rfl
section
variable {P : Program} {w : World} {K : PySem.W.Frag} {mg : Str → Option Value} {base : Heap}
theorem ok_law (T : Txt K mg) {fd : FuncData} (F : FnP K "law" "law" s_law (He.ga K "law") fd) : FnOk P w K mg base CX0 11 (He.ga K "law") fd ["_law_script"] (spLaw K) := by
  have G__law_random : OkF P w K mg base 1 (He.ga K "_law_random") ["_law_script", "_law_salt"] (spRandom K) := ok__law_random T
  have G__law_below : OkF P w K mg base 1 (He.ga K "_law_below") ["_law_d", "_law_limit"] spBelow := ok__law_below T
  have G__law_small : OkF P w K mg base 3 (He.ga K "_law_small") ["_law_d"] spSmall := ok__law_small T
  have G__law_hall : OkF P w K mg base 7 (He.ga K "_law_hall") ["_law_parts"] (spLHall (He.ga K "Hall")) := ok__law_hall T
  have G__law_equal : OkF P w K mg base 5 (He.ga K "_law_equal") ["_law_actual", "_law_expected"] (spEqOf (Sm K 4)) := ok__law_equal T 4
  have G__law_most : OkF P w K mg base 3 (He.ga K "_law_most") ["_law_parts"] spMostW := okw__law_most T
  have G_plan_calls : OkF P w K mg base 10 (He.ga K "plan_calls") ["hall", "limit"] (spPc K (He.ga K "Hall")) := ok_plan_calls T
  refine okLaw F sc_law (fun vs H Q E h => ?_) (fun cdv A outer s H vs Q E hr h => ?_)
  · obtain ⟨a, ns, rfl, _⟩ := h
    rfl
  obtain ⟨a, ns, rfl, hS, hlen, k⟩ := h
  refine ⟨_, (pss_cons (ps_set (i := 1) sc_law.nd rfl (Or.inl rfl) (pe_call G__law_random.one (hr.mono (by decide)) (by rfl) T.g__law_random G__law_random.kp G__law_random.two .nil passL (pa_cons (pv 0) (pa_cons pe_int pa_nil))))
    (pss_cons (ps_for PassesOwn.never rfl (pi_range1 (by rfl) T.g_range (pa_cons pe_int pa_nil)) (pg_name (i := 2) sc_law.nd rfl (Or.inl rfl))
      (pss_cons (ps_set (i := 3) sc_law.nd rfl (Or.inr rfl) (pe_call G__law_small.one (hr.mono (by decide)) (by rfl) T.g__law_small G__law_small.kp G__law_small.two .nil passL (pa_cons (pv 1) pa_nil)))
    (pss_cons (ps_set (i := 4) sc_law.nd rfl (Or.inl rfl) (pe_call G__law_below.one (hr.mono (by decide)) (by rfl) T.g__law_below G__law_below.kp G__law_below.two .nil passL (pa_cons (pv 1) (pa_cons pe_int pa_nil))))
    (pss_cons (ps_set (i := 5) sc_law.nd rfl (Or.inl rfl) (pe_lst (pa_cons (pe_lst (pa_cons (Cn.pe_tupF pa_nil) pa_nil)) pa_nil)))
    (pss_cons (ps_for PassesOwn.never rfl (pi_range1 (by rfl) T.g_range (pa_cons (pv 4) pa_nil)) (pg_name (i := 6) sc_law.nd rfl (Or.inl rfl))
      (pss_cons (ps_set (i := 7) sc_law.nd rfl (Or.inl rfl) (pe_lst pa_nil))
    (pss_cons (ps_for PassesOwn.never rfl (pi_listK (K := K) (pe_ix (ixLK (K := K)) (pv 5) (pe_un un_neg pe_int) (fun _ _ => rfl))) (pg_name (i := 8) sc_law.nd rfl (Or.inr rfl))
      (pss_cons (ps_set (i := 9) sc_law.nd rfl (Or.inl rfl) (pe_ifExp (pt_cmpR (neDK (K := K) hr.units) (pv 8) (Cn.pe_tupF pa_nil) (nomark _)) (pe_ix (ixTK (K := K)) (pv 8) (pe_un un_neg pe_int) (fun _ _ => rfl)) pe_int))
    (pss_one (ps_set (i := 7) sc_law.nd rfl (Or.inl rfl) (pe_op op_cat (pv 7) (pe_lc (own := [("_law_place", 15)]) (g := gName 15) (tt := tYes) (by rfl) sc_law.nd (pi_range2 (by rfl) T.g_range (pa_cons (pv 9) (pa_cons (pe_callB (lenK (K := K)) (by rfl) T.g_len (by decide +kernel) (pa_cons (pe_ix (ixTK (K := K)) (pv 3) pe_int (fun _ _ => rfl)) pa_nil)) pa_nil))) (blkOk_by (own := [("_law_place", 15)]) (N := N_law) (sc := (defScope s_law)) (by decide +kernel)) (fun _ _ _ _ _ => pg_name (i := 15) sc_law.nd rfl (Or.inl rfl)) (fun _ _ _ _ _ => pts_nil) (fun _ _ _ _ _ => (pe_op (Cn.op_catF (K := K)) (pv 8) (Cn.pe_tupF (pa_cons (pv 15) pa_nil))))))))))
    (pss_one (ps_expr (pe_bm PySem.F.plainAttrs_list PySem.F.slot_list_append PySem.F.type_list_append mt_append (pv 5) (pa_cons (pv 7) pa_nil)))))))
    (pss_cons (ps_set (i := 10) sc_law.nd rfl (Or.inl rfl) pe_non)
    (pss_cons (ps_for PassesOwn.never rfl (pi_listK (K := K) (Cn.pe_rev (K := K) (pv 5) (po_some (pe_un un_neg pe_int)))) (pg_name (i := 11) sc_law.nd rfl (Or.inl rfl))
      (pss_one (ps_for PassesOwn.never rfl (pi_listK (K := K) (Cn.pe_rev (K := K) (pv 11) (po_some (pe_un un_neg pe_int)))) (pg_name (i := 8) sc_law.nd rfl (Or.inr rfl))
      (pss_cons (ps_setLc (i := 12) (own := [("_law_k", 14)]) (g := gName 14) (tt := tYes) (by rfl) sc_law.nd rfl rfl (sw_true rfl rfl rfl (by decide +kernel)) (pi_range1 (by rfl) T.g_range (pa_cons (pe_callB (lenK (K := K)) (by rfl) T.g_len (by decide +kernel) (pa_cons (pe_ix (ixTK (K := K)) (pv 3) pe_int (fun _ _ => rfl)) pa_nil)) pa_nil)) (blkOk_by (own := [("_law_k", 14)]) (N := N_law) (sc := (defScope s_law)) (by decide +kernel)) (fun _ _ _ _ _ => pg_name (i := 14) sc_law.nd rfl (Or.inl rfl)) (fun _ _ _ _ _ => pts_nil) (fun _ _ _ _ _ => (pe_op op_add (pe_ix (ixTK (K := K)) (pe_ix (ixTK (K := K)) (pv 3) pe_int (fun _ _ => rfl)) (pv 14) (fun _ _ => rfl)) (Cn.pe_cntF (K := K) (pv 8) (pa_cons (pv 14) pa_nil)))))
    (pss_cons (ps_set (i := 13) sc_law.nd rfl (Or.inl rfl) (pe_call G__law_most.one (hr.mono (by decide)) (by rfl) T.g__law_most G__law_most.kp G__law_most.two .nil passL (pa_cons (pe_tup (pa_cons (pe_ix (ixTK (K := K)) (pv 3) pe_int (fun _ _ => rfl)) (pa_cons (pe_ix (ixTK (K := K)) (pv 3) pe_int (fun _ _ => rfl)) (pa_cons (pe_callTy (tplK (K := K)) (by rfl) T.g_tuple (by decide +kernel) (pa_cons (pv 12) pa_nil)) (pa_cons (pe_ix (ixTK (K := K)) (pv 3) pe_int (fun _ _ => rfl)) pa_nil))))) pa_nil)))
    (pss_one (ps_if (PW.pt (pw_and (pt_cmpR op_le (pe_callB (maxLK (K := K)) (by rfl) T.g_max (by decide +kernel) (pa_cons (pv 12) pa_nil)) pe_int (nomark _)) (pw_and (pt_cmpR (show OpR _ (compareOp .IsNot) Rd.rNotN from op_notN) (pv 13) pe_non (nomark _)) (pw_and1 (pt_cmpR op_le (pv 13) (pe_ix (ixTK (K := K)) (pv 3) pe_int (fun _ _ => rfl)) (nomark _)))))) (pss_one (ps_set (i := 10) sc_law.nd rfl (Or.inl rfl) (pv 8))) pss_nil)))))))
    (pss_one (ps_if (pt_not (pt_val (pe_call G__law_equal.one (hr.mono (by decide)) (by rfl) T.g__law_equal G__law_equal.kp G__law_equal.two .nil passL (pa_cons (pe_call G_plan_calls.one (hr.mono (by decide)) (by rfl) T.g_plan_calls G_plan_calls.kp G_plan_calls.two .nil passL (pa_cons (pe_call G__law_hall.one (hr.mono (by decide)) (by rfl) T.g__law_hall G__law_hall.kp G__law_hall.two .nil passL (pa_cons (pv 3) pa_nil)) (pa_cons (pv 4) pa_nil))) (pa_cons (pv 10) pa_nil))))) (pss_one (ps_ret pe_bl)) pss_nil)))))))))
    (pss_one (ps_ret pe_bl)))), ?_⟩
  refine ⟨_, rfl, a, ns, 17, rfl, hS, hlen, by decide, by decide, fun d cs H1 hd0 S1 hd hcs => ?_⟩
  walk_at "rd"
  refine Rd.for_rng (n := 2) (fun i σ H2 => ∃ v2 v3 v4 v5 v6 v7 v8 v9 v10 v11 v12 v13 v14 v15, σ = [some (.ref a), some (.ref d), v2, v3, v4, v5, v6, v7, v8, v9, v10, v11, v12, v13, v14, v15] ∧ ∃ cs, H2 d = some (.lst cs) ∧ DSt cs)
    ⟨_, _, _, _, _, _, _, _, _, _, _, _, _, _, rfl, cs, hd, hcs⟩ ?_ (fun σ H2 _ => k H2)
  clear hd hcs hd0 S1
  rintro i_ σ H2 hi ⟨v2, v3, v4, v5, v6, v7, v8, v9, v10, v11, v12, v13, v14, v15, rfl, cs, hd, hcs⟩
  walk_at "rd"
  rename_i t tp cp m lt tk cl H3 c3 nt B3 hd3 hc3 hP m1 l1 l2 l3 lim H4 c4 hlim B4 hd4 hc4
  have hE4 : E17 H4 d c4 t m tp tk cp cl lt := ⟨hP.but B4 hd3, hd4⟩
  clear hd hcs nt B3 hd3 hc3 hP B4 hd4 H2 H3
  refine Rd.tup0F fun p0 H5 n0 S5 h0 => ?_
  walk_at "rd"
  rename_i q0 H6 nq0 S6 hq0 L H7 nL S7 hL
  have hE7 := hE4.same ((S5.trans S6).trans S7)
  have dL : d ≠ L := fun e => by
    have := S6 _ _ (S5 _ _ hE4.src)
    rw [e, nL] at this
    cases this
  have hY7 : Lay H7 L cl.length [V.ref q0] := ⟨fun k x hx => by
    cases k with
    | succ k => cases hx
    | zero =>
      cases hx
      refine ⟨q0, _, rfl, fun e => ?_, S7 _ _ hq0, .cons ⟨p0, rfl, (h0.same S6).same S7⟩ .nil⟩
      rw [e, nL] at hq0
      cases hq0⟩
  clear hE4 S5 h0 n0 nq0 S6 hq0 nL S7 H4 H5 H6
  refine Rd.for_rng (n := lim) (fun i σ H2 => ∃ v6 v7 v8 v9 Ls, σ = [some (.ref a), some (.ref d), some (vn i_), some (.ref t), some (vn lim), some (.ref L), v6, v7, v8, v9, v10, v11, v12, v13, v14, v15] ∧ E17 H2 d c4 t m tp tk cp cl lt ∧ H2 L = some (.lst Ls) ∧ Lay H2 L cl.length Ls ∧ Ls.length = i + 1)
    ⟨_, _, _, _, _, rfl, hE7, hL, hY7, rfl⟩ ?_ ?_
  · clear hE7 hL hY7 H7
    rintro j σ H2 hj ⟨v6, v7, v8, v9, Ls, rfl, hE, hL, hY, hlen⟩
    have h243 : (full cl.length j).length ≤ 243 := by
      have a1 := full_len l2 j
      have a2 : 3 ^ j ≤ 3 ^ 5 := Nat.pow_le_pow_right (by decide) (by omega)
      omega
    walk_at "rd"
    rename_i g H3 ng S3 hg
    have hE3 := hE.same S3
    have hL3 := S3 _ _ hL
    have hY3 := hY.same S3
    have gL : g ≠ L := fun e => by rw [e, hL] at ng; cases ng
    clear hE hL hY S3 ng H2
    obtain ⟨x, hx⟩ : ∃ x, Ls[j]? = some x := ⟨_, List.getElem?_eq_getElem (by omega)⟩
    obtain ⟨q, xs, rfl, hqL, hq, hxs⟩ := hY3.it j x hx
    refine Rd.ixL (SqL.of hL3) (at_last hlen hx) ?_
    walk_at "rd"
    refine Rd.for_lst (xs := xs) (fun b σ H4 => ∃ v8 v9 g gs, σ = [some (.ref a), some (.ref d), some (vn i_), some (.ref t), some (vn lim), some (.ref L), some (vn j), some (.ref g), v8, v9, v10, v11, v12, v13, v14, v15] ∧ Same H3 H4 ∧ H4 g = some (.lst gs) ∧ g ≠ L ∧ PlA H4 gs (((full cl.length j).take b).flatMap (ext cl.length)))
      ⟨_, _, g, _, rfl, Same.refl _, hg, gL, .nil⟩ (fun b σ H4 _ ⟨_, _, _, _, _, S4, _⟩ => SqL.of (S4 _ _ hq)) ?_ ?_
    · clear hg gL g
      rintro b x σ H4 hxb ⟨v8, v9, g, gs, rfl, S4, hg, gL, hgs⟩
      obtain ⟨r, pl, hpl, rfl, hr⟩ := plA_get (hxs.same S4) hxb
      have hE4 := hE3.same S4
      have hL4 := S4 _ _ hL3
      obtain ⟨plen, pmem⟩ := mem_len j pl (List.mem_of_getElem? hpl)
      walk_at "rd"
      refine Rd.tup0F fun p5 H5 n5 S5 h5 => ?_
      refine Rd.ned (d := .tuple (pl.map dN)) (e := .tuple []) (PlV.dp ⟨r, rfl, hr.same S5⟩) (.tup h5.sq .nil) (Sml.intsT (by omega)) ⟨by decide, fun x hx => by cases hx⟩ ?_
      walk_at "rs"
      refine Rd.ifM (P := fun v H' => v = vn (lastP pl) ∧ H' = H5) (fun hc K' kk => ?_) (fun hc K' kk => ?_) (fun v H' hv => ?_)
      · rcases List.eq_nil_or_concat pl with rfl | ⟨r0, x0, rfl⟩
        · simp at hc
        · walk_at "rd"
          refine Rd.ixT (hr.same S5).sq (at_last (n := r0.length) (x := vn x0) (by simp) (by simp)) ?_
          exact kk _ _ ⟨by unfold lastP; simp, rfl⟩
      · have e : pl = [] := by
          have : PyData.tuple (pl.map dN) = PyData.tuple [] := by simpa using hc
          simpa using this
        subst e
        walk_at "rd"
        exact kk _ _ ⟨rfl, rfl⟩
      obtain ⟨rfl, rfl⟩ := hv
      have hE5 := hE4.same S5
      have hP5 := hE5.prt
      have hL5 := S5 _ _ hL4
      have hg5 := S5 _ _ hg
      have hgs5 := hgs.same S5
      have hr5 := hr.same S5
      have hlp := lastP_lt (List.mem_of_getElem? hpl)
      walk_at "rd"
      refine Rd.rng2K_i (by rw [List.length_map]; omega) ?_
      rw [show ((((cl.map vn).length : Nat) : Int) - ((lastP pl : Nat) : Int)).toNat = cl.length - lastP pl by rw [List.length_map]; omega]
      refine Rd.lc_rngR (fun i y H => PlV H y (pl ++ [lastP pl + i])) (by omega) (fun _ => rfl) (fun i hi H' D nD S hD' Q' q => ?_) fun D ys H6 nD S6 h6 hlen6 hR => ?_
      · rw [show V.int (((lastP pl : Nat) : Int) + (i : Int)) = vn (lastP pl + i) from vn_int (by omega)]
        refine Rd.snoc rfl rfl (hr5.same S) (by omega) fun p H7 np S7 h7 => q _ _ S7 fun Hx B => ⟨p, rfl, h7.but B fun e => hD' ?_⟩
        rw [← e]
        exact np
      have lg := plA_len hgs
      have lg2 := ext_len (b := b) l2 (show j ≤ 4 by omega)
      refine Rd.catL (S6 _ _ hg5) h6 (by omega) fun p H7 np S7 h7 => ?_
      refine ⟨_, _, p, _, rfl, ((S4.trans S5).trans S6).trans S7, h7, fun e => ?_, ?_⟩
      · have := S6 _ _ hL5
        rw [← e, np] at this
        cases this
      · rw [flat_take hpl]
        exact plA_app (((hgs5.same S6).same S7)) ((plA_of _ hlen6 hR).same S7)
    · rintro σ H4 ⟨v8, v9, g, gs, rfl, S4, hg, gL, hgs⟩
      have hL4 := S4 _ _ hL3
      have hY4 := hY3.same S4
      have hE4 := hE3.same S4
      walk_at "rd"
      refine Rd.app hL4 (by omega) ?_
      have B : But L H4 (upd H4 L (.lst (Ls ++ [.ref g]))) := But.at_d
      refine ⟨_, _, _, _, Ls ++ [.ref g], rfl, hE4.but B hL4 dL, upd_same, (hY4.but B hL4).snoc gL (B _ _ gL hg) ?_, by simp [hlen]⟩
      rw [plA_len hxs, List.take_length] at hgs
      rw [hlen, ext_succ]
      exact hgs.but B hL4
  · clear hE7 hL hY7 H7
    rintro σ H2 ⟨v6, v7, v8, v9, Ls, rfl, hE, hL, hY, hlen⟩
    walk_at "rd"
    refine Rd.rev ?_
    walk_at "rd"
    refine ⟨rfl, L, Ls, rfl, SqL.of hL, fun pr npr => ?_⟩
    have Sr : Same H2 (upd H2 pr (.lst Ls.reverse)) := Same.nw npr (Same.refl _)
    have hr : upd H2 pr (.lst Ls.reverse) pr = some (.lst Ls.reverse) := upd_same
    have hE3 := hE.same Sr
    have hY3 := hY.same Sr
    generalize upd H2 pr (.lst Ls.reverse) = H3 at hr hE3 hY3 Sr
    clear hE hY hL Sr npr H2
    walk_at "rd"
    refine Rd.for_lst (xs := Ls.reverse) (fun b σ H4 => ∃ v6 v7 v8 v9 e10 v11 v12 v13 v14 v15, σ = [some (.ref a), some (.ref d), some (vn i_), some (.ref t), some (vn lim), some (.ref L), v6, v7, v8, v9, some e10, v11, v12, v13, v14, v15] ∧ Same H3 H4 ∧ PlO H4 e10 (((lays cl.length lim).reverse.take b).foldl (lstp m tk cl lt) none))
      ⟨_, _, _, _, _, _, _, _, _, _, rfl, Same.refl _, rfl⟩ (fun b σ H4 _ ⟨_, _, _, _, _, _, _, _, _, _, _, S4, _⟩ => SqL.of (S4 _ _ hr)) ?_ ?_
    · rintro b x σ H4 hxb ⟨v6, v7, v8, v9, e10, v11, v12, v13, v14, v15, rfl, S4, hO⟩
      have hb : b < lim + 1 := by
        have := (List.getElem?_eq_some_iff.mp hxb).1
        rw [List.length_reverse] at this
        omega
      rw [List.getElem?_reverse (by omega), hlen, show lim + 1 - 1 - b = lim - b by omega] at hxb
      obtain ⟨q, xs, rfl, hqL, hq, hxs⟩ := (hY3.same S4).it _ x hxb
      have hE4 := hE3.same S4
      have hnext := fold_succ (f := lstp m tk cl lt) (e := none) (lays_at (n := cl.length) hb)
      walk_at "rd"
      refine Rd.rev ?_
      walk_at "rd"
      refine ⟨rfl, q, xs, rfl, SqL.of hq, fun ps nps => ?_⟩
      have Ss : Same H4 (upd H4 ps (.lst xs.reverse)) := Same.nw nps (Same.refl _)
      have hs : upd H4 ps (.lst xs.reverse) ps = some (.lst xs.reverse) := upd_same
      have hE5 := hE4.same Ss
      have hxs5 := plA_rev (hxs.same Ss)
      have hO5 := hO.same Ss
      have S5 := S4.trans Ss
      generalize upd H4 ps (.lst xs.reverse) = H5 at hs hE5 hxs5 hO5 S5 Ss
      clear hE4 hq hxs hxb hO S4 Ss nps H4
      walk_at "rd"
      refine Rd.for_lst (xs := xs.reverse) (fun c σ H6 => ∃ v6 v7 v8 v9 e10 v11 v12 v13 v14 v15, σ = [some (.ref a), some (.ref d), some (vn i_), some (.ref t), some (vn lim), some (.ref L), v6, v7, v8, v9, some e10, v11, v12, v13, v14, v15] ∧ Same H5 H6 ∧ PlO H6 e10 (((full cl.length (lim - b)).reverse.take c).foldl (stp m tk cl lt) (((lays cl.length lim).reverse.take b).foldl (lstp m tk cl lt) none)))
        ⟨_, _, _, _, _, _, _, _, _, _, rfl, Same.refl _, hO5⟩ (fun c σ H6 _ ⟨_, _, _, _, _, _, _, _, _, _, _, S6, _⟩ => SqL.of (S6 _ _ hs)) ?_ ?_
      · clear hO5 v6 v7 v8 v9 e10 v11 v12 v13 v14 v15
        rintro c x σ H6 hxc ⟨v6, v7, v8, v9, e10, v11, v12, v13, v14, v15, rfl, S6, hO⟩
        obtain ⟨r, pl, hpl, rfl, hr⟩ := plA_get (hxs5.same S6) hxc
        have hE6 := hE5.same S6
        have hP6 := hE6.prt
        rw [fold_succ hpl]
        walk_at "rd"
        refine Rd.rngK_n (n := (cl.map vn).length) (by rw [List.length_map]; omega) ?_
        refine Rd.lc_rng (fun i => vn (cl.getD i 0 + pl.count i)) (by rw [List.length_map]; omega) (fun i hi => Rd.turn1 rfl fun H' S Q' q => ?_) fun D H7 nD S7 h7 => ?_
        · rw [List.length_map] at hi
          have hcp' := S _ _ hP6.clA
          walk_at "rd"
          refine Rd.ixT (SqT.of hcp') (i := (i : Int)) (atn (by rw [List.getElem?_map, List.getElem?_eq_getElem hi]; rfl)) ?_
          walk_at "rd"
          refine Rd.cntF (n := i) rfl rfl (hr.same S) ?_
          walk_at "rd"
          rw [show V.int ((cl[i] : Int) + ((pl.count i : Nat) : Int)) = vn (cl.getD i 0 + pl.count i) from vn_int (by rw [List.getD_eq_getElem?_getD, List.getElem?_eq_getElem hi]; show _ = (((cl[i] : Nat) + pl.count i : Nat) : Int); omega)]
          exact q _ (Same.refl _)
        have e7 : (List.range (cl.map vn).length).map (fun i => vn (cl.getD i 0 + pl.count i)) = (addAt cl pl).map vn := by
          unfold addAt
          rw [List.length_map, List.map_map]
          rfl
        rw [e7] at h7
        have hP7 := hP6.same S7
        have hr7 := hr.same S7
        have hO7 := hO.same S7
        walk_at "rd"
        rename_i q8 H8 nq8 S8 hq8 t9 H9 nt9 S9 h9
        have c0 := hP6.ok.clP.pos
        have S79 := S8.trans S9
        have hW : PartsW H9 t9 m tp tk q8 (addAt cl pl) lt := ⟨h9, (S79 _ _ hP7.tkA), S9 _ _ hq8, ⟨⟨hP6.ok.tkP.pos, hP6.ok.tkP.len⟩, ⟨by rw [addAt_len]; exact c0, by rw [addAt_len]; omega⟩, by omega⟩⟩
        refine ⟨t9, tp, q8, m, lt, tk, addAt cl pl, rfl, hW, fun v Hv Sv hv => ?_⟩
        have S6v := ((S6.trans S7).trans S79).trans Sv
        have hr10 := hr7.same (S79.trans Sv)
        have hO10 := hO7.same (S79.trans Sv)
        have hP10 := (hP7.same S79).same Sv
        have h10 : Hv D = some (.lst ((addAt cl pl).map vn)) := Sv _ _ (S79 _ _ h7)
        clear hW h9 S9 nt9 hq8 nq8 S8 S79 hP7 hr7 hO7 h7 S7 nD hP6 hr hO hxc S6
        have no : pst m tk cl lt pl = false → PlO Hv e10 (stp m tk cl lt (((full cl.length (lim - b)).reverse.take c).foldl (stp m tk cl lt) (((lays cl.length lim).reverse.take b).foldl (lstp m tk cl lt) none)) pl) := fun h => by
          unfold stp
          rw [if_neg (by rw [h]; decide)]
          exact hO10
        walk_at "rs"
        refine Rd.ifS ?_
        walk_at "rs"
        refine ⟨D, (addAt cl pl).map fun n : Nat => (n : Int), rfl, SqL.of (by rw [h10, List.map_map]; rfl), (by rw [List.length_map, addAt_len]; exact c0), fun z hz hall => ?_⟩
        have hfine : fine cl pl = true ↔ z ≤ 9 := by
          constructor
          · intro h
            obtain ⟨y, hy, rfl⟩ := List.mem_map.mp hz
            have := fine_nine h y hy
            omega
          · intro h
            refine List.all_eq_true.mpr fun x hx => decide_eq_true ?_
            have := hall _ (List.mem_map.mpr ⟨x, hx, rfl⟩)
            omega
        walk_at "rs"
        refine Rd.d2 (fun c9 => ?_) fun c9 => ?_
        · have hf := hfine.mpr c9
          rcases id hv with ⟨_, rfl⟩ | ⟨_, M, rfl, _⟩
          · walk_at "rd"
            refine ⟨_, _, _, _, _, _, _, _, _, _, rfl, S6v, no ?_⟩
            unfold pst
            rw [hf, Bool.true_and]
            cases e : ncB m tk cl lt pl with
            | false => rfl
            | true =>
              obtain ⟨M, hM, _⟩ := ncB_iff.mp e
              exact absurd hM (MostV.num hv)
          · walk_at "rs"
            refine Rd.d2 (fun cM => ?_) fun cM => ?_
            · walk_at "rd"
              refine ⟨_, _, _, _, _, _, _, _, _, _, rfl, S6v, ?_⟩
              have hp : pst m tk cl lt pl = true := by
                unfold pst
                rw [hf, Bool.true_and]
                exact ncB_iff.mpr ⟨M, hv, by omega⟩
              unfold stp
              rw [if_pos hp]
              exact ⟨r, rfl, hr10⟩
            · walk_at "rd"
              refine ⟨_, _, _, _, _, _, _, _, _, _, rfl, S6v, no ?_⟩
              unfold pst
              rw [hf, Bool.true_and]
              cases e : ncB m tk cl lt pl with
              | false => rfl
              | true =>
                obtain ⟨M', hM, hle⟩ := ncB_iff.mp e
                have e2 := MostV.uniq hv hM
                have e2 : V.int (M : Int) = V.int (M' : Int) := e2
                injection e2 with e2
                omega
        · walk_at "rd"
          refine ⟨_, _, _, _, _, _, _, _, _, _, rfl, S6v, no ?_⟩
          unfold pst
          cases e : fine cl pl with
          | false => rfl
          | true => exact absurd (hfine.mp e) c9
      · rintro σ H6 ⟨v6, v7, v8, v9, e10, v11, v12, v13, v14, v15, rfl, S6, hO⟩
        refine ⟨_, _, _, _, _, _, _, _, _, _, rfl, S5.trans S6, ?_⟩
        rw [hnext]
        rw [plA_len hxs5, List.take_length] at hO
        exact hO
    · rintro σ H4 ⟨v6, v7, v8, v9, e10, v11, v12, v13, v14, v15, rfl, S4, hO⟩
      have el : (lays cl.length lim).length = lim + 1 := by unfold lays; simp
      have efull : (lays cl.length lim).reverse.take Ls.reverse.length = (lays cl.length lim).reverse := List.take_of_length_le (by rw [List.length_reverse, List.length_reverse]; omega)
      rw [efull, lays_all] at hO
      have hE4 := hE3.same S4
      have hP4 := hE4.prt
      walk_at "rd"
      rename_i hh lp H5 nh nlp S5 hA
      refine ⟨hh, lp, m, lt, lim, tk, cl, rfl, hA, by omega, l2, fun v H6 S6 hv => ?_⟩
      rw [find_eq hP4.ok.clP.nine] at hv
      have hv : PlO H6 v (((List.range (lim + 1)).flatMap (full cl.length)).find? (pst m tk cl lt)) := hv
      have hO6 := hO.same (S5.trans S6)
      have sm : Sml 4 (dOp (((List.range (lim + 1)).flatMap (full cl.length)).find? (pst m tk cl lt))) := by
        cases e : ((List.range (lim + 1)).flatMap (full cl.length)).find? (pst m tk cl lt) with
        | none => trivial
        | some pl =>
          obtain ⟨kk, _, hm⟩ := List.mem_flatMap.mp (List.mem_of_find?_eq_some e)
          have h5 := (mem_len kk pl hm).1
          have h6 := List.mem_range.mp ‹kk ∈ List.range (lim + 1)›
          exact Sml.intsT (n := 2) (by omega)
      walk_at "rd"
      refine Rd.h_eqd hv.dp hO6.dp sm fun H7 S7 => ?_
      walk_at "rd"
      exact ⟨_, _, _, _, _, _, _, _, _, _, _, _, _, _, rfl, c4, S7 _ _ (S6 _ _ (S5 _ _ hE4.src)), hc4⟩
end
end Tk

end

/-! ### The end -/
namespace Tk
open PySem PySem.Spec PyProof.Rows L2
theorem facts {P : Program} {w : World} {K : PySem.W.Frag} {h : Heap} {mg : Str → Option Value} {f : Addr} (X : K.In h) (G : h.Ns mainGlobals mg) (hfa : mg ("law" : Str) = some (.ref f)) (c : Says fcts dps K) :
    ∃ fd : FuncData, (∀ (s : Shared) (v : Value), BindsTo s fd ⟨[v], []⟩ [("_law_script", v)]) ∧ ∀ base : Heap, K.In base → base.Ns mainGlobals mg → FnOk P w K mg base CX0 11 f fd ["_law_script"] (spLaw K) := by
  obtain ⟨fd, F⟩ := law_fn c
  have T := txt X G c
  have e := hfa.symm.trans (He.glo_ok X G (c.fact lawF rfl))
  cases e
  have b := FunD.bindsA (ps := ["_law_script"]) F fun _ _ _ _ _ _ us hl => match us, hl with | [_], _ => rfl
  exact ⟨fd, fun s v => b s [v] rfl, fun base _ _ => ok_law T F⟩
end Tk
open PySem PySem.W PySem.Calls PyProof.Rows
set_option maxRecDepth 100000 in
set_option maxHeartbeats 0 in
theorem PySem.Challenge.cw_ticketwrap_k17_planned_calls_holds : PySem.Challenge.rw_ticketwrap_k17_planned_calls.Holds := by
  w_on; o_law
  refine HeadRun.head_imp (r := OpenLaw.row PySem.Challenge.rw_ticketwrap_k17_planned_calls) (q := view (OpenLaw.row PySem.Challenge.rw_ticketwrap_k17_planned_calls).prog [0, 44]) (H := Tk.hk) (ob := Tk.ob) (M := 20000) (loose := Tk.names) (d := HeadRun.topDef (OpenLaw.row PySem.Challenge.rw_ticketwrap_k17_planned_calls).prog 44) (kwd := []) Tk.ob_eq Tk.run
    (by kernel_rfl) (by kernel_rfl) (by kernel_rfl) (by rfl) (by first | assumption | decide +kernel) (by decide +kernel) ⟨rfl, rfl, rfl, rfl, rfl, by decide +kernel⟩ ?hw ?hc
  case hw => w_witness2
  case hc =>
    refine L2.walk_ofE (l := PySem.Challenge.rw_ticketwrap_k17_planned_calls) (n := 63) (k := 11) (x := "_law_script") (CX := L2.CX0) rfl (by decide) (by kernel_rfl) ⟨rfl, by decide, by decide⟩ ?F (fun _ _ _ _ z => z)
    intro w mg fa h Y G hmg0
    obtain ⟨K, KX, c, _⟩ := Y
    have hmg : mg ("law" : PySem.Str) = some (.ref fa) := by
      have e : (HeadRun.topDef (OpenLaw.row PySem.Challenge.rw_ticketwrap_k17_planned_calls).prog 44).name = ("law" : PySem.Str) := by kernel_rfl
      rw [← e]
      exact hmg0
    obtain ⟨fd, hb, hF⟩ := Tk.facts (P := (PySem.Challenge.rw_ticketwrap_k17_planned_calls).prog) (w := w) KX G hmg c
    exact ⟨K, fd, Tk.spLaw K, KX, hb, fun H a ns hl _ hS => ⟨a, ns, rfl, hS, hl, fun _ => rfl⟩, hF⟩
