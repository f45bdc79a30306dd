import PyProof.Rows.All
import Wide.All
import OpenK.AllK
import Wide.FinOn
import KE.KStateDown
import KE.KMathGC
import KE.KTupSum
import KE.GoesEnum
import KE.KUnpackStar
import HandS.StrMore
import HandS.Zip
import HandS.ClsMeth
import HandS.Codes
import HandS.ForMost
import HandS.Exc
import HandS.TryOnly
import HandS.ExcOwn
import HandS.ExcValue
import HandS.WordsExc
import HandS.Defaults
import HandS.Property
import HandS.Conv
import HandS.Flow
import HandS.Wide
import HandS.IsInst
import HandS.TupAny
import HandS.Deep
import HandS.Evl
import HandS.Lambda
import HandS.EndTab
import HandS.HeadWalk
import HandS.GenList
import HandS.RevRange
import HandS.Gcd
import HandS.CallLocal
import HandS.TryMany
import HandS.SetKeys
import HandS.Star
import HandS.TupMul
import HandS.Style
import HandS.SortKw
import KE.DatumOrd
import PyProof.GenComp
import KE.HD3
import HandS.HeadEnd
import HandS.HeadHook1
import HandS.HeadHook2
import HandS.HeadHook4
import HandS.NestedK
import KE.KExcIs
import KE.KExcSuper
import KE.KSuperObj
import HandS.ExcSuper
import HandS.ExcInit
import HandS.ExcField
import HandS.ExcIs
import HandS.FStr
import HandS.SetFor
import PySem.Challenge.RW_ticketwrap_k21_invalid_bytes
set_option Elab.async false
set_option linter.all false
set_option maxRecDepth 100000
set_option maxHeartbeats 4000000
/-! ### A. Rules and facts of our own -/
namespace Tk
open PySem PySem.Spec PyProof.Rows L2
section
variable {X : Cx}

/-! math.lcm, sum of a tuple -/
def rLcm : List V → Hp → VK → Prop := fun vs H Q => ∃ a b : Nat, vs = [.int a, .int b] ∧ a < 1000000 ∧ b < 1000000 ∧ Q (.int ((Nat.lcm a b : Nat) : Int)) H
theorem cr_lcm : CallR X (.builtin "math.lcm") rLcm := by
  intro pins s σ H vs us Q I r h
  obtain ⟨a, b, rfl, ha, hb, q⟩ := h
  obtain ⟨t, u, rfl⟩ := Vals.int2 r
  refine PySem.W.mc_lcm (by simp; omega) (by simp; omega) fun _ => ⟨.int _, H, I.tok _, ⟨_, rfl⟩, ?_⟩
  simpa using q
def rSumT (K : PySem.W.Frag) : List V → Hp → VK → Prop := fun vs H Q => ∃ (a : Addr) (ns : List Int), vs = [V.ref a] ∧ SqT K H a (ns.map V.int) ∧ Q (.int ns.sum) H
theorem istup_old {h : Heap} {t : Addr} {its : List Value} (p : IsTup h t its.toArray) : h.IsTuple t its.toArray := by
  obtain ⟨o, ho, hc, n, hd⟩ := p
  exact ⟨o, ho, hc, n, hd⟩
theorem cr_sumT (hc : X.calm = true) : CallR X (.builtin "sum") (rSumT X.K) := by
  intro pins s σ H vs us Q I r h
  obtain ⟨a, ns, rfl, hs, q⟩ := h
  obtain ⟨its, rv, hl, _⟩ := I.tuple hs
  rw [Vals.ref1 r]
  have hi := rv.ints
  obtain ⟨xs, hx⟩ := hi.allInts.items
  have hn : numsOf its.toArray.toList = ns := by rw [show its.toArray.toList = its from rfl, hi.numsOf]
  have ht := istup_old hl
  rw [hx] at ht hn
  rw [nums_intItems] at hn
  refine PySem.W.ktm_sumG (I.ok.hd hc) ht fun h' tk t' hk => ?_
  rw [preSum_eq, List.take_of_length_le (by simp), hn]
  exact ⟨.int _, H, I.kept hk, ⟨_, rfl⟩, q⟩
/-- f(e, ..), f a name for a built-in function of a module -/
theorem pfun {x : Str} {p pos : Pos} {e : Expr} {es : List Expr} {t : TA} {id : String} {r : List V → Hp → VK → Prop} (hc : CallR X (.builtin id) r) (hg : Gl X x) (hm : X.mg x = some (.builtin id)) (ha : PA X (e :: es) t) (hdb : (x == ("__debug__" : Str)) = false := by decide)
    (he : starEach (e :: es) X.env = (false, eval e X.env) :: starEach es X.env := by rfl) (hpl : (backTo pos (starEach es X.env)).any (·.1) = false := by rfl) : PE X (.Call (.Name x p) (e :: es) [] pos) (tCB r t) :=
  ⟨fun pins s σ H _ I h => wpAny_Call_Name_kw (ld_glob I hg hm (PyProof.Rows.callWith_builtin1 (thn (ha.run pos pins s σ H _ I h) fun us s1 ⟨vs, H1, I1, r1, q1⟩ => hc pins s1 σ H1 vs us _ I1 r1 q1) he hpl) hdb)⟩

/-! a comprehension within a comprehension -/
theorem look_relabel {env : Env} : ∀ {names : List (Str × NameKind)} {x : Str}, names.lookup x = some .cell ∨ names.lookup x = some .free →
    (names.map fun (n, k) => if (k == NameKind.free && env.scope.kind == .function && env.kindOf n == some .cell) then (n, NameKind.cell) else (n, k)).lookup x = some .cell ∨
    (names.map fun (n, k) => if (k == NameKind.free && env.scope.kind == .function && env.kindOf n == some .cell) then (n, NameKind.cell) else (n, k)).lookup x = some .free
  | [], x, h => by rcases h with h | h <;> simp at h
  | (n, k) :: r, x, h => by
    have ih := @look_relabel env r x
    show List.lookup x ((if (k == NameKind.free && env.scope.kind == .function && env.kindOf n == some .cell) = true then (n, NameKind.cell) else (n, k)) :: _) = _ ∨ List.lookup x ((if (k == NameKind.free && env.scope.kind == .function && env.kindOf n == some .cell) = true then (n, NameKind.cell) else (n, k)) :: _) = _
    cases hx : x == n with
    | true =>
      simp only [List.lookup_cons, hx] at h
      by_cases hc : (k == NameKind.free && env.scope.kind == .function && env.kindOf n == some .cell) = true
      · rw [if_pos hc]
        simp [List.lookup_cons, hx]
      · rw [if_neg hc]
        simp only [List.lookup_cons, hx]
        exact h
    | false =>
      simp only [List.lookup_cons, hx] at h
      by_cases hc : (k == NameKind.free && env.scope.kind == .function && env.kindOf n == some .cell) = true
      · rw [if_pos hc]; simp only [List.lookup_cons, hx]; exact ih h
      · rw [if_neg hc]; simp only [List.lookup_cons, hx]; exact ih h
theorem blkRe {N : List Str} {sc scope : Scope} {own : List (Str × Nat)} {env : Env} (h : BlkOk N sc scope own) : BlkOk N (relabel sc env) scope own :=
  ⟨h.kind, h.uniq, h.ix, fun y hy e => look_relabel (h.free y hy e), h.own⟩
/-! a def that stands at a and keeps a promise; its calls -/
structure OkF (P : Program) (w : World) (K : PySem.W.Frag) (mg : Str → Option Value) (base : Heap) (k : Nat) (a : Addr) (ps : List Str) (sp : Sp) : Prop where
  ex : ∃ fd, FnOk P w K mg base (L2.CX P w) k a fd ps sp ∧ Binds K fd ps []
  kp : PySem.W.keepIn K (.ref a) = true
theorem OkF.one {P : Program} {w : World} {K : PySem.W.Frag} {mg : Str → Option Value} {base : Heap} {k : Nat} {a : Addr} {ps : List Str} {sp : Sp} (O : OkF P w K mg base k a ps sp) : FnOk P w K mg base (L2.CX P w) k a (Classical.choose O.ex) ps sp := (Classical.choose_spec O.ex).1
theorem OkF.two {P : Program} {w : World} {K : PySem.W.Frag} {mg : Str → Option Value} {base : Heap} {k : Nat} {a : Addr} {ps : List Str} {sp : Sp} (O : OkF P w K mg base k a ps sp) : Binds K (Classical.choose O.ex) ps [] := (Classical.choose_spec O.ex).2
variable {x : Str} {pos : Pos}
/-- a constant of the module -/
theorem pe_gint {v : Int} (hg : Gl X x) (h : ∃ t, X.mg x = some (.int v t)) (hd : (x == ("__debug__" : Str)) = false := by decide) : PE X (.Name x pos) (tC (.int v)) := by
  obtain ⟨t, h⟩ := h
  exact pe_glob hg h ⟨t, rfl⟩ hd
end

/-! facts of the top, read by a Hook -/
abbrev FnP (K : PySem.W.Frag) (x qual : Str) (st : Stmt) (f : Addr) (fd : FuncData) : Prop := FunD K x qual (defArgs st) (defBody st) (defScope st) [] [] f fd
/-- where a def stands, and the def -/
structure Dp where
  at_ : PySem.W.Frag → Addr
  d : He.DefD
  cl : Option ((PySem.W.Frag → Addr) × Str) := none
def look (K : PySem.W.Frag) (a : Addr) : He.FnW := match K.lookup a with
  | some o => (match o.data with
    | .func fd => some (fd.name, fd.qualname, fd.params, fd.body, fd.scope, fd.globals, fd.closure, fd.builtins)
    | _ => none)
  | none => none
def okA (K : PySem.W.Frag) (a : Addr) (d : He.DefD) : Bool := PySem.W.keepIn K (.ref a) && (match K.lookup a with
  | some o => (match o.data with
    | .func fd => PySem.W.codeIn K fd.code d.qual && (He.dflB K fd.defaults (d.dvs K) && He.kwdB K fd.kwdefaults (d.kws K))
    | _ => false)
  | none => false)
theorem fun_at {K : PySem.W.Frag} {a : Addr} {d : He.DefD} (e : look K a = d.val) (c : okA K a d = true) : ∃ fd, FunD K d.name d.qual d.params d.body d.scope (d.dvs K) (d.kws K) a fd := by
  obtain ⟨kp, c2⟩ := He.ba c
  unfold look at e
  cases q : K.lookup a with
  | none => rw [q] at c2; cases c2
  | some o =>
    obtain ⟨oc, od, dt, osl⟩ := o
    rw [q] at c2 e
    cases dt with
    | func fd =>
      obtain ⟨n1, n2, n3, n4, n5, n6, n7, n8, n9, n10, n11, n12, n13, n14, n15⟩ := fd
      have z : (some (n1, n2, n3, n4, n5, n6, n7, n15) : He.FnW) = d.val := e
      unfold He.DefD.val at z
      simp only [Option.some.injEq, Prod.mk.injEq] at z
      obtain ⟨rfl, rfl, rfl, rfl, rfl, rfl, rfl, rfl⟩ := z
      obtain ⟨c3, c4⟩ := He.ba (show (PySem.W.codeIn K n13 d.qual && (He.dflB K n8 (d.dvs K) && He.kwdB K n9 (d.kws K))) = true from c2)
      obtain ⟨c5, c6⟩ := He.ba c4
      exact ⟨_, ⟨oc, od, n8, n9, n10, n11, n12, n13, n14, osl, rfl, q, c3, He.dflB_ok c5, He.kwdB_ok c6⟩, kp⟩
    | _ => cases c2
/-! an __init__ that says super(): its closure is one cell, which holds the class -/
def lookX (K : PySem.W.Frag) (a : Addr) : He.FnW := match K.lookup a with
  | some o => (match o.data with
    | .func fd => some (fd.name, fd.qualname, fd.params, fd.body, fd.scope, fd.globals, fd.closure.map (fun q => (q.1, 0)), fd.builtins)
    | _ => none)
  | none => none
def valX (d : He.DefD) : He.FnW := some ("__init__", d.qual, d.params, .stmts d.body, d.scope, mainGlobals, [("__class__", 0)], builtinsNs)
def codeFB (K : PySem.W.Frag) (cd : Value) (file : Str) : Bool := match cd with
  | .ref c => (match K.lookup c with
    | some ⟨_, _, .fields vs, _⟩ => (match (vs[2]? : Option Value) with
      | some (.str y _) => decide (y = file)
      | _ => false)
    | _ => false)
  | _ => false
def cellB (K : PySem.W.Frag) (cl : List (Str × Addr)) (C : Addr) : Bool := match cl with
  | [(_, cc)] => (match K.lookup cc with
    | some ⟨_, _, .cell (some v), _⟩ => decide (v = .ref C)
    | _ => false)
  | _ => false
def okX (K : PySem.W.Frag) (a C : Addr) (qual file : Str) : Bool := PySem.W.keepIn K (.ref a) && (match K.lookup a with
  | some ⟨oc, _, .func fd, _⟩ => decide (oc = .type "function") && (decide (fd.defaults = .none) && (decide (fd.kwdefaults = .none) && (PySem.W.codeIn K fd.code qual && (codeFB K fd.code file && cellB K fd.closure C))))
  | _ => false)
def Dp.look (K : PySem.W.Frag) (p : Dp) : He.FnW := match p.cl with
  | none => Tk.look K (p.at_ K)
  | some _ => lookX K (p.at_ K)
def Dp.ok (K : PySem.W.Frag) (p : Dp) : Bool := match p.cl with
  | none => okA K (p.at_ K) p.d
  | some q => okX K (p.at_ K) (q.1 K) p.d.qual q.2
def Dp.val (p : Dp) : He.FnW := match p.cl with
  | none => p.d.val
  | some _ => valX p.d
theorem init_at {K : PySem.W.Frag} {a C : Addr} {d : He.DefD} {file : Str} (e : lookX K a = valX d) (c : okX K a C d.qual file = true) : PySem.W.keepIn K (.ref a) = true ∧
    ∃ (od : Option Addr) (doc pm ctv : Value) (an : Option Addr) (osl : Array (Option Value)) (c cc : Addr) (oc ocl : Obj) (vs : Array Value) (tf : Tok),
      K.lookup a = some ⟨.type "function", od, .func (PySem.W.fnX "__init__" d.qual d.params d.body d.scope [("__class__", cc)] .none .none doc pm an (.ref c) ctv), osl⟩ ∧ PySem.W.codeIn K (.ref c) d.qual = true ∧
        K.lookup c = some oc ∧ oc.data = .fields vs ∧ vs[2]? = some (.str file tf) ∧ K.lookup cc = some ocl ∧ ocl.data = .cell (some (.ref C)) := by
  obtain ⟨kp, c2⟩ := He.ba c
  refine ⟨kp, ?_⟩
  unfold lookX at e
  cases q : K.lookup a with
  | none => rw [q] at c2; cases c2
  | some o =>
    obtain ⟨oc, od, dt, osl⟩ := o
    rw [q] at c2 e
    cases dt with
    | func fd =>
      obtain ⟨n1, n2, n3, n4, n5, n6, n7, n8, n9, n10, n11, n12, n13, n14, n15⟩ := fd
      have z : (some (n1, n2, n3, n4, n5, n6, n7.map (fun q => (q.1, 0)), n15) : He.FnW) = valX d := e
      unfold valX at z
      simp only [Option.some.injEq, Prod.mk.injEq] at z
      obtain ⟨rfl, rfl, rfl, rfl, rfl, rfl, z7, rfl⟩ := z
      obtain ⟨c3, c4⟩ := He.ba (show (decide (oc = .type "function") && (decide (n8 = .none) && (decide (n9 = .none) && (PySem.W.codeIn K n13 d.qual && (codeFB K n13 file && cellB K n7 C))))) = true from c2)
      obtain ⟨c5, c6⟩ := He.ba c4
      obtain ⟨c7, c8⟩ := He.ba c6
      obtain ⟨c9, c10⟩ := He.ba c8
      obtain ⟨c11, c12⟩ := He.ba c10
      obtain rfl := of_decide_eq_true c3
      obtain rfl := of_decide_eq_true c5
      obtain rfl := of_decide_eq_true c7
      obtain ⟨c0, rfl⟩ := He.codeIn_ref c9
      unfold codeFB at c11
      dsimp only at c11
      obtain ⟨ob, vs, tf, lb, hv, hf⟩ : ∃ (ob : Obj) (vs : Array Value) (tf : Tok), K.lookup c0 = some ob ∧ ob.data = .fields vs ∧ vs[2]? = some (.str file tf) := by
        cases q0 : K.lookup c0 with
        | none => rw [q0] at c11; cases c11
        | some ob =>
          obtain ⟨b1, b2, dt, b4⟩ := ob
          rw [q0] at c11
          cases dt with
          | fields vs =>
            have c11 : (match (vs[2]? : Option Value) with
              | some (.str y _) => decide (y = file)
              | _ => false) = true := c11
            cases q2 : (vs[2]? : Option Value) with
            | none => rw [q2] at c11; cases c11
            | some v =>
              rw [q2] at c11
              cases v with
              | str y tf =>
                obtain rfl : y = file := of_decide_eq_true c11
                exact ⟨_, vs, tf, rfl, rfl, q2⟩
              | _ => cases c11
          | _ => cases c11
      unfold cellB at c12
      cases n7 with
      | nil => cases c12
      | cons p r =>
        obtain ⟨pn, cc⟩ := p
        cases r with
        | cons p2 r2 => cases c12
        | nil =>
          obtain ⟨z7, _⟩ := List.cons.inj (show [(pn, (0 : Addr))] = [(("__class__" : Str), (0 : Addr))] from z7)
          obtain rfl : pn = "__class__" := (Prod.mk.inj z7).1
          have c12 : (match K.lookup cc with
            | some ⟨_, _, .cell (some v), _⟩ => decide (v = .ref C)
            | _ => false) = true := c12
          cases q3 : K.lookup cc with
          | none => rw [q3] at c12; cases c12
          | some ocl =>
            obtain ⟨b1, b2, dt, b4⟩ := ocl
            rw [q3] at c12
            cases dt with
            | cell v =>
              cases v with
              | none => cases c12
              | some v =>
                obtain rfl : v = .ref C := of_decide_eq_true c12
                exact ⟨od, _, _, _, _, osl, c0, cc, ob, _, vs, tf, rfl, c9, lb, hv, hf, q3, rfl⟩
            | _ => cases c12
    | _ => cases c2
abbrev Al : Type := Bool × List He.FnW
def obsT (fa : List (PySem.W.Frag → Bool)) (fn : List Dp) (K : PySem.W.Frag) : Al := ((fa.all fun f => f K) && fn.all fun d => d.ok K, fn.map fun d => d.look K)
def valT (fn : List Dp) : Al := (true, fn.map fun d => d.val)
def Says (fa : List (PySem.W.Frag → Bool)) (fn : List Dp) (K : PySem.W.Frag) : Prop := obsT fa fn K = valT fn
/-! defs that make functions: their code objects, the tables of these -/
def codeAt (K : PySem.W.Frag) (a : Addr) : Addr := match K.lookup a with
  | some ⟨_, _, .func fd, _⟩ => (match fd.code with
    | .ref c => c
    | _ => 0)
  | _ => 0
def ctAt (K : PySem.W.Frag) (a : Addr) : Addr × Addr := (codeAt K a, He.tabOf K (codeAt K a))
theorem codeAt_eq {K : PySem.W.Frag} {a : Addr} {oc : Value} {od : Option Addr} {osl : Array (Option Value)} {fd : FuncData} {cd : Value} {q : Str} (lk : K.lookup a = some ⟨oc, od, .func fd, osl⟩) (e : fd.code = cd) (h : PySem.W.codeIn K cd q = true) : cd = .ref (codeAt K a) := by
  obtain ⟨c, rfl⟩ := He.codeIn_ref h
  unfold codeAt
  rw [lk]
  show Value.ref c = .ref (match fd.code with | .ref c => c | _ => 0)
  rw [e]
abbrev Mk_ : Type := PySem.W.Frag → Addr
/-- what is looked at: what is reached from the module, and the notes on builtins -/
def asX (g : Addr → Option Obj) (n : Nat) : List Addr := cStatics :: He.asD g n
structure Tells (tf : List Mk_) (h : Heap) (K : PySem.W.Frag) : Prop where
  hd : ∀ p ∈ tf, PySem.W.codeHdIn K (ctAt K (p K)).1 (ctAt K (p K)).2 = true
  out : ∀ p ∈ tf, K.lookup (ctAt K (p K)).2 = none
  empty : ∀ p ∈ tf, h.get? (ctAt K (p K)).2 = some { cls := .none, data := .fields #[] }
  apart : (tf.map fun p => (ctAt K (p K)).2).Nodup
def tabsB (g : Addr → Option Obj) (tf : List Mk_) (K : PySem.W.Frag) : Bool := (tf.all fun p => PySem.W.codeHdIn K (ctAt K (p K)).1 (ctAt K (p K)).2 && (match g (ctAt K (p K)).2 with
  | some o => He.emptyTab o
  | none => false)) && decide ((tf.map fun p => (ctAt K (p K)).2).Nodup)
abbrev AlX : Type := Al × Bool
def obsG (n : Nat) (fa : List (PySem.W.Frag → Bool)) (fn : List Dp) (tf : List Mk_) (g : Addr → Option Obj) : AlX := (obsT fa fn (He.frT g (asX g n)), tabsB g tf (He.frT g (asX g n)))
theorem tells_of {n : Nat} {tf : List Mk_} {h : Heap} (e : tabsB h.get? tf (He.frT h.get? (asX h.get? n)) = true) : Tells tf h (He.frT h.get? (asX h.get? n)) := by
  obtain ⟨h2, h5⟩ := He.ba e
  have key : ∀ p ∈ tf, PySem.W.codeHdIn (He.frT h.get? (asX h.get? n)) (ctAt (He.frT h.get? (asX h.get? n)) (p (He.frT h.get? (asX h.get? n)))).1 (ctAt (He.frT h.get? (asX h.get? n)) (p (He.frT h.get? (asX h.get? n)))).2 = true ∧
      ∃ o, h.get? (ctAt (He.frT h.get? (asX h.get? n)) (p (He.frT h.get? (asX h.get? n)))).2 = some o ∧ He.emptyTab o = true := fun p hp => by
    obtain ⟨h3, h4⟩ := He.ba (List.all_eq_true.mp h2 p hp)
    refine ⟨h3, ?_⟩
    generalize h.get? (ctAt (He.frT h.get? (asX h.get? n)) (p (He.frT h.get? (asX h.get? n)))).2 = z at h4
    cases z with
    | none => cases h4
    | some o => exact ⟨o, rfl, h4⟩
  exact ⟨fun p hp => (key p hp).1, fun p hp => by
    obtain ⟨_, o, q, z⟩ := key p hp
    exact He.frT_none q z, fun p hp => by
    obtain ⟨_, o, q, z⟩ := key p hp
    rw [q, He.emptyTab_eq z], of_decide_eq_true h5⟩
def hook (n : Nat) (fa : List (PySem.W.Frag → Bool)) (fn : List Dp) (tf : List Mk_) : PySem.W.Hook where
  α := AlX
  obs := fun s => obsG n fa fn tf s.heap.get?
  val := fun _ => (valT fn, true)
  says := fun _ h => ∃ K : PySem.W.Frag, K.In h ∧ Says fa fn K ∧ Tells tf h K
  of := fun _ _ e => ⟨_, He.frT_in, congrArg (fun z : AlX => z.1) e, tells_of (congrArg (fun z : AlX => z.2) e)⟩
  keeps := fun _ _ _ ⟨K, hK, c, t⟩ q => ⟨K, PySem.W.Frag.In.keeps hK q, c, t.hd, t.out, fun p hp => q _ _ (t.empty p hp), t.apart⟩
theorem obsG_eq {n : Nat} {fa : List (PySem.W.Frag → Bool)} {fn : List Dp} {tf : List Mk_} {g : Addr → Option Obj} {s : Shared} (h : ∀ a, g a = s.heap.get? a) : obsG n fa fn tf g = (hook n fa fn tf).obs s :=
  congrArg (obsG n fa fn tf) (funext h)
section
variable {fa : List (PySem.W.Frag → Bool)} {fn : List Dp} {K : PySem.W.Frag}
theorem Says.fact (c : Says fa fn K) (i : Nat) {f : PySem.W.Frag → Bool} (h : fa[i]? = some f := by rfl) : f K = true :=
  List.all_eq_true.mp (He.ba (show ((fa.all fun f => f K) && fn.all fun d => d.ok K) = true from congrArg (fun z : Al => z.1) c)).1 f (List.mem_of_getElem? h)
theorem Says.at_ (c : Says fa fn K) (i : Nat) {d : Dp} (h : fn[i]? = some d) : d.look K = d.val ∧ d.ok K = true := by
  have c2 := (He.ba (show ((fa.all fun f => f K) && fn.all fun d => d.ok K) = true from congrArg (fun z : Al => z.1) c)).2
  have c3 := List.all_eq_true.mp c2 d (List.mem_of_getElem? h)
  have e : (fn.map fun d => d.look K)[i]? = (fn.map fun d => d.val)[i]? := congrArg (fun z : Al => z.2[i]?) c
  rw [List.getElem?_map, List.getElem?_map, h] at e
  exact ⟨Option.some.inj e, c3⟩
theorem Says.def_ (c : Says fa fn K) (i : Nat) {at_ : PySem.W.Frag → Addr} {d : He.DefD} (h : fn[i]? = some ⟨at_, d, none⟩ := by rfl) : (∃ fd, FunD K d.name d.qual d.params d.body d.scope (d.dvs K) (d.kws K) (at_ K) fd) ∧ PySem.W.keepIn K (.ref (at_ K)) = true := by
  obtain ⟨e, c3⟩ := c.at_ i h
  exact ⟨fun_at e c3, (He.ba (show okA K (at_ K) d = true from c3)).1⟩
theorem Says.init_ (c : Says fa fn K) (i : Nat) {at_ C : PySem.W.Frag → Addr} {d : He.DefD} {file : Str} (h : fn[i]? = some ⟨at_, d, some (C, file)⟩ := by rfl) : PySem.W.keepIn K (.ref (at_ K)) = true ∧
    ∃ (od : Option Addr) (doc pm ctv : Value) (an : Option Addr) (osl : Array (Option Value)) (c cc : Addr) (oc ocl : Obj) (vs : Array Value) (tf : Tok),
      K.lookup (at_ K) = some ⟨.type "function", od, .func (PySem.W.fnX "__init__" d.qual d.params d.body d.scope [("__class__", cc)] .none .none doc pm an (.ref c) ctv), osl⟩ ∧ PySem.W.codeIn K (.ref c) d.qual = true ∧
        K.lookup c = some oc ∧ oc.data = .fields vs ∧ vs[2]? = some (.str file tf) ∧ K.lookup cc = some ocl ∧ ocl.data = .cell (some (.ref (C K))) := by
  obtain ⟨e, c3⟩ := c.at_ i h
  exact init_at e c3
end
/-! single facts -/
/-- where the property f of the class C has its getter -/
def propAt (K : PySem.W.Frag) (C : Addr) (f : Str) : Addr := match PySem.W.findIn K (.ref C) f with
  | some (some (.ref p)) => p
  | _ => 0
def getAt (K : PySem.W.Frag) (C : Addr) (f : Str) : Addr := match PySem.W.recIn K (propAt K C f) "property" with
  | some (.ref g :: _) => g
  | _ => 0
def propB (K : PySem.W.Frag) (C : Addr) (f : Str) : Bool := decide (PySem.W.findIn K (.ref C) f = some (some (.ref (propAt K C f)))) && (decide (PySem.W.specialIn K (.ref (propAt K C f)) "__get__" = some (some (.builtin "property.__get__"))) &&
  (decide (PySem.W.takesIn K (.ref (propAt K C f)) = some true) && (match PySem.W.recIn K (propAt K C f) "property" with
    | some (v :: _) => decide (v = .ref (getAt K C f))
    | _ => false)))
theorem prop_ok {K : PySem.W.Frag} {C : Addr} {f : Str} (h : propB K C f = true) : PropOf K C f (propAt K C f) (getAt K C f) := by
  obtain ⟨h1, h⟩ := He.ba h
  obtain ⟨h2, h⟩ := He.ba h
  obtain ⟨h3, h4⟩ := He.ba h
  refine ⟨of_decide_eq_true h1, of_decide_eq_true h2, of_decide_eq_true h3, ?_⟩
  cases e : PySem.W.recIn K (propAt K C f) "property" with
  | none => rw [e] at h4; cases h4
  | some l =>
    rw [e] at h4
    cases l with
    | nil => cases h4
    | cons v r => exact ⟨r, by rw [show v = _ from of_decide_eq_true h4]⟩
def bltB (x : Str) (id : String) (K : PySem.W.Frag) : Bool := decide (PySem.W.nsIn K mainGlobals x = some (some (.builtin id)))
theorem blt_ok {K : PySem.W.Frag} {h : Heap} {mg : Str → Option Value} (X : K.In h) (G : h.Ns mainGlobals mg) {x : Str} {id : String} (c : bltB x id K = true) : mg x = some (.builtin id) := PySem.W.mg_of X G (of_decide_eq_true c)
def fcB (f : He.Fa) (K : PySem.W.Frag) : Bool := f.ok K

/-- the class method m of the class C: its record, its def -/
def cmAt (K : PySem.W.Frag) (C : Addr) (m : Str) : Addr := match PySem.W.findIn K (.ref C) m with
  | some (some (.ref p)) => p
  | _ => 0
def cmFn (K : PySem.W.Frag) (C : Addr) (m : Str) : Addr := match PySem.W.recIn K (cmAt K C m) "classmethod" with
  | some (.ref g :: _) => g
  | _ => 0
def cmB (K : PySem.W.Frag) (C : Addr) (m : Str) : Bool := PySem.W.readsIn K C (.type "type") && (decide (PySem.W.specialIn K (.ref C) "__getattribute__" = some (some (.builtin "type.__getattribute__"))) && ((match PySem.W.findCls K (.ref C) (.type "type") m with
    | some (.get a b c d) => decide (a = .builtin "classmethod.__get__") && (decide (b = .ref (cmAt K C m)) && (decide (c = .none) && decide (d = .ref C)))
    | _ => false) && ((match PySem.W.recIn K (cmAt K C m) "classmethod" with
    | some (v :: _) => decide (v = .ref (cmFn K C m))
    | _ => false) && PySem.W.fnIn K (cmFn K C m))))
theorem cm_ok {K : PySem.W.Frag} {C : Addr} {m : Str} (h : cmB K C m = true) : ClX.CRead K C (.type "type") ∧ ClX.CMet K C (.type "type") m (cmAt K C m) (cmFn K C m) := by
  obtain ⟨h1, h⟩ := He.ba h
  obtain ⟨h2, h⟩ := He.ba h
  obtain ⟨h3, h⟩ := He.ba h
  obtain ⟨h4, h5⟩ := He.ba h
  refine ⟨⟨h1, of_decide_eq_true h2⟩, ?_, ?_, h5⟩
  · cases e : PySem.W.findCls K (.ref C) (.type "type") m with
    | none => rw [e] at h3; cases h3
    | some z =>
      rw [e] at h3
      cases z with
      | get a b c d =>
        obtain ⟨z1, z⟩ := He.ba (show (decide (a = .builtin "classmethod.__get__") && (decide (b = .ref (cmAt K C m)) && (decide (c = .none) && decide (d = .ref C)))) = true from h3)
        obtain ⟨z2, z⟩ := He.ba z
        obtain ⟨z3, z4⟩ := He.ba z
        rw [of_decide_eq_true z1, of_decide_eq_true z2, of_decide_eq_true z3, of_decide_eq_true z4]
      | _ => cases h3
  · cases e : PySem.W.recIn K (cmAt K C m) "classmethod" with
    | none => rw [e] at h4; cases h4
    | some l =>
      rw [e] at h4
      cases l with
      | nil => cases h4
      | cons v r => exact ⟨r, by rw [show v = _ from of_decide_eq_true h4]⟩
/-- a tuple of texts of the module -/
def strsB : List Value → List Str → Bool
  | [], [] => true
  | .str x _ :: r, y :: s => decide (x = y) && strsB r s
  | _, _ => false
theorem strs_ok : ∀ {l : List Value} {ss : List Str}, strsB l ss = true → Vals (ss.map V.str) l
  | [], [], _ => .nil
  | [], _ :: _, h => by cases h
  | v :: r, ss, h => by
    cases v with
    | str x t =>
      cases ss with
      | nil => cases h
      | cons y s =>
        obtain ⟨h1, h2⟩ := He.ba (show (decide (x = y) && strsB r s) = true from h)
        rw [List.map_cons]
        exact .cons ⟨t, by rw [of_decide_eq_true h1]⟩ (strs_ok h2)
    | _ => cases h
def tupB (x : Str) (ss : List Str) (K : PySem.W.Frag) : Bool := match K.lookup (He.ga K x) with
  | some ⟨.type c, _, .seq its _, _⟩ => decide (c = "tuple") && (decide (its.size ≤ 1000) && strsB its.toList ss)
  | _ => false
theorem tup_ok {K : PySem.W.Frag} {x : Str} {ss : List Str} (h : tupB x ss K = true) (H : Hp) : SqT K H (He.ga K x) (ss.map V.str) := by
  unfold tupB at h
  cases q : K.lookup (He.ga K x) with
  | none => rw [q] at h; cases h
  | some o =>
    obtain ⟨oc, od, dt, osl⟩ := o
    rw [q] at h
    cases oc with
    | type c =>
      cases dt with
      | seq its n =>
        obtain ⟨h1, h⟩ := He.ba (show (decide (c = "tuple") && (decide (its.size ≤ 1000) && strsB its.toList ss)) = true from h)
        obtain ⟨h2, h3⟩ := He.ba h
        refine .inr ⟨_, its, n, q, congrArg Value.type (of_decide_eq_true h1), rfl, ?_, strs_ok h3⟩
        have := of_decide_eq_true h2
        rw [sizeLine_eq]
        omega
      | _ => cases h
    | _ => cases dt <;> cases h
/-- a place, as a value -/
abbrev vnI (i : Nat) : V := .int (i : Int)

/-! named readings -/
namespace Rd
def rJoin (K : PySem.W.Frag) : V → List V → Hp → VK → Prop := fun x xs H Q => ∃ a p, ∃ ys : List Str, x = .str a ∧ xs = [.ref p] ∧ (SqL K H p (ys.map V.str) ∨ SqT K H p (ys.map V.str)) ∧ (ys.map (·.length)).sum + ys.length * a.length ≤ 16777216 ∧ Q (.str (Txt.join a ys)) H
def rSplit : V → List V → Hp → VK → Prop := fun x xs H Q => ∃ a b, x = .str a ∧ xs = [.str b] ∧ (b.length == 0) = false ∧ a.length + 2 ≤ sizeLine ∧ rNewStrs (Txt.split a b) H Q
def rMax2 : List V → Hp → VK → Prop := fun xs H Q => ∃ i j, xs = [.int i, .int j] ∧ Q (.int (if j > i then j else i)) H
def rMin2 : List V → Hp → VK → Prop := fun xs H Q => ∃ i j, xs = [.int i, .int j] ∧ Q (.int (if j < i then j else i)) H
def rIsN : R2 := fun x y H Q => y = .non ∧ Q (.bl (decide (x = .non))) H
def rNotN : R2 := fun x y H Q => y = .non ∧ Q (.bl (!decide (x = .non))) H
def rLst (K : PySem.W.Frag) : List V → Hp → VK → Prop := fun xs H Q => ∃ p ys, xs = [.ref p] ∧ (SqL K H p ys ∨ SqT K H p ys) ∧ ∀ l, H l = none → Q (.ref l) (upd H l (.lst ys))
def rTpl (K : PySem.W.Frag) : List V → Hp → VK → Prop := fun xs H Q => ∃ p ys, xs = [.ref p] ∧ ((SqL K H p ys ∧ ∀ l, H l = none → Q (.ref l) (upd H l (.tup ys))) ∨ (SqT K H p ys ∧ Q (.ref p) H))
def rInt1 : List V → Hp → VK → Prop := fun xs H Q => (∃ i, xs = [V.int i] ∧ Q (V.int i) H) ∨ ∃ k, xs = [V.bl k] ∧ Q (V.int (if k = true then 1 else 0)) H
def rStrI : List V → Hp → VK → Prop := fun xs H Q => ∃ i : Int, xs = [.int i] ∧ i.natAbs.log2 < 1920 ∧ Q (.str (toString i)) H
def rAddS : R2 := fun x y H Q => ∃ i j, x = .str i ∧ y = .str j ∧ i.length + j.length ≤ sizeLine ∧ Q (.str (i ++ j)) H
def rLenStr : List V → Hp → VK → Prop := fun xs H Q => ∃ z, xs = [.str z] ∧ z.length ≤ sizeLine ∧ Q (.int z.length) H
end Rd
section
variable {X : Cx} {o e : Expr} {to te : TE} {K : PySem.W.Frag}
theorem pe_fldK {f : Str} {pos : Pos} {ta : TE} (he : PE X e ta) (hb : attributeBase e f X.env (eval e X.env) = eval e X.env) (hK : X.K = K := by rfl) : PE X (.Attribute e f pos) (tFld K ta f) := hK ▸ pe_fld he hb
theorem repTK (hK : X.K = K := by rfl) : OpR X (binaryOp .Mult) (rRepT K) := hK ▸ op_repT
theorem starAK {e : Expr} {p : Pos} {es : List Expr} {te : TE} {t : TA} (he : PE X e te) (hr : PA X es t) (hK : X.K = K := by rfl) (hs : starEach (.Starred e p :: es) X.env = (true, eval e X.env) :: starEach es X.env := by rfl) : PA X (.Starred e p :: es) (StX.tStar K te t) := hK ▸ StX.pa_star he hr hs
theorem ixLK (hK : X.K = K := by rfl) : IxR X (rIxL K) := hK ▸ ix_list
theorem ixTK (hK : X.K = K := by rfl) : IxR X (rIxT K) := hK ▸ ix_tup
theorem ixSK (hK : X.K = K := by rfl) : IxR X (rIx K) := hK ▸ ix_seq
theorem lenK (hK : X.K = K := by rfl) : CallR X (.builtin "len") (Evl.rLenS K) := hK ▸ call_len_seq
theorem tplK (hK : X.K = K := by rfl) : CallR X (.type "tuple") (Rd.rTpl K) := hK ▸ call_tuple_of
theorem lstK (hK : X.K = K := by rfl) : CallR X (.type "list") (Rd.rLst K) := hK ▸ call_list_of
theorem slLK (hK : X.K = K := by rfl) : SlR X (rSlL K) := hK ▸ sl_list
theorem slAK (hK : X.K = K := by rfl) : SlR X (rSlA K) := hK ▸ sl_tupA
theorem eqDK (hu : X.A.units + 64 < cLine) (hK : X.K = K := by rfl) : OpR X (compareOp .Eq) (rEqD K) := hK ▸ op_eqD hu
theorem neDK (hu : X.A.units + 64 < cLine) (hK : X.K = K := by rfl) : OpR X (compareOp .NotEq) (rNeD K) := hK ▸ op_neD hu
theorem inK (hK : X.K = K := by rfl) : OpR X (compareOp .In) (rIn K false) := hK ▸ op_in_seq
theorem notInK (hK : X.K = K := by rfl) : OpR X (compareOp .NotIn) (rIn K true) := hK ▸ op_notIn_seq
theorem sumTK (hc : X.calm = true := by rfl) (hK : X.K = K := by rfl) : CallR X (.builtin "sum") (rSumT K) := hK ▸ cr_sumT hc
theorem sumLK (hc : X.calm = true := by rfl) (hK : X.K = K := by rfl) : CallR X (.builtin "sum") (rSum K) := hK ▸ cr_sum hc
theorem maxLK (hc : X.calm = true := by rfl) (hK : X.K = K := by rfl) : CallR X (.builtin "max") (rMax K) := hK ▸ cr_max hc
theorem minLK (hc : X.calm = true := by rfl) (hK : X.K = K := by rfl) : CallR X (.builtin "min") (rMin K) := hK ▸ cr_min hc
theorem allLK (hc : X.calm = true := by rfl) (hK : X.K = K := by rfl) : CallR X (.builtin "all") (rAll K) := hK ▸ cr_all hc
theorem isiK (hK : X.K = K := by rfl) : CallR X (.builtin "isinstance") (rIsi K) := hK ▸ call_isi
theorem catAK (hK : X.K = K := by rfl) : OpR X (binaryOp .Add) (rCatA K) := hK ▸ op_catA
theorem pi_listK {tg l : Expr} {tl : TE} (hl : PE X l tl) (hK : X.K = K := by rfl) : PI X tg l (iList K tl) := hK ▸ pi_list hl
theorem pi_tupK {tg l : Expr} {tl : TE} (hl : PE X l tl) (hK : X.K = K := by rfl) : PI X tg l (iTup K tl) := hK ▸ pi_tup hl
theorem pe_joinR {apos pos : Pos} (ho : PE X o to) (he : PE X e te) (hK : X.K = K := by rfl) (hs : starEach [e] X.env = [(false, eval e X.env)] := by rfl) (hbase : attributeBase o "join" X.env (eval o X.env) = eval o X.env := by rfl) (hline : (apos.endLine == pos.line) = true := by rfl) :
    PE X (.Call (.Attribute o "join" apos) [e] [] pos) (tM1 (Rd.rJoin K) to te) := by
  subst hK
  exact pe_join ho he hs hbase hline
theorem pe_splitR {apos pos : Pos} (ho : PE X o to) (he : PE X e te) (hs : starEach [e] X.env = [(false, eval e X.env)] := by rfl) (hbase : attributeBase o "split" X.env (eval o X.env) = eval o X.env := by rfl) (hline : (apos.endLine == pos.line) = true := by rfl) :
    PE X (.Call (.Attribute o "split" apos) [e] [] pos) (tM1 Rd.rSplit to te) := pe_split ho he hs hbase hline
end
/-! small words -/
theorem own_cx {X : Cx} {K : Value → Shared → Prop} {E₁ : Value → Shared → Prop} (hx : X.xe = fun e s' => wpAny (model X.prog X.w) X.A (leaving X.env e) (fun _ s'' => K e s'') E₁ s' := by rfl) : PassesOwn (model X.prog X.w) X.A X.env X.xe := passes_of hx
theorem FnP.okF {P : Program} {w : World} {K : PySem.W.Frag} {mg : Str → Option Value} {base : Heap} {x qual : Str} {st : Stmt} {f : Addr} {N ps : List Str} {k : Nat} {sp : Sp} (F : ∃ fd, FnP K x qual st f fd) (S : FnScope N ps (defScope st))
    (hb : ∀ (kV doc pm : Value) (an : Option Addr) (cdv ct : Value) (us : List Value), us.length = ps.length → bindArgs (PySem.W.fnOf x qual (defArgs st) (defBody st) (defScope st) .none kV doc pm an cdv ct) ⟨us, []⟩ = pure (ps.zip us))
    (len : ∀ vs H Q E, sp vs H Q E → vs.length = ps.length)
    (hbody : ∀ (cdv : Value) (A : Around) (outer : List Env) (s : Shared) (H : Hp) (vs : List V) (Q : VK) (E : XK), Room k (A.deeper (envOfC qual (defScope st) s.heap.objs.size f cdv)) → sp vs H Q E →
      ∃ t, PSs (cxOf (L2.CX P w) P w K mg base N qual (defScope st) f cdv A outer s H E) (defBody st) t ∧ t { nx := fun _ H' => Q .non H', rt := Q } (start N vs) H) : OkF P w K mg base (k + 1) f ps sp := by
  obtain ⟨fd, F⟩ := F
  exact ⟨⟨fd, F.ok S len hbody, F.bindsN hb⟩, F.kp⟩
/-- the law's own def: nothing leaves it -/
theorem okLaw {P : Program} {w : World} {K : PySem.W.Frag} {mg : Str → Option Value} {base : Heap} {x qual : Str} {st : Stmt} {f : Addr} {fd : FuncData} {N ps : List Str} {k : Nat} {sp : Sp} (F : FnP K x qual st f fd) (S : FnScope N ps (defScope st)) (len : ∀ vs H Q E, sp vs H Q E → vs.length = ps.length)
    (hbody : ∀ (cdv : Value) (A : Around) (outer : List Env) (s : Shared) (H : Hp) (vs : List V) (Q : VK) (E : XK), Room k (A.deeper (envOfC qual (defScope st) s.heap.objs.size f cdv)) → sp vs H Q E →
      ∃ t, PSs (cxOf CX0 P w K mg base N qual (defScope st) f cdv A outer s H E).nox (defBody st) t ∧ t { nx := fun _ H' => Q .non H', rt := Q } (start N vs) H) : FnOk P w K mg base CX0 (k + 1) f fd ps sp :=
  F.ok S len fun cdv A outer s H vs Q E hr h => by
    obtain ⟨t, h1, h2⟩ := hbody cdv A outer s H vs Q E hr h
    exact ⟨t, h1.nox, h2⟩
def spLaw (K : PySem.W.Frag) : Sp := fun vs H Q _ => ∃ (a : Addr) (ns : List Int), vs = [.ref a] ∧ SqL K H a (ns.map V.int) ∧ ns.length ≤ 63 ∧ ∀ H', Q (.bl true) H'
/-- the same, the tables of the defs that make functions there -/
def spLawT (K : PySem.W.Frag) (T : List (Addr × Str)) : Sp := fun vs H Q _ => ∃ (a : Addr) (ns : List Int), vs = [.ref a] ∧ SqL K H a (ns.map V.int) ∧ ns.length ≤ 63 ∧ LamX.Tabs T H ∧ ∀ H', Q (.bl true) H'
/-- all but what stands at d is as it was -/
def But (d : Addr) (H H' : Hp) : Prop := ∀ b o, b ≠ d → H b = some o → H' b = some o
end Tk
/-! ### Error classes: what is looked at -/
namespace Tk
open PySem PySem.Spec PyProof.Rows L2
namespace Ex
/-- what the written part says of the class beside OexC: of super().__init__ -/
structure SupC (K : PySem.W.Frag) (C : Addr) : Prop where
  oex : OexC K C
  up : PySem.W.ks_superIn K C C "__init__" = some (some (.builtin "ValueError.__init__"))
  op : PySem.W.nsIn K cStatics "thirdparty.any" = some none
  self : PySem.W.subIn K (.ref C) (.ref C) = some true
  ve : PySem.W.subIn K (.ref C) (.type "ValueError") = some true
def oexB (K : PySem.W.Frag) (C : Addr) : Bool := (match K.lookup C with
  | some ⟨.type "type", _, .cls cd, sl⟩ => (match cd.mro, sl.toList with
    | .ref C' :: bm, [_, _, _, _, some (.builtin n), _] => decide (C' = C) && (decide (n = "ValueError.__new__") && (PySem.HandSPX.refsVE bm && (cd.hasDict && !cd.hasDel)))
    | _, _ => false)
  | _ => false) && (decide (PySem.W.findIn K (.ref C) "__setattr__" = some (some (.builtin "object.__setattr__"))) && (decide (PySem.W.subIn K (.ref C) (.type "BaseException") = some true) && (decide (PySem.W.typeIn K (.ref C) = some (.type "type")) && PySem.W.keepIn K (.ref C))))
theorem oexB_ok {K : PySem.W.Frag} {C : Addr} (h : oexB K C = true) : OexC K C := by
  obtain ⟨h1, h⟩ := He.ba h
  obtain ⟨h2, h⟩ := He.ba h
  obtain ⟨h3, h⟩ := He.ba h
  obtain ⟨h4, h5⟩ := He.ba h
  refine ⟨?_, of_decide_eq_true h2, of_decide_eq_true h3, of_decide_eq_true h4, h5⟩
  split at h1
  · rename_i dd cd sl ho
    split at h1
    · rename_i C' bm k0 k1 k2 k3 n k5 hm hs
      obtain ⟨e1, h1⟩ := He.ba h1
      obtain ⟨e2, h1⟩ := He.ba h1
      obtain ⟨e3, h1⟩ := He.ba h1
      obtain ⟨e4, e5⟩ := He.ba h1
      obtain rfl := of_decide_eq_true e1
      obtain rfl := of_decide_eq_true e2
      obtain ⟨nm, bs, mro, ns, qn, hd, sn, sub, ab, col, del⟩ := cd
      dsimp only at hm e4 e5
      subst hm e4
      have e5 : del = false := by
        cases del with
        | true => cases e5
        | false => rfl
      subst e5
      have hsl : sl = #[k0, k1, k2, k3, some (.builtin "ValueError.__new__"), k5] := by
        obtain ⟨l⟩ := sl
        simp only at hs
        rw [hs]
      subst hsl
      exact ⟨nm, qn, ns, bs, bm, sn, sub, ab, col, dd, k0, k1, k2, k3, k5, ho, e3⟩
    · cases h1
  · cases h1
/-- a class with an own __init__ that says super().__init__(..), the attributes fs -/
def supB (x : Str) (fs : List Str) (K : PySem.W.Frag) : Bool := oexB K (He.ga K x) && (decide (PySem.W.ks_superIn K (He.ga K x) (He.ga K x) "__init__" = some (some (.builtin "ValueError.__init__"))) && (decide (PySem.W.nsIn K cStatics "thirdparty.any" = some none) &&
  (decide (PySem.W.subIn K (.ref (He.ga K x)) (.ref (He.ga K x)) = some true) && (decide (PySem.W.subIn K (.ref (He.ga K x)) (.type "ValueError") = some true) && (decide (PySem.W.findIn K (.ref (He.ga K x)) "__init__" = some (some (.ref (He.ma K (He.ga K x) "__init__")))) &&
    (decide (PySem.W.typeIn K (.ref (He.ma K (He.ga K x) "__init__")) = some (.type "function")) && fs.all fun f => decide (PySem.W.findIn K (.ref (He.ga K x)) f = some none)))))))
structure SupX (K : PySem.W.Frag) (x : Str) (fs : List Str) : Prop where
  sup : SupC K (He.ga K x)
  iC : PySem.W.findIn K (.ref (He.ga K x)) "__init__" = some (some (.ref (He.ma K (He.ga K x) "__init__")))
  tI : PySem.W.typeIn K (.ref (He.ma K (He.ga K x) "__init__")) = some (.type "function")
  no : ∀ f ∈ fs, PySem.W.findIn K (.ref (He.ga K x)) f = some none
theorem supB_ok {x : Str} {fs : List Str} {K : PySem.W.Frag} (h : supB x fs K = true) : SupX K x fs := by
  obtain ⟨h1, h⟩ := He.ba h
  obtain ⟨h2, h⟩ := He.ba h
  obtain ⟨h3, h⟩ := He.ba h
  obtain ⟨h4, h⟩ := He.ba h
  obtain ⟨h5, h⟩ := He.ba h
  obtain ⟨h6, h⟩ := He.ba h
  obtain ⟨h7, h8⟩ := He.ba h
  exact ⟨⟨oexB_ok h1, of_decide_eq_true h2, of_decide_eq_true h3, of_decide_eq_true h4, of_decide_eq_true h5⟩, of_decide_eq_true h6, of_decide_eq_true h7, fun f hf => of_decide_eq_true (List.all_eq_true.mp h8 f hf)⟩
/-- what every error class says, so that isinstance and the reading of its attributes go -/
def isB (x : Str) (K : PySem.W.Frag) : Bool := (PySem.W.clsIn K (He.ga K x)).isSome && (decide (PySem.W.findIn K (.ref (He.ga K x)) "__getattribute__" = some (some (.builtin "BaseException.__getattribute__"))) && (decide (PySem.W.findIn K (.ref (He.ga K x)) "__getattr__" = some none) &&
  (decide (PySem.W.subIn K (.ref (He.ga K x)) (.type "BaseException") = some true) && (decide (PySem.W.findIn K (.ref (He.ga K x)) "__class__" = some (some (.builtin "object.__class__"))) && (decide (PySem.W.specialIn K (.builtin "object.__class__") "__get__" = some (some (.builtin "getset_descriptor.__get__"))) &&
    (decide (PySem.W.takesIn K (.builtin "object.__class__") = some true) && (decide (PySem.W.mroIn K (He.ga K x) (.type "object") = some true) && PySem.W.hasDictIn K (He.ga K x))))))))
structure IsX (K : PySem.W.Frag) (C : Addr) : Prop where
  cl : (PySem.W.clsIn K C).isSome = true
  hg : PySem.W.findIn K (.ref C) "__getattribute__" = some (some (.builtin "BaseException.__getattribute__"))
  hk : PySem.W.findIn K (.ref C) "__getattr__" = some none
  hs : PySem.W.subIn K (.ref C) (.type "BaseException") = some true
  ha : PySem.W.findIn K (.ref C) "__class__" = some (some (.builtin "object.__class__"))
  hn : PySem.W.specialIn K (.builtin "object.__class__") "__get__" = some (some (.builtin "getset_descriptor.__get__"))
  ht : PySem.W.takesIn K (.builtin "object.__class__") = some true
  hm : PySem.W.mroIn K C (.type "object") = some true
  hd : PySem.W.hasDictIn K C = true
theorem isB_ok {x : Str} {K : PySem.W.Frag} (h : isB x K = true) : IsX K (He.ga K x) := by
  obtain ⟨h1, h⟩ := He.ba h
  obtain ⟨h2, h⟩ := He.ba h
  obtain ⟨h3, h⟩ := He.ba h
  obtain ⟨h4, h⟩ := He.ba h
  obtain ⟨h5, h⟩ := He.ba h
  obtain ⟨h6, h⟩ := He.ba h
  obtain ⟨h7, h⟩ := He.ba h
  obtain ⟨h8, h9⟩ := He.ba h
  exact ⟨h1, of_decide_eq_true h2, of_decide_eq_true h3, of_decide_eq_true h4, of_decide_eq_true h5, of_decide_eq_true h6, of_decide_eq_true h7, of_decide_eq_true h8, h9⟩
/-- which is an instance of which -/
def kitB (xs : List Str) (K : PySem.W.Frag) : Bool := xs.all fun x => decide (PySem.W.kitOne K (.ref (He.ga K x)) (.type "ValueError") = some true) && xs.all fun y => decide (PySem.W.kitOne K (.ref (He.ga K x)) (.ref (He.ga K y)) = some (decide (x = y)))
structure KitX (xs : List Str) (K : PySem.W.Frag) : Prop where
  ve : ∀ x ∈ xs, PySem.W.kitOne K (.ref (He.ga K x)) (.type "ValueError") = some true
  two : ∀ x ∈ xs, ∀ y ∈ xs, PySem.W.kitOne K (.ref (He.ga K x)) (.ref (He.ga K y)) = some (decide (x = y))
theorem kitB_ok {xs : List Str} {K : PySem.W.Frag} (h : kitB xs K = true) : KitX xs K :=
  ⟨fun x hx => of_decide_eq_true (He.ba (List.all_eq_true.mp h x hx)).1, fun x hx y hy => of_decide_eq_true (List.all_eq_true.mp (He.ba (List.all_eq_true.mp h x hx)).2 y hy)⟩
def InitAt (K : PySem.W.Frag) (a C : Addr) (qual : Str) (params : Arguments) (body : List Stmt) (scope : Scope) (file : Str) : Prop := PySem.W.keepIn K (.ref a) = true ∧
    ∃ (od : Option Addr) (doc pm ctv : Value) (an : Option Addr) (osl : Array (Option Value)) (c cc : Addr) (oc ocl : Obj) (vs : Array Value) (tf : Tok),
      K.lookup a = some ⟨.type "function", od, .func (PySem.W.fnX "__init__" qual params body scope [("__class__", cc)] .none .none doc pm an (.ref c) ctv), osl⟩ ∧ PySem.W.codeIn K (.ref c) qual = true ∧
        K.lookup c = some oc ∧ oc.data = .fields vs ∧ vs[2]? = some (.str file tf) ∧ K.lookup cc = some ocl ∧ ocl.data = .cell (some (.ref C))
end Ex
end Tk
/-! ### B. The text by places -/
namespace Tk
open PySem PySem.Spec PyProof.Rows L2
def top (i : Nat) : Stmt := PySem.Challenge.pw_ticketwrap_k21_invalid_bytes.main.body.getD i (.Pass ⟨0, 0, 0, 0⟩)
abbrev s_xi_InvalidHall : Stmt := inClass (top 4) 0
abbrev N_xi_InvalidHall : List Str := ["self", "part", "index", "__class__"]
theorem sc_xi_InvalidHall : NdefX.NScope N_xi_InvalidHall ["self", "part", "index"] ["__class__"] (defScope s_xi_InvalidHall) := NdefX.nscope_by (by decide +kernel)
abbrev s_xi_InvalidCode : Stmt := inClass (top 12) 0
abbrev N_xi_InvalidCode : List Str := ["self", "place", "__class__"]
theorem sc_xi_InvalidCode : NdefX.NScope N_xi_InvalidCode ["self", "place"] ["__class__"] (defScope s_xi_InvalidCode) := NdefX.nscope_by (by decide +kernel)
abbrev s_is_integer_within : Stmt := top 18
abbrev N_is_integer_within : List Str := ["value", "low", "high"]
theorem sc_is_integer_within : FnScope N_is_integer_within ["value", "low", "high"] (defScope s_is_integer_within) := ⟨rfl, rfl, rfl, by decide +kernel, rfl, by decide +kernel, by decide +kernel⟩
abbrev s_first_invalid_item : Stmt := top 35
abbrev N_first_invalid_item : List Str := ["pattern", "index", "item"]
theorem sc_first_invalid_item : FnScope N_first_invalid_item ["pattern"] (defScope s_first_invalid_item) := ⟨rfl, rfl, rfl, by decide +kernel, rfl, by decide +kernel, by decide +kernel⟩
abbrev s_check_pattern : Stmt := top 36
abbrev N_check_pattern : List Str := ["part", "pattern", "index"]
theorem sc_check_pattern : FnScope N_check_pattern ["part", "pattern"] (defScope s_check_pattern) := ⟨rfl, rfl, rfl, by decide +kernel, rfl, by decide +kernel, by decide +kernel⟩
abbrev s_check_hall : Stmt := top 37
abbrev N_check_hall : List Str := ["modulus", "takes", "calls", "lateness"]
theorem sc_check_hall : FnScope N_check_hall ["modulus", "takes", "calls", "lateness"] (defScope s_check_hall) := ⟨rfl, rfl, rfl, by decide +kernel, rfl, by decide +kernel, by decide +kernel⟩
abbrev s_count_calls : Stmt := top 38
abbrev N_count_calls : List Str := ["takes", "calls", "ticks", "called", "waiting", "tick", "now"]
theorem sc_count_calls : FnScope N_count_calls ["takes", "calls", "ticks"] (defScope s_count_calls) := ⟨rfl, rfl, rfl, by decide +kernel, rfl, by decide +kernel, by decide +kernel⟩
abbrev s_init : Stmt := inClass (top 39) 0
abbrev N_init : List Str := ["self", "modulus", "takes", "calls", "lateness"]
theorem sc_init : FnScope N_init ["self", "modulus", "takes", "calls", "lateness"] (defScope s_init) := ⟨rfl, rfl, rfl, by decide +kernel, rfl, by decide +kernel, by decide +kernel⟩
abbrev s_period : Stmt := inClass (top 39) 1
abbrev N_period : List Str := ["self"]
theorem sc_period : FnScope N_period ["self"] (defScope s_period) := ⟨rfl, rfl, rfl, by decide +kernel, rfl, by decide +kernel, by decide +kernel⟩
abbrev s_checksum : Stmt := top 43
abbrev N_checksum : List Str := ["code"]
theorem sc_checksum : FnScope N_checksum ["code"] (defScope s_checksum) := ⟨rfl, rfl, rfl, by decide +kernel, rfl, by decide +kernel, by decide +kernel⟩
abbrev s_encode : Stmt := top 44
abbrev N_encode : List Str := ["hall", "modulus", "code"]
theorem sc_encode : FnScope N_encode ["hall"] (defScope s_encode) := ⟨rfl, rfl, rfl, by decide +kernel, rfl, by decide +kernel, by decide +kernel⟩
abbrev s_read_byte : Stmt := top 45
abbrev N_read_byte : List Str := ["code", "place", "least", "greatest"]
theorem sc_read_byte : FnScope N_read_byte ["code", "place", "least", "greatest"] (defScope s_read_byte) := ⟨rfl, rfl, rfl, by decide +kernel, rfl, by decide +kernel, by decide +kernel⟩
abbrev s_read_modulus : Stmt := top 46
abbrev N_read_modulus : List Str := ["code", "place", "above", "least", "greatest"]
theorem sc_read_modulus : FnScope N_read_modulus ["code", "place"] (defScope s_read_modulus) := ⟨rfl, rfl, rfl, by decide +kernel, rfl, by decide +kernel, by decide +kernel⟩
abbrev s_read_pattern : Stmt := top 47
abbrev N_read_pattern : List Str := ["code", "place", "length", "index"]
theorem sc_read_pattern : FnScope N_read_pattern ["code", "place"] (defScope s_read_pattern) := ⟨rfl, rfl, rfl, by decide +kernel, rfl, by decide +kernel, by decide +kernel⟩
abbrev s_decode : Stmt := top 48
abbrev N_decode : List Str := ["code", "modulus", "takes", "calls_place", "calls", "lateness_place", "lateness", "last_place", "last"]
theorem sc_decode : FnScope N_decode ["code"] (defScope s_decode) := ⟨rfl, rfl, rfl, by decide +kernel, rfl, by decide +kernel, by decide +kernel⟩
abbrev s__law_random : Stmt := top 50
abbrev N__law_random : List Str := ["_law_script", "_law_salt", "_law_seed", "_law_cell"]
theorem sc__law_random : FnScope N__law_random ["_law_script", "_law_salt"] (defScope s__law_random) := ⟨rfl, rfl, rfl, by decide +kernel, rfl, by decide +kernel, by decide +kernel⟩
abbrev s__law_hall : Stmt := top 51
abbrev N__law_hall : List Str := ["_law_parts_here"]
theorem sc__law_hall : FnScope N__law_hall ["_law_parts_here"] (defScope s__law_hall) := ⟨rfl, rfl, rfl, by decide +kernel, rfl, by decide +kernel, by decide +kernel⟩
abbrev s__law_below : Stmt := top 52
abbrev N__law_below : List Str := ["_law_d", "_law_limit", "_law_result"]
theorem sc__law_below : FnScope N__law_below ["_law_d", "_law_limit"] (defScope s__law_below) := ⟨rfl, rfl, rfl, by decide +kernel, rfl, by decide +kernel, by decide +kernel⟩
abbrev s__law_pattern : Stmt := top 53
abbrev N__law_pattern : List Str := ["_law_d", "_law_most", "_law_high", "_law_k"]
theorem sc__law_pattern : FnScope N__law_pattern ["_law_d", "_law_most"] (defScope s__law_pattern) := ⟨rfl, rfl, rfl, by decide +kernel, rfl, by decide +kernel, by decide +kernel⟩
abbrev s__law_parts : Stmt := top 54
abbrev N__law_parts : List Str := ["_law_d", "_law_most", "_law_modulus", "_law_lateness"]
theorem sc__law_parts : FnScope N__law_parts ["_law_d", "_law_most"] (defScope s__law_parts) := ⟨rfl, rfl, rfl, by decide +kernel, rfl, by decide +kernel, by decide +kernel⟩
abbrev s__law_error_of : Stmt := top 55
abbrev N__law_error_of : List Str := ["_law_call", "e", "_law_kinds", "_law_names", "_law_name"]
theorem sc__law_error_of : FnScope N__law_error_of ["_law_call"] (defScope s__law_error_of) := ⟨rfl, rfl, rfl, by decide +kernel, rfl, by decide +kernel, by decide +kernel⟩
abbrev s_law : Stmt := top 56
abbrev N_law : List Str := ["_law_script", "_law_head", "_law_cases", "_law_place", "_law_largest", "_law_at", "_law_bad", "_law_code", "_law_d", "_law_extra", "_law_none", "_law_odd", "_law_wrong", "_law_k"]
theorem sc_law : FnScope N_law ["_law_script"] (defScope s_law) := ⟨rfl, rfl, rfl, by decide +kernel, rfl, by decide +kernel, by decide +kernel⟩
structure Txt (K : PySem.W.Frag) (mg : Str → Option Value) : Prop where
  g_ValueError : mg "ValueError" = none
  g_abs : mg "abs" = none
  g_bool : mg "bool" = none
  g_enumerate : mg "enumerate" = none
  g_int : mg "int" = none
  g_isinstance : mg "isinstance" = none
  g_len : mg "len" = none
  g_list : mg "list" = none
  g_max : mg "max" = none
  g_min : mg "min" = none
  g_range : mg "range" = none
  g_sum : mg "sum" = none
  g_super : mg "super" = none
  g_tuple : mg "tuple" = none
  g_lcm : mg "lcm" = some (.builtin "math.lcm")
  c_LEAST_MODULUS : ∃ t, mg "LEAST_MODULUS" = some (.int 2 t)
  c_GREATEST_MODULUS : ∃ t, mg "GREATEST_MODULUS" = some (.int 10000 t)
  c_MOST_ITEMS : ∃ t, mg "MOST_ITEMS" = some (.int 12 t)
  c_GREATEST_ITEM : ∃ t, mg "GREATEST_ITEM" = some (.int 9 t)
  c_GREATEST_LATENESS : ∃ t, mg "GREATEST_LATENESS" = some (.int 99 t)
  c_FIRST_BYTE : ∃ t, mg "FIRST_BYTE" = some (.int 84 t)
  c_BYTES : ∃ t, mg "BYTES" = some (.int 256 t)
  g_is_integer_within : mg "is_integer_within" = some (.ref (He.ga K "is_integer_within"))
  g_first_invalid_item : mg "first_invalid_item" = some (.ref (He.ga K "first_invalid_item"))
  g_check_pattern : mg "check_pattern" = some (.ref (He.ga K "check_pattern"))
  g_check_hall : mg "check_hall" = some (.ref (He.ga K "check_hall"))
  g_count_calls : mg "count_calls" = some (.ref (He.ga K "count_calls"))
  g_checksum : mg "checksum" = some (.ref (He.ga K "checksum"))
  g_encode : mg "encode" = some (.ref (He.ga K "encode"))
  g_read_byte : mg "read_byte" = some (.ref (He.ga K "read_byte"))
  g_read_modulus : mg "read_modulus" = some (.ref (He.ga K "read_modulus"))
  g_read_pattern : mg "read_pattern" = some (.ref (He.ga K "read_pattern"))
  g_decode : mg "decode" = some (.ref (He.ga K "decode"))
  g__law_random : mg "_law_random" = some (.ref (He.ga K "_law_random"))
  g__law_hall : mg "_law_hall" = some (.ref (He.ga K "_law_hall"))
  g__law_below : mg "_law_below" = some (.ref (He.ga K "_law_below"))
  g__law_pattern : mg "_law_pattern" = some (.ref (He.ga K "_law_pattern"))
  g__law_parts : mg "_law_parts" = some (.ref (He.ga K "_law_parts"))
  g__law_error_of : mg "_law_error_of" = some (.ref (He.ga K "_law_error_of"))
  g_Hall : mg "Hall" = some (.ref (He.ga K "Hall"))
  cl_Hall : Cls K (He.ga K "Hall")
  mk_Hall : Mk K (He.ga K "Hall") (He.ma K (He.ga K "Hall") "__init__")
  n_modulus : NoAttr K (He.ga K "Hall") "modulus"
  n_takes : NoAttr K (He.ga K "Hall") "takes"
  n_calls : NoAttr K (He.ga K "Hall") "calls"
  n_lateness : NoAttr K (He.ga K "Hall") "lateness"
  n__called : NoAttr K (He.ga K "Hall") "_called"
  p_period : PropOf K (He.ga K "Hall") "period" (propAt K (He.ga K "Hall") "period") (getAt K (He.ga K "Hall") "period")
  g_HallError : mg "HallError" = some (.ref (He.ga K "HallError"))
  g_InvalidHall : mg "InvalidHall" = some (.ref (He.ga K "InvalidHall"))
  e_InvalidHall : PySem.W.exmOne K (.ref (He.ga K "InvalidHall")) (.ref (He.ga K "HallError")) = some true
  i_InvalidHall : Ex.IsX K (He.ga K "InvalidHall")
  x_InvalidHall : Ex.SupX K "InvalidHall" ["part", "index"]
  g_InvalidTick : mg "InvalidTick" = some (.ref (He.ga K "InvalidTick"))
  e_InvalidTick : PySem.W.exmOne K (.ref (He.ga K "InvalidTick")) (.ref (He.ga K "HallError")) = some true
  i_InvalidTick : Ex.IsX K (He.ga K "InvalidTick")
  x_InvalidTick : PySem.W.excIn K (He.ga K "InvalidTick") He.veBase "ValueError.__new__" = true ∧ PySem.W.keepIn K (.ref (He.ga K "InvalidTick")) = true ∧ PySem.W.subIn K (.ref (He.ga K "InvalidTick")) (.type "BaseException") = some true ∧ PySem.W.typeIn K (.ref (He.ga K "InvalidTick")) = some (.type "type")
  g_InvalidNumber : mg "InvalidNumber" = some (.ref (He.ga K "InvalidNumber"))
  e_InvalidNumber : PySem.W.exmOne K (.ref (He.ga K "InvalidNumber")) (.ref (He.ga K "HallError")) = some true
  i_InvalidNumber : Ex.IsX K (He.ga K "InvalidNumber")
  x_InvalidNumber : PySem.W.excIn K (He.ga K "InvalidNumber") He.veBase "ValueError.__new__" = true ∧ PySem.W.keepIn K (.ref (He.ga K "InvalidNumber")) = true ∧ PySem.W.subIn K (.ref (He.ga K "InvalidNumber")) (.type "BaseException") = some true ∧ PySem.W.typeIn K (.ref (He.ga K "InvalidNumber")) = some (.type "type")
  g_InvalidDigits : mg "InvalidDigits" = some (.ref (He.ga K "InvalidDigits"))
  e_InvalidDigits : PySem.W.exmOne K (.ref (He.ga K "InvalidDigits")) (.ref (He.ga K "HallError")) = some true
  i_InvalidDigits : Ex.IsX K (He.ga K "InvalidDigits")
  x_InvalidDigits : PySem.W.excIn K (He.ga K "InvalidDigits") He.veBase "ValueError.__new__" = true ∧ PySem.W.keepIn K (.ref (He.ga K "InvalidDigits")) = true ∧ PySem.W.subIn K (.ref (He.ga K "InvalidDigits")) (.type "BaseException") = some true ∧ PySem.W.typeIn K (.ref (He.ga K "InvalidDigits")) = some (.type "type")
  g_TooMany : mg "TooMany" = some (.ref (He.ga K "TooMany"))
  e_TooMany : PySem.W.exmOne K (.ref (He.ga K "TooMany")) (.ref (He.ga K "HallError")) = some true
  i_TooMany : Ex.IsX K (He.ga K "TooMany")
  x_TooMany : PySem.W.excIn K (He.ga K "TooMany") He.veBase "ValueError.__new__" = true ∧ PySem.W.keepIn K (.ref (He.ga K "TooMany")) = true ∧ PySem.W.subIn K (.ref (He.ga K "TooMany")) (.type "BaseException") = some true ∧ PySem.W.typeIn K (.ref (He.ga K "TooMany")) = some (.type "type")
  g_InvalidLimit : mg "InvalidLimit" = some (.ref (He.ga K "InvalidLimit"))
  e_InvalidLimit : PySem.W.exmOne K (.ref (He.ga K "InvalidLimit")) (.ref (He.ga K "HallError")) = some true
  i_InvalidLimit : Ex.IsX K (He.ga K "InvalidLimit")
  x_InvalidLimit : PySem.W.excIn K (He.ga K "InvalidLimit") He.veBase "ValueError.__new__" = true ∧ PySem.W.keepIn K (.ref (He.ga K "InvalidLimit")) = true ∧ PySem.W.subIn K (.ref (He.ga K "InvalidLimit")) (.type "BaseException") = some true ∧ PySem.W.typeIn K (.ref (He.ga K "InvalidLimit")) = some (.type "type")
  g_Contradiction : mg "Contradiction" = some (.ref (He.ga K "Contradiction"))
  e_Contradiction : PySem.W.exmOne K (.ref (He.ga K "Contradiction")) (.ref (He.ga K "HallError")) = some true
  i_Contradiction : Ex.IsX K (He.ga K "Contradiction")
  x_Contradiction : PySem.W.excIn K (He.ga K "Contradiction") He.veBase "ValueError.__new__" = true ∧ PySem.W.keepIn K (.ref (He.ga K "Contradiction")) = true ∧ PySem.W.subIn K (.ref (He.ga K "Contradiction")) (.type "BaseException") = some true ∧ PySem.W.typeIn K (.ref (He.ga K "Contradiction")) = some (.type "type")
  g_TextFault : mg "TextFault" = some (.ref (He.ga K "TextFault"))
  e_TextFault : PySem.W.exmOne K (.ref (He.ga K "TextFault")) (.ref (He.ga K "HallError")) = some true
  i_TextFault : Ex.IsX K (He.ga K "TextFault")
  x_TextFault : Ex.SupX K "TextFault" ["line"]
  g_InvalidCode : mg "InvalidCode" = some (.ref (He.ga K "InvalidCode"))
  e_InvalidCode : PySem.W.exmOne K (.ref (He.ga K "InvalidCode")) (.ref (He.ga K "HallError")) = some true
  i_InvalidCode : Ex.IsX K (He.ga K "InvalidCode")
  x_InvalidCode : Ex.SupX K "InvalidCode" ["place"]
  g_InvalidName : mg "InvalidName" = some (.ref (He.ga K "InvalidName"))
  e_InvalidName : PySem.W.exmOne K (.ref (He.ga K "InvalidName")) (.ref (He.ga K "HallError")) = some true
  i_InvalidName : Ex.IsX K (He.ga K "InvalidName")
  x_InvalidName : PySem.W.excIn K (He.ga K "InvalidName") He.veBase "ValueError.__new__" = true ∧ PySem.W.keepIn K (.ref (He.ga K "InvalidName")) = true ∧ PySem.W.subIn K (.ref (He.ga K "InvalidName")) (.type "BaseException") = some true ∧ PySem.W.typeIn K (.ref (He.ga K "InvalidName")) = some (.type "type")
  g_UnknownName : mg "UnknownName" = some (.ref (He.ga K "UnknownName"))
  e_UnknownName : PySem.W.exmOne K (.ref (He.ga K "UnknownName")) (.ref (He.ga K "HallError")) = some true
  i_UnknownName : Ex.IsX K (He.ga K "UnknownName")
  x_UnknownName : PySem.W.excIn K (He.ga K "UnknownName") He.veBase "ValueError.__new__" = true ∧ PySem.W.keepIn K (.ref (He.ga K "UnknownName")) = true ∧ PySem.W.subIn K (.ref (He.ga K "UnknownName")) (.type "BaseException") = some true ∧ PySem.W.typeIn K (.ref (He.ga K "UnknownName")) = some (.type "type")
  g_InvalidOperation : mg "InvalidOperation" = some (.ref (He.ga K "InvalidOperation"))
  e_InvalidOperation : PySem.W.exmOne K (.ref (He.ga K "InvalidOperation")) (.ref (He.ga K "HallError")) = some true
  i_InvalidOperation : Ex.IsX K (He.ga K "InvalidOperation")
  x_InvalidOperation : Ex.SupX K "InvalidOperation" ["place"]
  kit : Ex.KitX ["InvalidHall", "InvalidTick", "InvalidNumber", "InvalidDigits", "TooMany", "InvalidLimit", "Contradiction", "TextFault", "InvalidCode", "InvalidName", "UnknownName", "InvalidOperation"] K
  f_xi_InvalidHall : Ex.InitAt K (He.ma K (He.ga K "InvalidHall") "__init__") (He.ga K "InvalidHall") "InvalidHall.__init__" (defArgs s_xi_InvalidHall) (defBody s_xi_InvalidHall) (defScope s_xi_InvalidHall) "/claim/cut.py"
  f_xi_InvalidCode : Ex.InitAt K (He.ma K (He.ga K "InvalidCode") "__init__") (He.ga K "InvalidCode") "InvalidCode.__init__" (defArgs s_xi_InvalidCode) (defBody s_xi_InvalidCode) (defScope s_xi_InvalidCode) "/claim/cut.py"
  f_is_integer_within : ∃ fd, FnP K "is_integer_within" "is_integer_within" s_is_integer_within (He.ga K "is_integer_within") fd
  f_first_invalid_item : ∃ fd, FnP K "first_invalid_item" "first_invalid_item" s_first_invalid_item (He.ga K "first_invalid_item") fd
  f_check_pattern : ∃ fd, FnP K "check_pattern" "check_pattern" s_check_pattern (He.ga K "check_pattern") fd
  f_check_hall : ∃ fd, FnP K "check_hall" "check_hall" s_check_hall (He.ga K "check_hall") fd
  f_count_calls : ∃ fd, FnP K "count_calls" "count_calls" s_count_calls (He.ga K "count_calls") fd
  f_init : ∃ fd, FnP K "__init__" "Hall.__init__" s_init (He.ma K (He.ga K "Hall") "__init__") fd
  f_period : ∃ fd, FnP K "period" "Hall.period" s_period (getAt K (He.ga K "Hall") "period") fd
  f_checksum : ∃ fd, FnP K "checksum" "checksum" s_checksum (He.ga K "checksum") fd
  f_encode : ∃ fd, FnP K "encode" "encode" s_encode (He.ga K "encode") fd
  f_read_byte : ∃ fd, FnP K "read_byte" "read_byte" s_read_byte (He.ga K "read_byte") fd
  f_read_modulus : ∃ fd, FnP K "read_modulus" "read_modulus" s_read_modulus (He.ga K "read_modulus") fd
  f_read_pattern : ∃ fd, FnP K "read_pattern" "read_pattern" s_read_pattern (He.ga K "read_pattern") fd
  f_decode : ∃ fd, FnP K "decode" "decode" s_decode (He.ga K "decode") fd
  f__law_random : ∃ fd, FnP K "_law_random" "_law_random" s__law_random (He.ga K "_law_random") fd
  f__law_hall : ∃ fd, FnP K "_law_hall" "_law_hall" s__law_hall (He.ga K "_law_hall") fd
  f__law_below : ∃ fd, FnP K "_law_below" "_law_below" s__law_below (He.ga K "_law_below") fd
  f__law_pattern : ∃ fd, FnP K "_law_pattern" "_law_pattern" s__law_pattern (He.ga K "_law_pattern") fd
  f__law_parts : ∃ fd, FnP K "_law_parts" "_law_parts" s__law_parts (He.ga K "_law_parts") fd
  f__law_error_of : ∃ fd, FnP K "_law_error_of" "_law_error_of" s__law_error_of (He.ga K "_law_error_of") fd
def fcts : List (PySem.W.Frag → Bool) := [fcB (.free "ValueError"), fcB (.free "abs"), fcB (.free "bool"), fcB (.free "enumerate"), fcB (.free "int"), fcB (.free "isinstance"), fcB (.free "len"), fcB (.free "list"), fcB (.free "max"), fcB (.free "min"), fcB (.free "range"), fcB (.free "sum"), fcB (.free "super"), fcB (.free "tuple"), bltB "lcm" "math.lcm", fcB (.int "LEAST_MODULUS" 2), fcB (.int "GREATEST_MODULUS" 10000), fcB (.int "MOST_ITEMS" 12), fcB (.int "GREATEST_ITEM" 9), fcB (.int "GREATEST_LATENESS" 99), fcB (.int "FIRST_BYTE" 84), fcB (.int "BYTES" 256), fcB (.glo "is_integer_within"), fcB (.glo "first_invalid_item"), fcB (.glo "check_pattern"), fcB (.glo "check_hall"), fcB (.glo "count_calls"), fcB (.glo "checksum"), fcB (.glo "encode"), fcB (.glo "read_byte"), fcB (.glo "read_modulus"), fcB (.glo "read_pattern"), fcB (.glo "decode"), fcB (.glo "_law_random"), fcB (.glo "_law_hall"), fcB (.glo "_law_below"), fcB (.glo "_law_pattern"), fcB (.glo "_law_parts"), fcB (.glo "_law_error_of"), fcB (.glo "Hall"), fcB (.cls "Hall"), fcB (.mkr "Hall"), fcB (.noat "Hall" "modulus"), fcB (.noat "Hall" "takes"), fcB (.noat "Hall" "calls"), fcB (.noat "Hall" "lateness"), fcB (.noat "Hall" "_called"), (fun K => propB K (He.ga K "Hall") "period"), fcB (.glo "HallError"), fcB (.glo "InvalidHall"), fcB (.exm "InvalidHall" "HallError" true), Ex.isB "InvalidHall", Ex.supB "InvalidHall" ["part", "index"], fcB (.glo "InvalidTick"), fcB (.exm "InvalidTick" "HallError" true), Ex.isB "InvalidTick", fcB (.exc "InvalidTick"), fcB (.glo "InvalidNumber"), fcB (.exm "InvalidNumber" "HallError" true), Ex.isB "InvalidNumber", fcB (.exc "InvalidNumber"), fcB (.glo "InvalidDigits"), fcB (.exm "InvalidDigits" "HallError" true), Ex.isB "InvalidDigits", fcB (.exc "InvalidDigits"), fcB (.glo "TooMany"), fcB (.exm "TooMany" "HallError" true), Ex.isB "TooMany", fcB (.exc "TooMany"), fcB (.glo "InvalidLimit"), fcB (.exm "InvalidLimit" "HallError" true), Ex.isB "InvalidLimit", fcB (.exc "InvalidLimit"), fcB (.glo "Contradiction"), fcB (.exm "Contradiction" "HallError" true), Ex.isB "Contradiction", fcB (.exc "Contradiction"), fcB (.glo "TextFault"), fcB (.exm "TextFault" "HallError" true), Ex.isB "TextFault", Ex.supB "TextFault" ["line"], fcB (.glo "InvalidCode"), fcB (.exm "InvalidCode" "HallError" true), Ex.isB "InvalidCode", Ex.supB "InvalidCode" ["place"], fcB (.glo "InvalidName"), fcB (.exm "InvalidName" "HallError" true), Ex.isB "InvalidName", fcB (.exc "InvalidName"), fcB (.glo "UnknownName"), fcB (.exm "UnknownName" "HallError" true), Ex.isB "UnknownName", fcB (.exc "UnknownName"), fcB (.glo "InvalidOperation"), fcB (.exm "InvalidOperation" "HallError" true), Ex.isB "InvalidOperation", Ex.supB "InvalidOperation" ["place"], Ex.kitB ["InvalidHall", "InvalidTick", "InvalidNumber", "InvalidDigits", "TooMany", "InvalidLimit", "Contradiction", "TextFault", "InvalidCode", "InvalidName", "UnknownName", "InvalidOperation"], fcB (.glo "law")]
def lawF : Nat := 98
def dps : List Dp := [⟨fun K => (He.ma K (He.ga K "InvalidHall") "__init__"), ⟨("__init__", none), "__init__", "InvalidHall.__init__", defArgs s_xi_InvalidHall, defBody s_xi_InvalidHall, defScope s_xi_InvalidHall, [], []⟩, some ((fun K => He.ga K "InvalidHall"), "/claim/cut.py")⟩, ⟨fun K => (He.ma K (He.ga K "InvalidCode") "__init__"), ⟨("__init__", none), "__init__", "InvalidCode.__init__", defArgs s_xi_InvalidCode, defBody s_xi_InvalidCode, defScope s_xi_InvalidCode, [], []⟩, some ((fun K => He.ga K "InvalidCode"), "/claim/cut.py")⟩, ⟨fun K => (He.ga K "is_integer_within"), ⟨("is_integer_within", none), "is_integer_within", "is_integer_within", defArgs s_is_integer_within, defBody s_is_integer_within, defScope s_is_integer_within, [], []⟩, none⟩, ⟨fun K => (He.ga K "first_invalid_item"), ⟨("first_invalid_item", none), "first_invalid_item", "first_invalid_item", defArgs s_first_invalid_item, defBody s_first_invalid_item, defScope s_first_invalid_item, [], []⟩, none⟩, ⟨fun K => (He.ga K "check_pattern"), ⟨("check_pattern", none), "check_pattern", "check_pattern", defArgs s_check_pattern, defBody s_check_pattern, defScope s_check_pattern, [], []⟩, none⟩, ⟨fun K => (He.ga K "check_hall"), ⟨("check_hall", none), "check_hall", "check_hall", defArgs s_check_hall, defBody s_check_hall, defScope s_check_hall, [], []⟩, none⟩, ⟨fun K => (He.ga K "count_calls"), ⟨("count_calls", none), "count_calls", "count_calls", defArgs s_count_calls, defBody s_count_calls, defScope s_count_calls, [], []⟩, none⟩, ⟨fun K => (He.ma K (He.ga K "Hall") "__init__"), ⟨("__init__", none), "__init__", "Hall.__init__", defArgs s_init, defBody s_init, defScope s_init, [], []⟩, none⟩, ⟨fun K => (getAt K (He.ga K "Hall") "period"), ⟨("period", none), "period", "Hall.period", defArgs s_period, defBody s_period, defScope s_period, [], []⟩, none⟩, ⟨fun K => (He.ga K "checksum"), ⟨("checksum", none), "checksum", "checksum", defArgs s_checksum, defBody s_checksum, defScope s_checksum, [], []⟩, none⟩, ⟨fun K => (He.ga K "encode"), ⟨("encode", none), "encode", "encode", defArgs s_encode, defBody s_encode, defScope s_encode, [], []⟩, none⟩, ⟨fun K => (He.ga K "read_byte"), ⟨("read_byte", none), "read_byte", "read_byte", defArgs s_read_byte, defBody s_read_byte, defScope s_read_byte, [], []⟩, none⟩, ⟨fun K => (He.ga K "read_modulus"), ⟨("read_modulus", none), "read_modulus", "read_modulus", defArgs s_read_modulus, defBody s_read_modulus, defScope s_read_modulus, [], []⟩, none⟩, ⟨fun K => (He.ga K "read_pattern"), ⟨("read_pattern", none), "read_pattern", "read_pattern", defArgs s_read_pattern, defBody s_read_pattern, defScope s_read_pattern, [], []⟩, none⟩, ⟨fun K => (He.ga K "decode"), ⟨("decode", none), "decode", "decode", defArgs s_decode, defBody s_decode, defScope s_decode, [], []⟩, none⟩, ⟨fun K => (He.ga K "_law_random"), ⟨("_law_random", none), "_law_random", "_law_random", defArgs s__law_random, defBody s__law_random, defScope s__law_random, [], []⟩, none⟩, ⟨fun K => (He.ga K "_law_hall"), ⟨("_law_hall", none), "_law_hall", "_law_hall", defArgs s__law_hall, defBody s__law_hall, defScope s__law_hall, [], []⟩, none⟩, ⟨fun K => (He.ga K "_law_below"), ⟨("_law_below", none), "_law_below", "_law_below", defArgs s__law_below, defBody s__law_below, defScope s__law_below, [], []⟩, none⟩, ⟨fun K => (He.ga K "_law_pattern"), ⟨("_law_pattern", none), "_law_pattern", "_law_pattern", defArgs s__law_pattern, defBody s__law_pattern, defScope s__law_pattern, [], []⟩, none⟩, ⟨fun K => (He.ga K "_law_parts"), ⟨("_law_parts", none), "_law_parts", "_law_parts", defArgs s__law_parts, defBody s__law_parts, defScope s__law_parts, [], []⟩, none⟩, ⟨fun K => (He.ga K "_law_error_of"), ⟨("_law_error_of", none), "_law_error_of", "_law_error_of", defArgs s__law_error_of, defBody s__law_error_of, defScope s__law_error_of, [], []⟩, none⟩, ⟨fun K => (He.ga K "law"), ⟨("law", none), "law", "law", defArgs s_law, defBody s_law, defScope s_law, [], []⟩, none⟩]
def names : List PySem.Str := (["_wall", "HallError", "InvalidHall", "InvalidTick", "InvalidNumber", "InvalidDigits", "TooMany", "InvalidLimit", "Contradiction", "TextFault", "InvalidCode", "InvalidName"] : List PySem.Str) ++ (["UnknownName", "InvalidOperation", "LAST_TICK", "is_integer_within", "check_tick", "HALL_WORDS", "ONE_NUMBER_WORDS", "BARE_WORDS", "MOST_DIGITS", "write_line", "is_number", "read_line"] : List PySem.Str) ++ (["read_hall_lines", "LEAST_MODULUS", "GREATEST_MODULUS", "MOST_ITEMS", "GREATEST_ITEM", "GREATEST_LATENESS", "first_invalid_item", "check_pattern", "check_hall", "count_calls", "Hall", "FIRST_BYTE"] : List PySem.Str) ++ (["BYTES", "checksum", "encode", "read_byte", "read_modulus", "read_pattern", "decode", "_law_random", "_law_hall", "_law_below", "_law_pattern", "_law_parts"] : List PySem.Str) ++ (["_law_error_of"] : List PySem.Str)
abbrev R : PySem.W.OpenRow := PySem.W.OpenLaw.row PySem.Challenge.rw_ticketwrap_k21_invalid_bytes
def mkl : List (Mk_ × Str) := [(fun K => (He.ga K "law"), "law")]
abbrev mks : List Mk_ := mkl.map fun p => p.1
abbrev hk : PySem.W.Hook := hook 6 fcts dps mks
def ob (s : PySem.W.SharedT) : AlX := obsG 6 fcts dps mks (HeadRun.getT s)
theorem ob_eq (s : PySem.W.SharedT) : ob s = hk.obs s.abs := obsG_eq (HeadRun.getT_eq s)
def lawI : Nat := 56
end Tk
namespace Tk
open PySem PySem.Spec PyProof.Rows L2
theorem run (w : World) : HeadRun.RunEqI R (PySem.W.view R.prog [0, 56]) hk ob 20000 names w := by
  unfold HeadRun.RunEqI
  kernel_rfl
theorem txt {K : PySem.W.Frag} {h : Heap} {mg : Str → Option Value} (X : K.In h) (G : h.Ns mainGlobals mg) (c : Says fcts dps K) : Txt K mg where
  g_ValueError := He.free_ok X G (c.fact 0 rfl)
  g_abs := He.free_ok X G (c.fact 1 rfl)
  g_bool := He.free_ok X G (c.fact 2 rfl)
  g_enumerate := He.free_ok X G (c.fact 3 rfl)
  g_int := He.free_ok X G (c.fact 4 rfl)
  g_isinstance := He.free_ok X G (c.fact 5 rfl)
  g_len := He.free_ok X G (c.fact 6 rfl)
  g_list := He.free_ok X G (c.fact 7 rfl)
  g_max := He.free_ok X G (c.fact 8 rfl)
  g_min := He.free_ok X G (c.fact 9 rfl)
  g_range := He.free_ok X G (c.fact 10 rfl)
  g_sum := He.free_ok X G (c.fact 11 rfl)
  g_super := He.free_ok X G (c.fact 12 rfl)
  g_tuple := He.free_ok X G (c.fact 13 rfl)
  g_lcm := blt_ok X G (c.fact 14 rfl)
  c_LEAST_MODULUS := He.int_ok X G (c.fact 15 rfl)
  c_GREATEST_MODULUS := He.int_ok X G (c.fact 16 rfl)
  c_MOST_ITEMS := He.int_ok X G (c.fact 17 rfl)
  c_GREATEST_ITEM := He.int_ok X G (c.fact 18 rfl)
  c_GREATEST_LATENESS := He.int_ok X G (c.fact 19 rfl)
  c_FIRST_BYTE := He.int_ok X G (c.fact 20 rfl)
  c_BYTES := He.int_ok X G (c.fact 21 rfl)
  g_is_integer_within := He.glo_ok X G (c.fact 22 rfl)
  g_first_invalid_item := He.glo_ok X G (c.fact 23 rfl)
  g_check_pattern := He.glo_ok X G (c.fact 24 rfl)
  g_check_hall := He.glo_ok X G (c.fact 25 rfl)
  g_count_calls := He.glo_ok X G (c.fact 26 rfl)
  g_checksum := He.glo_ok X G (c.fact 27 rfl)
  g_encode := He.glo_ok X G (c.fact 28 rfl)
  g_read_byte := He.glo_ok X G (c.fact 29 rfl)
  g_read_modulus := He.glo_ok X G (c.fact 30 rfl)
  g_read_pattern := He.glo_ok X G (c.fact 31 rfl)
  g_decode := He.glo_ok X G (c.fact 32 rfl)
  g__law_random := He.glo_ok X G (c.fact 33 rfl)
  g__law_hall := He.glo_ok X G (c.fact 34 rfl)
  g__law_below := He.glo_ok X G (c.fact 35 rfl)
  g__law_pattern := He.glo_ok X G (c.fact 36 rfl)
  g__law_parts := He.glo_ok X G (c.fact 37 rfl)
  g__law_error_of := He.glo_ok X G (c.fact 38 rfl)
  g_Hall := He.glo_ok X G (c.fact 39 rfl)
  cl_Hall := He.cls_ok (c.fact 40 rfl)
  mk_Hall := He.mkr_ok (c.fact 41 rfl)
  n_modulus := He.noat_ok (c.fact 42 rfl)
  n_takes := He.noat_ok (c.fact 43 rfl)
  n_calls := He.noat_ok (c.fact 44 rfl)
  n_lateness := He.noat_ok (c.fact 45 rfl)
  n__called := He.noat_ok (c.fact 46 rfl)
  p_period := prop_ok (c.fact 47 rfl)
  g_HallError := He.glo_ok X G (c.fact 48 rfl)
  g_InvalidHall := He.glo_ok X G (c.fact 49 rfl)
  e_InvalidHall := He.exm_ok (c.fact 50 rfl)
  i_InvalidHall := Ex.isB_ok (c.fact 51 rfl)
  x_InvalidHall := Ex.supB_ok (c.fact 52 rfl)
  g_InvalidTick := He.glo_ok X G (c.fact 53 rfl)
  e_InvalidTick := He.exm_ok (c.fact 54 rfl)
  i_InvalidTick := Ex.isB_ok (c.fact 55 rfl)
  x_InvalidTick := He.exc_ok (c.fact 56 rfl)
  g_InvalidNumber := He.glo_ok X G (c.fact 57 rfl)
  e_InvalidNumber := He.exm_ok (c.fact 58 rfl)
  i_InvalidNumber := Ex.isB_ok (c.fact 59 rfl)
  x_InvalidNumber := He.exc_ok (c.fact 60 rfl)
  g_InvalidDigits := He.glo_ok X G (c.fact 61 rfl)
  e_InvalidDigits := He.exm_ok (c.fact 62 rfl)
  i_InvalidDigits := Ex.isB_ok (c.fact 63 rfl)
  x_InvalidDigits := He.exc_ok (c.fact 64 rfl)
  g_TooMany := He.glo_ok X G (c.fact 65 rfl)
  e_TooMany := He.exm_ok (c.fact 66 rfl)
  i_TooMany := Ex.isB_ok (c.fact 67 rfl)
  x_TooMany := He.exc_ok (c.fact 68 rfl)
  g_InvalidLimit := He.glo_ok X G (c.fact 69 rfl)
  e_InvalidLimit := He.exm_ok (c.fact 70 rfl)
  i_InvalidLimit := Ex.isB_ok (c.fact 71 rfl)
  x_InvalidLimit := He.exc_ok (c.fact 72 rfl)
  g_Contradiction := He.glo_ok X G (c.fact 73 rfl)
  e_Contradiction := He.exm_ok (c.fact 74 rfl)
  i_Contradiction := Ex.isB_ok (c.fact 75 rfl)
  x_Contradiction := He.exc_ok (c.fact 76 rfl)
  g_TextFault := He.glo_ok X G (c.fact 77 rfl)
  e_TextFault := He.exm_ok (c.fact 78 rfl)
  i_TextFault := Ex.isB_ok (c.fact 79 rfl)
  x_TextFault := Ex.supB_ok (c.fact 80 rfl)
  g_InvalidCode := He.glo_ok X G (c.fact 81 rfl)
  e_InvalidCode := He.exm_ok (c.fact 82 rfl)
  i_InvalidCode := Ex.isB_ok (c.fact 83 rfl)
  x_InvalidCode := Ex.supB_ok (c.fact 84 rfl)
  g_InvalidName := He.glo_ok X G (c.fact 85 rfl)
  e_InvalidName := He.exm_ok (c.fact 86 rfl)
  i_InvalidName := Ex.isB_ok (c.fact 87 rfl)
  x_InvalidName := He.exc_ok (c.fact 88 rfl)
  g_UnknownName := He.glo_ok X G (c.fact 89 rfl)
  e_UnknownName := He.exm_ok (c.fact 90 rfl)
  i_UnknownName := Ex.isB_ok (c.fact 91 rfl)
  x_UnknownName := He.exc_ok (c.fact 92 rfl)
  g_InvalidOperation := He.glo_ok X G (c.fact 93 rfl)
  e_InvalidOperation := He.exm_ok (c.fact 94 rfl)
  i_InvalidOperation := Ex.isB_ok (c.fact 95 rfl)
  x_InvalidOperation := Ex.supB_ok (c.fact 96 rfl)
  kit := Ex.kitB_ok (c.fact 97 rfl)
  f_xi_InvalidHall := c.init_ 0 rfl
  f_xi_InvalidCode := c.init_ 1 rfl
  f_is_integer_within := (c.def_ 2 rfl).1
  f_first_invalid_item := (c.def_ 3 rfl).1
  f_check_pattern := (c.def_ 4 rfl).1
  f_check_hall := (c.def_ 5 rfl).1
  f_count_calls := (c.def_ 6 rfl).1
  f_init := (c.def_ 7 rfl).1
  f_period := (c.def_ 8 rfl).1
  f_checksum := (c.def_ 9 rfl).1
  f_encode := (c.def_ 10 rfl).1
  f_read_byte := (c.def_ 11 rfl).1
  f_read_modulus := (c.def_ 12 rfl).1
  f_read_pattern := (c.def_ 13 rfl).1
  f_decode := (c.def_ 14 rfl).1
  f__law_random := (c.def_ 15 rfl).1
  f__law_hall := (c.def_ 16 rfl).1
  f__law_below := (c.def_ 17 rfl).1
  f__law_pattern := (c.def_ 18 rfl).1
  f__law_parts := (c.def_ 19 rfl).1
  f__law_error_of := (c.def_ 20 rfl).1
theorem law_fn {K : PySem.W.Frag} (c : Says fcts dps K) : ∃ fd, FnP K "law" "law" s_law (He.ga K "law") fd := (c.def_ 21 rfl).1
end Tk
/-! ### The source of numbers -/
namespace Tk
open PySem PySem.Spec PyProof.Rows L2
/-- what the list of the source holds -/
def DSt (cs : List V) : Prop := ∃ (s g : Int) (ns : List Int), cs = V.int s :: V.int g :: ns.map V.int ∧ 0 ≤ s ∧ s < 2147483647 ∧ 0 ≤ g ∧ (∀ n ∈ ns, (0 : Int) ≤ n) ∧ ns.length ≤ 63
def spRandom (K : PySem.W.Frag) : Sp := fun vs H Q _ => ∃ (a : Addr) (ns : List Int) (salt : Int), vs = [.ref a, .int salt] ∧ SqL K H a (ns.map V.int) ∧ ns.length ≤ 63 ∧ 0 ≤ salt ∧ salt < 1000 ∧
  ∀ (d : Addr) (cs : List V) (H' : Hp), H d = none → Same H H' → H' d = some (.lst cs) → DSt cs → Q (.ref d) H'
def spBelow : Sp := fun vs H Q _ => ∃ (d : Addr) (lim : Int) (cs : List V), vs = [.ref d, .int lim] ∧ 0 < lim ∧ lim < 1073741824 ∧ H d = some (.lst cs) ∧ DSt cs ∧
  ∀ (r : Int) (cs' : List V), 0 ≤ r → r < lim → DSt cs' → Q (.int r) (upd H d (.lst cs'))
theorem int_at {ns : List Int} {i : Nat} {y : V} (h : (ns.map V.int)[i]? = some y) : ∃ u, y = V.int u ∧ ns[i]? = some u := by
  rw [List.getElem?_map] at h
  cases e : ns[i]? with
  | none => rw [e] at h; cases h
  | some u => rw [e] at h; exact ⟨u, (Option.some.inj h).symm, rfl⟩
theorem ixn {n i : Nat} (h : i < n) : ixN n (i : Int) = some i := by
  unfold ixN
  rw [if_pos (by omega), if_pos (by omega)]
  simp
theorem atn {xs : List V} {i : Nat} {x : V} (h : xs[i]? = some x) : atI xs (i : Int) = some x := by
  unfold atI
  rw [ixn (List.getElem?_eq_some_iff.mp h).1]
  exact h
section
variable {P : Program} {w : World} {K : PySem.W.Frag} {mg : Str → Option Value} {base : Heap}
theorem ok__law_random (T : Txt K mg) : OkF P w K mg base 1 (He.ga K "_law_random") ["_law_script", "_law_salt"] (spRandom K) := by
  refine FnP.okF T.f__law_random sc__law_random (fun _ _ _ _ _ _ us hl => match us, hl with | [_, _], _ => rfl) (fun vs H Q E h => ?_) (fun cdv A outer s H vs Q E hr h => ?_)
  · obtain ⟨a, ns, salt, rfl, _⟩ := h
    rfl
  obtain ⟨a, ns, salt, rfl, hS, hlen, h0, h1, k⟩ := h
  refine ⟨_, (pss_cons (ps_set (i := 2) sc__law_random.nd rfl (Or.inl rfl) (pv 1))
    (pss_cons (ps_for own_cx rfl (pi_listK (K := K) (pv 0)) (pg_name (i := 3) sc__law_random.nd rfl (Or.inl rfl))
      (pss_one (ps_set (i := 2) sc__law_random.nd rfl (Or.inl rfl) (pe_op op_mod (pe_op op_add (pe_op op_mul (pv 2) pe_int) (pe_callB call_abs (by rfl) T.g_abs (by decide +kernel) (pa_cons (pv 3) pa_nil))) pe_int))))
    (pss_one (ps_ret (pe_op op_cat (pe_lst (pa_cons (pv 2) (pa_cons pe_int pa_nil))) (pe_lc (own := [("_law_cell", 3)]) (g := gName 3) (tt := _) (by rfl) sc__law_random.nd (pi_listK (K := K) (pv 0)) (blkOk_by (own := [("_law_cell", 3)]) (N := N__law_random) (sc := (defScope s__law_random)) (by decide +kernel)) (fun _ _ _ _ _ => pg_name (i := 3) sc__law_random.nd rfl (Or.inl rfl)) (fun _ _ _ _ _ => (pts_one (pt_cmpR op_ge (pv 3) (pe_op op_pow pe_int pe_int) (nomark _)))) (fun _ _ _ _ _ => (pv 3)))))))), ?_⟩
  refine ⟨_, rfl, ?_⟩
  refine ⟨_, rfl, a, rfl, ⟨_, hS⟩, for_list (K := K) (a := a) (xs := ns.map V.int) (fun i σ H' => ∃ (z : Int) (v : Option V), σ = [some (.ref a), some (.int salt), some (.int z), v] ∧ H' = H ∧ 0 ≤ z ∧ z < 2147483647)
    ⟨salt, none, rfl, rfl, h0, by omega⟩ (fun i σ H' _ ⟨_, _, _, e, _⟩ => e ▸ hS) ?_ ?_⟩
  · rintro i y σ H' hi ⟨z, v, rfl, rfl, z0, z1⟩
    obtain ⟨u, rfl, hu⟩ := int_at hi
    refine ⟨_, rfl, _, _, rfl, rfl, .inl ⟨by omega, by omega⟩, _, rfl, _, rfl, _, _, rfl, rfl, _, _, rfl, rfl, (by show (0 : Int) < 2147483647; decide), ?_⟩
    refine ⟨_, _, rfl, rfl, ?_, ?_⟩
    · exact Int.emod_nonneg _ (by decide)
    · exact Int.emod_lt_of_pos _ (by decide)
  · rintro σ H' ⟨z, v, rfl, rfl, z0, z1⟩
    refine ⟨_, rfl, (by show 2 ≤ sizeLine; decide), fun l hl => ?_⟩
    have s1 : Same H' (upd H' l (.lst [.int z, .int 0])) := fun b o e => by rw [upd_ne (ne_of_none e hl)]; exact e
    refine ⟨_, rfl, a, rfl, ⟨_, s1.seq hS⟩, fun D hD => ?_⟩
    have hDl : D ≠ l := fun e => by rw [e, upd_same] at hD; cases hD
    have hD0 : H' D = none := by rw [upd_ne hDl] at hD; exact hD
    refine lc_list (K := K) (a := a) (xs := ns.map V.int) (fun i H2 => ∃ ms : List Int, H2 = upd (upd H' l (.lst [.int z, .int 0])) D (.lst (ms.map V.int)) ∧ (∀ n ∈ ms, (0 : Int) ≤ n) ∧ ms.length ≤ i)
      ⟨[], rfl, (fun n hn => by cases hn), Nat.le_refl _⟩ (fun i H2 _ ⟨ms, e, _⟩ => ?_) ?_ ?_
    · subst e
      refine Same.seq (fun b o e => ?_) hS
      rw [upd_ne (ne_of_none e hD0)]
      exact s1 b o e
    · rintro i x H2 hx ⟨ms, rfl, m0, ml⟩
      obtain ⟨u, rfl, hu⟩ := int_at hx
      have hi63 : i < 63 := by
        have := (List.getElem?_eq_some_iff.mp hu).1
        omega
      refine ⟨rfl, _, rfl, _, _, rfl, rfl, ⟨by decide, by decide, by decide⟩, _, _, rfl, rfl, _, rfl, ?_⟩
      refine ite2 (fun c => ?_) (fun c => ⟨ms, rfl, m0, by omega⟩)
      refine ⟨_, rfl, _, upd_same, Nat.lt_of_le_of_lt (m := 63) (by rw [List.length_map]; omega) (by decide), ⟨ms ++ [u], ?_, ?_, ?_⟩⟩
      · rw [upd_upd, List.map_append]
        rfl
      · intro n hn
        rcases List.mem_append.mp hn with h | h
        · exact m0 n h
        · rw [List.mem_singleton.mp h]
          have c2 : (10 : Int) ^ (18 : Int).toNat ≤ u := of_decide_eq_true c
          have : (0 : Int) ≤ 10 ^ (18 : Int).toNat := by decide
          omega
      · rw [List.length_append]
        show ms.length + 1 ≤ i + 1
        omega
    · rintro H2 ⟨ms, rfl, m0, ml⟩
      rw [List.length_map] at ml
      refine ⟨l, D, _, _, rfl, rfl, (by rw [upd_ne hDl.symm]; exact upd_same), upd_same, ?_, fun p hp => ?_⟩
      · rw [List.length_map]
        exact Nat.le_trans (m := 65) (by show 2 + ms.length ≤ 65; omega) (by decide)
      · have hpD : p ≠ D := fun e => by rw [e, upd_same] at hp; cases hp
        have hp2 : p ≠ l := fun e => by rw [e, upd_ne hDl.symm, upd_same] at hp; cases hp
        refine k p _ _ (by rw [upd_ne hpD, upd_ne hp2] at hp; exact hp) (fun b o e => ?_) upd_same ⟨z, 0, ms, rfl, z0, z1, Int.le_refl _, m0, by omega⟩
        have hb : b ≠ p := fun q => by rw [q] at e; rw [upd_ne hpD, upd_ne hp2] at hp; rw [e] at hp; cases hp
        rw [upd_ne hb, upd_ne (ne_of_none e hD0)]
        exact s1 b o e
end
end Tk

namespace Tk
open PySem PySem.Spec PyProof.Rows L2
section
variable {P : Program} {w : World} {K : PySem.W.Frag} {mg : Str → Option Value} {base : Heap}
theorem upd_eq {H H2 : Hp} {d : Addr} (e : ∀ b, b ≠ d → H2 b = H b) (o : HO) : upd H2 d o = upd H d o := by
  funext b
  unfold upd
  by_cases q : b = d
  · rw [if_pos q, if_pos q]
  · rw [if_neg q, if_neg q, e b q]
theorem gt_dec {a b : Int} : decide (b < a) = true → b < a := of_decide_eq_true
theorem ok__law_below (T : Txt K mg) : OkF P w K mg base 1 (He.ga K "_law_below") ["_law_d", "_law_limit"] spBelow := by
  refine FnP.okF T.f__law_below sc__law_below (fun _ _ _ _ _ _ us hl => match us, hl with | [_, _], _ => rfl) (fun vs H Q E h => ?_) (fun cdv A outer s H vs Q E hr h => ?_)
  · obtain ⟨d, lim, cs, rfl, _⟩ := h
    rfl
  obtain ⟨d, lim, cs, rfl, l0, l1, hd, ⟨s1, g, ns, rfl, hs0, hs1, hg, hns, hlen⟩, k⟩ := h
  refine ⟨_, (Evl.pss_cut (ps_if (PW.pt (pw_and (pt_cmpR op_eq (pe_ix (ixLK (K := K)) (pv 0) pe_int (fun _ _ => rfl)) pe_int (nomark _)) (pw_and1 (pt_cmpR op_gt (pe_callB (lenK (K := K)) (by rfl) T.g_len (by decide +kernel) (pa_cons (pv 0) pa_nil)) pe_int (nomark _))))) (pss_one (ps_asg (pe_bm PySem.F.plainAttrs_list PySem.F.slot_list_pop PySem.F.type_list_pop mt_popAt (pv 0) (pa_cons pe_int pa_nil)) (pg_sub (pv 0) pe_int set_list))) pss_nil)
    (pss_cons (ps_if (pt_cmpR op_gt (pe_ix (ixLK (K := K)) (pv 0) pe_int (fun _ _ => rfl)) pe_int (nomark _)) (pss_cons (ps_set (i := 2) sc__law_below.nd rfl (Or.inl rfl) (pe_op op_mod (pe_ix (ixLK (K := K)) (pv 0) pe_int (fun _ _ => rfl)) (pv 1)))
    (pss_cons (ps_asg (pe_op op_fdiv (pe_ix (ixLK (K := K)) (pv 0) pe_int (fun _ _ => rfl)) (pv 1)) (pg_sub (pv 0) pe_int set_list))
    (pss_one (ps_ret (pv 2))))) pss_nil)
    (pss_cons (ps_asg (pe_op op_mod (pe_op op_add (pe_op op_mul (pe_ix (ixLK (K := K)) (pv 0) pe_int (fun _ _ => rfl)) pe_int) pe_int) pe_int) (pg_sub (pv 0) pe_int set_list))
    (pss_one (ps_ret (pe_op op_mod (pe_op op_fdiv (pe_ix (ixLK (K := K)) (pv 0) pe_int (fun _ _ => rfl)) pe_int) (pv 1))))))), ?_⟩
  -- if d[1] == 0 and len(d) > 2: d[1] = d.pop(2)
  refine ⟨fun σ H2 => ∃ (g2 : Int) (ms : List Int), σ = [some (.ref d), some (.int lim), none] ∧ H2 = upd H d (.lst (V.int s1 :: V.int g2 :: ms.map V.int)) ∧ 0 ≤ g2 ∧ (∀ n ∈ ms, (0 : Int) ≤ n) ∧ ms.length ≤ 63, ?_, ?_⟩
  · have h0 : H = upd H d (.lst (V.int s1 :: V.int g :: ns.map V.int)) := by
      funext b
      unfold upd
      by_cases q : b = d
      · rw [if_pos q, q, hd]
      · rw [if_neg q]
    have no : ∃ (g2 : Int) (ms : List Int), [some (V.ref d), some (V.int lim), none] = [some (.ref d), some (.int lim), none] ∧ H = upd H d (.lst (V.int s1 :: V.int g2 :: ms.map V.int)) ∧ 0 ≤ g2 ∧ (∀ n ∈ ms, (0 : Int) ≤ n) ∧ ms.length ≤ 63 := ⟨g, ns, rfl, h0, hg, hns, hlen⟩
    refine ⟨_, rfl, d, _, 1, _, rfl, rfl, SqL.of hd, atn (i := 1) rfl, rfl, _, rfl, ?_⟩
    refine ite2 (fun c => ?_) (fun c => no)
    refine ⟨_, rfl, d, _, rfl, .inl (SqL.of hd), _, _, rfl, rfl, _, rfl, ?_⟩
    refine ite2 (fun c2 => ?_) (fun c2 => no)
    cases ns with
    | nil =>
      have : (2 : Int) < (2 : Int) := gt_dec c2
      omega
    | cons n0 ms =>
      refine ⟨_, rfl, .inl ⟨rfl, _, SqL.of hd⟩, d, _, 2, 2, _, rfl, rfl, hd, by decide, by decide, ?_, rfl, ?_⟩
      · have hl : (V.int s1 :: V.int g :: (n0 :: ms).map V.int).length = ms.length + 3 := by simp
        rw [hl]
        unfold seqIndex?
        simp
        omega
      · refine ⟨_, rfl, d, _, 1, 1, rfl, rfl, upd_same, ixn (i := 1) (by simp), ?_⟩
        refine ⟨n0, ms, rfl, ?_, hns n0 List.mem_cons_self, fun n hn => hns n (List.mem_cons_of_mem _ hn), by have := hlen; simp at this; omega⟩
        rw [upd_upd]
        rfl
  · rintro σ H2 ⟨g2, ms, rfl, rfl, hg2, hms, hml⟩
    have hd2 : upd H d (.lst (V.int s1 :: V.int g2 :: ms.map V.int)) d = some (.lst (V.int s1 :: V.int g2 :: ms.map V.int)) := upd_same
    -- if d[1] > 0
    refine ⟨_, rfl, d, _, 1, _, rfl, rfl, SqL.of hd2, atn (i := 1) rfl, _, _, rfl, rfl, _, rfl, ?_⟩
    refine ite2 (fun c => ?_) (fun c => ?_)
    · refine ⟨_, rfl, d, _, 1, _, rfl, rfl, SqL.of hd2, atn (i := 1) rfl, _, rfl, _, _, rfl, rfl, l0, ?_⟩
      refine ⟨_, rfl, d, _, 1, _, rfl, rfl, SqL.of hd2, atn (i := 1) rfl, _, rfl, _, _, rfl, rfl, ⟨l0, l1⟩, ?_⟩
      refine ⟨_, rfl, d, _, 1, 1, rfl, rfl, upd_same, ixn (i := 1) (by simp), ?_⟩
      refine ⟨_, rfl, ?_⟩
      show Q (V.int (g2 % lim)) _
      rw [upd_upd]
      exact k _ _ (Int.emod_nonneg _ (by omega)) (Int.emod_lt_of_pos _ l0) ⟨s1, g2 / lim, ms, rfl, hs0, hs1, Int.ediv_nonneg hg2 (by omega), hms, hml⟩
    · refine ⟨_, rfl, d, _, 0, _, rfl, rfl, SqL.of hd2, atn (i := 0) rfl, _, _, rfl, rfl, .inl ⟨by omega, by omega⟩, _, _, rfl, rfl, _, _, rfl, rfl, (by show (0 : Int) < 2147483647; decide), ?_⟩
      refine ⟨_, rfl, d, _, 0, 0, rfl, rfl, upd_same, ixn (i := 0) (by simp), ?_⟩
      refine ⟨_, rfl, d, _, 0, _, rfl, rfl, SqL.of upd_same, atn (i := 0) rfl, _, _, rfl, rfl, ⟨by decide, by decide⟩, _, rfl, _, _, rfl, rfl, l0, ?_⟩
      rw [upd_upd]
      exact k _ _ (Int.emod_nonneg _ (by omega)) (Int.emod_lt_of_pos _ l0) ⟨_, g2, ms, rfl, Int.emod_nonneg _ (by decide), Int.emod_lt_of_pos _ (by decide), hg2, hms, hml⟩
end
end Tk

/-! ### Reading step by step: what each reading asks, as a rule -/
namespace Tk
open PySem PySem.Spec PyProof.Rows L2
theorem Same.get {H H' : Hp} {b : Addr} {o : HO} (S : Same H H') (h : H b = some o) : H' b = some o := S b o h
theorem Same.tr {H H1 H2 : Hp} (b : Same H1 H2) (a : Same H H1) : Same H H2 := fun c o h => b c o (a c o h)
theorem Same.nw {p : Addr} {H0 H : Hp} {o : HO} (h : H p = none) (S : Same H0 H) : Same H0 (upd H p o) := fun b u e => by rw [upd_ne (ne_of_none (S b u e) h)]; exact S b u e
theorem Same.fr {H H' : Hp} {p : Addr} (S : Same H H') (h : H' p = none) : H p = none := by
  cases q : H p with
  | none => rfl
  | some o => rw [S p o q] at h; cases h
theorem sqt_sm {K : PySem.W.Frag} {H H' : Hp} {a : Addr} {xs : List V} (e : Same H H') (h : SqT K H a xs) : SqT K H' a xs := by
  rcases h with (h | ⟨o, h⟩) | h
  · exact .inl (.inl (e _ _ h))
  · exact .inl (.inr ⟨o, e _ _ h⟩)
  · exact .inr h
namespace Rd
variable {K : PySem.W.Frag} {σ : L2.St} {H : Hp} {Q : VK} {QA : List V → Hp → Prop} {QB : Bool → Hp → Prop} {D : Ends} {ta tb tc te : TE} {t : TA} {tt tu : L2.TT} {ts tr : TS}
/-! expressions -/
theorem var {i : Nat} {v : V} (h : σ[i]? = some (some v)) (k : Q v H) : tVar i σ H Q := ⟨v, h, k⟩
theorem c {v : V} (k : Q v H) : tC v σ H Q := k
theorem op {r : R2} (k : ta σ H fun x H1 => tb σ H1 fun y H2 => r x y H2 Q) : tOp r ta tb σ H Q := k
theorem un {r : V → Hp → VK → Prop} (k : ta σ H fun x H1 => r x H1 Q) : tUn r ta σ H Q := k
theorem i0 {g : Int → Int → V} {i j : Int} (k : Q (g i j) H) : rI0 g (.int i) (.int j) H Q := ⟨i, j, rfl, rfl, k⟩
theorem i1 {C : Int → Int → Prop} {g : Int → Int → V} {i j : Int} (hc : C i j) (k : Q (g i j) H) : rI C g (.int i) (.int j) H Q := ⟨i, j, rfl, rfl, hc, k⟩
theorem u1 {g : Int → V} {i : Int} (k : Q (g i) H) : rU g (.int i) H Q := ⟨i, rfl, k⟩
theorem eq {x y : V} (h : scal x y = true) (k : Q (.bl (decide (x = y))) H) : rEq x y H Q := ⟨h, k⟩
theorem ne {x y : V} (h : scal x y = true) (k : Q (.bl (!decide (x = y))) H) : rNe x y H Q := ⟨h, k⟩
def toB (Q : Bool → Hp → Prop) : VK := fun x H' => ∃ k, x = .bl k ∧ Q k H'
theorem toB_i {b : Bool} (k : QB b H) : toB QB (.bl b) H := ⟨b, rfl, k⟩
theorem tst (k : te σ H (toB QB)) : tTest te σ H QB := k
theorem bv (k : te σ H (toB QB)) : tB te σ H QB := k
def andK (tb : TE) (σ : L2.St) (Q : VK) : VK := fun x H1 => ∃ c, x = .bl c ∧ if c = true then tb σ H1 Q else Q (.bl false) H1
theorem andV (k : ta σ H (andK tb σ Q)) : tAndV ta tb σ H Q := k
theorem andK_i {b : Bool} (k : if b = true then tb σ H Q else Q (.bl false) H) : andK tb σ Q (.bl b) H := ⟨b, rfl, k⟩
def orK (tb : TE) (σ : L2.St) (Q : VK) : VK := fun x H1 => ∃ c, x = .bl c ∧ if c = true then Q (.bl true) H1 else tb σ H1 Q
theorem orV (k : ta σ H (orK tb σ Q)) : tOrV ta tb σ H Q := k
theorem orK_i {b : Bool} (k : if b = true then Q (.bl true) H else tb σ H Q) : orK tb σ Q (.bl b) H := ⟨b, rfl, k⟩
def notK (Q : VK) : VK := fun x H1 => ∃ c, x = .bl c ∧ Q (.bl (!c)) H1
theorem notV (k : ta σ H (notK Q)) : tNotV ta σ H Q := k
theorem notK_i {b : Bool} (k : Q (.bl (!b)) H) : notK Q (.bl b) H := ⟨b, rfl, k⟩
theorem and (k : tt σ H fun c H1 => if c = true then tu σ H1 QB else QB false H1) : tAnd tt tu σ H QB := k
theorem or (k : tt σ H fun c H1 => if c = true then QB true H1 else tu σ H1 QB) : tOr tt tu σ H QB := k
theorem not (k : tt σ H fun c H1 => QB (!c) H1) : tNot tt σ H QB := k
theorem tif (k : tt σ H fun c H1 => if c = true then ta σ H1 Q else tb σ H1 Q) : tIf tt ta tb σ H Q := k
theorem yes (k : QB true H) : tYes σ H QB := k
def chainK (r r' : R2) (x : V) (tc : TE) (σ : L2.St) (Q : VK) : VK := fun y H2 => r x y H2 fun z H3 => ∃ k, z = .bl k ∧ (if k = true then tc σ H3 fun w' H4 => r' y w' H4 Q else Q (.bl false) H3)
def chainL (r' : R2) (y : V) (tc : TE) (σ : L2.St) (Q : VK) : VK := fun z H3 => ∃ k, z = .bl k ∧ (if k = true then tc σ H3 fun w' H4 => r' y w' H4 Q else Q (.bl false) H3)
theorem chain {r r' : R2} (k : ta σ H fun x H1 => tb σ H1 fun y H2 => r x y H2 (chainL r' y tc σ Q)) : tChain r r' ta tb tc σ H Q := k
theorem chainL_i {r' : R2} {y : V} {b : Bool} (k : if b = true then tc σ H fun w' H4 => r' y w' H4 Q else Q (.bl false) H) : chainL r' y tc σ Q (.bl b) H := ⟨b, rfl, k⟩
/-! arguments, calls -/
theorem nil (k : QA [] H) : tNil σ H QA := k
theorem cons {tr : TA} (k : ta σ H fun x H1 => tr σ H1 fun xs H2 => QA (x :: xs) H2) : tCons ta tr σ H QA := k
def tupK (Q : VK) : List V → Hp → Prop := fun xs H1 => xs.length ≤ sizeLine ∧ ∀ p, H1 p = none → Q (.ref p) (upd H1 p (.tup xs))
theorem tup (k : t σ H (tupK Q)) : tTup t σ H Q := k
theorem tupK_i {xs : List V} (hz : xs.length ≤ 1000) (k : ∀ p H', H p = none → Same H H' → H' p = some (.tup xs) → Q (.ref p) H') : tupK Q xs H := ⟨Nat.le_trans hz (by decide), fun p hp => k p _ hp (Same.nw hp (Same.refl H)) upd_same⟩
def lstK (Q : VK) : List V → Hp → Prop := fun xs H1 => xs.length ≤ sizeLine ∧ ∀ p, H1 p = none → Q (.ref p) (upd H1 p (.lst xs))
theorem lst (k : t σ H (lstK Q)) : tLst t σ H Q := k
theorem lstK_i {xs : List V} (hz : xs.length ≤ 1000) (k : ∀ p H', H p = none → Same H H' → H' p = some (.lst xs) → Q (.ref p) H') : lstK Q xs H := ⟨Nat.le_trans hz (by decide), fun p hp => k p _ hp (Same.nw hp (Same.refl H)) upd_same⟩
def callK (sp : Sp) (dvs : List V) (Q : VK) (E : XK) : List V → Hp → Prop := fun vs H1 => sp (vs ++ dvs) H1 Q E
theorem call {sp : Sp} {dvs : List V} {E : XK} (k : t σ H (callK sp dvs Q E)) : tCall sp dvs E t σ H Q := k
theorem callK_i {sp : Sp} {vs : List V} {E : XK} (k : sp vs H Q E) : callK sp [] Q E vs H := by
  unfold callK
  rw [List.append_nil]
  exact k
def fldK (K : PySem.W.Frag) (f : Str) (Q : VK) : VK := fun x H1 => ∃ a C dx fs v, x = .ref a ∧ H1 a = some (.ins C dx fs) ∧ Cls K C ∧ NoAttr K C f ∧ fs.lookup f = some v ∧ Q v H1
theorem fld {f : Str} (k : ta σ H (fldK K f Q)) : tFld K ta f σ H Q := k
def methK (m : Str) (sp : Sp) (C : Addr) (dvs : List V) (E : XK) (t : TA) (σ : L2.St) (Q : VK) : VK := fun x H1 => ∃ a dx fs, x = .ref a ∧ H1 a = some (.ins C dx fs) ∧ fs.lookup m = none ∧ t σ H1 fun vs H2 => sp (x :: (vs ++ dvs)) H2 Q E
theorem meth {C : Addr} {m : Str} {sp : Sp} {dvs : List V} {E : XK} (k : ta σ H (methK m sp C dvs E t σ Q)) : tMeth C m sp dvs E ta t σ H Q := k
def propK (sp : Sp) (C : Addr) (dvs : List V) (E : XK) (Q : VK) : VK := fun x H1 => ∃ a dx fs, x = .ref a ∧ H1 a = some (.ins C dx fs) ∧ sp (.ref a :: dvs) H1 Q E
theorem prop {C : Addr} {sp : Sp} {dvs : List V} {E : XK} (k : ta σ H (propK sp C dvs E Q)) : tProp C sp dvs E ta σ H Q := k
def makeK (C : Addr) (sp : Sp) (dvs : List V) (E : XK) (Q : VK) : List V → Hp → Prop := fun vs H1 => ∀ x dx, H1 x = none → H1 dx = none → dx ≠ x →
  sp (.ref x :: (vs ++ dvs)) (upd (upd H1 dx (.own x)) x (.ins C dx [])) (fun v H2 => v = .non ∧ Q (.ref x) H2) E
theorem make {C : Addr} {sp : Sp} {dvs : List V} {E : XK} (k : t σ H (makeK C sp dvs E Q)) : tMake C sp dvs E t σ H Q := k
theorem cmeth {C : Addr} {sp : Sp} {E : XK} (k : ta σ H fun x H1 => x = .ref C ∧ t σ H1 fun vs H2 => sp (.ref C :: vs) H2 Q E) : ClX.tCMeth C sp E ta t σ H Q := k
theorem cb {r : List V → Hp → VK → Prop} (k : t σ H fun vs H1 => r vs H1 Q) : tCB r t σ H Q := k
def bmK (K : PySem.W.Frag) (T : String) (r : V → List V → Hp → VK → Prop) (t : TA) (σ : L2.St) (Q : VK) : VK := fun x H1 => tyV K T x H1 ∧ t σ H1 fun xs H2 => r x xs H2 Q
theorem bm {T : String} {r : V → List V → Hp → VK → Prop} (k : ta σ H (bmK K T r t σ Q)) : tBM K T r ta t σ H Q := k
theorem bmK_l {r : V → List V → Hp → VK → Prop} {p : Addr} {xs : List V} (hq : SqL K H p xs) (k : t σ H fun ys H2 => r (.ref p) ys H2 Q) : bmK K "list" r t σ Q (.ref p) H := ⟨.inl ⟨rfl, _, hq⟩, k⟩
def m0K (r : V → List V → Hp → VK → Prop) (Q : VK) : VK := fun x H1 => (∃ a, x = .str a) ∧ r x [] H1 Q
theorem m0 {r : V → List V → Hp → VK → Prop} (k : ta σ H (m0K r Q)) : tM0 r ta σ H Q := k
theorem m0K_i {r : V → List V → Hp → VK → Prop} {a : Str} (k : r (.str a) [] H Q) : m0K r Q (.str a) H := ⟨⟨a, rfl⟩, k⟩
def m1K (r : V → List V → Hp → VK → Prop) (te : TE) (σ : L2.St) (Q : VK) : VK := fun x H1 => (∃ a, x = .str a) ∧ te σ H1 fun y H2 => r x [y] H2 Q
theorem m1 {r : V → List V → Hp → VK → Prop} (k : ta σ H (m1K r te σ Q)) : tM1 r ta te σ H Q := k
theorem m1K_i {r : V → List V → Hp → VK → Prop} {a : Str} (k : te σ H fun y H2 => r (.str a) [y] H2 Q) : m1K r te σ Q (.str a) H := ⟨⟨a, rfl⟩, k⟩
/-! starred items -/
def starK (K : PySem.W.Frag) (t : TA) (σ : L2.St) (QA : List V → Hp → Prop) : VK := fun x H1 => ∃ p xs, x = V.ref p ∧ (SqT K H1 p xs ∨ SqL K H1 p xs) ∧ t σ H1 fun ys H2 => QA (xs ++ ys) H2
theorem star (k : te σ H (starK K t σ QA)) : StX.tStar K te t σ H QA := k
theorem starK_t {p : Addr} {xs : List V} (hq : SqT K H p xs) (k : t σ H fun ys H2 => QA (xs ++ ys) H2) : starK K t σ QA (.ref p) H := ⟨p, xs, rfl, .inl hq, k⟩
theorem starK_l {p : Addr} {xs : List V} (hq : SqL K H p xs) (k : t σ H fun ys H2 => QA (xs ++ ys) H2) : starK K t σ QA (.ref p) H := ⟨p, xs, rfl, .inr hq, k⟩
/-! items, lengths, slices -/
theorem ixL {p : Addr} {xs : List V} {i : Int} {v : V} (hq : SqL K H p xs) (ha : atI xs i = some v) (k : Q v H) : rIxL K (.ref p) (.int i) H Q := ⟨p, xs, i, v, rfl, rfl, hq, ha, k⟩
theorem ixT {p : Addr} {xs : List V} {i : Int} {v : V} (hq : SqT K H p xs) (ha : atI xs i = some v) (k : Q v H) : rIxT K (.ref p) (.int i) H Q := ⟨p, xs, i, v, rfl, rfl, hq, ha, k⟩
theorem ixL0 {p : Addr} {xs : List V} {v : V} (hq : SqL K H p (v :: xs)) (k : Q v H) : rIxL K (.ref p) (.int 0) H Q := ⟨p, _, 0, v, rfl, rfl, hq, atn (i := 0) rfl, k⟩
theorem ixT0 {p : Addr} {xs : List V} {v : V} (hq : SqT K H p (v :: xs)) (k : Q v H) : rIxT K (.ref p) (.int 0) H Q := ⟨p, _, 0, v, rfl, rfl, hq, atn (i := 0) rfl, k⟩
theorem lenL {p : Addr} {xs : List V} (hq : SqL K H p xs) (k : Q (.int xs.length) H) : Evl.rLenS K [.ref p] H Q := ⟨p, xs, rfl, .inl hq, k⟩
theorem lenT {p : Addr} {xs : List V} (hq : SqT K H p xs) (k : Q (.int xs.length) H) : Evl.rLenS K [.ref p] H Q := ⟨p, xs, rfl, .inr hq, k⟩
theorem mx {i j : Int} (k : Q (.int (max i j)) H) : rMax2 [.int i, .int j] H Q := ⟨i, j, rfl, by
  have e : (if j > i then j else i) = max i j := by
    rw [Int.max_def]
    split <;> split <;> omega
  rw [e]
  exact k⟩
theorem mn {i j : Int} (k : Q (.int (min i j)) H) : rMin2 [.int i, .int j] H Q := ⟨i, j, rfl, by
  have e : (if j < i then j else i) = min i j := by
    rw [Int.min_def]
    split <;> split <;> omega
  rw [e]
  exact k⟩
theorem isN {x : V} (k : Q (.bl (decide (x = .non))) H) : rIsN x .non H Q := ⟨rfl, k⟩
theorem notN {x : V} (k : Q (.bl (!decide (x = .non))) H) : rNotN x .non H Q := ⟨rfl, k⟩
theorem noPart {QO : Option Int → Hp → Prop} (k : QO none H) : tNoPart σ H QO := k
def partK (QO : Option Int → Hp → Prop) : VK := fun x H1 => ∃ i, x = .int i ∧ QO (some i) H1
theorem part {QO : Option Int → Hp → Prop} (k : ta σ H (partK QO)) : tPart ta σ H QO := k
theorem partK_i {QO : Option Int → Hp → Prop} {i : Int} (k : QO (some i) H) : partK QO (.int i) H := ⟨i, rfl, k⟩
theorem slc {r : V → Option Int → Option Int → Hp → VK → Prop} {tl th : TO} (k : ta σ H fun x H1 => tl σ H1 fun l H2 => th σ H2 fun u H3 => r x l u H3 Q) : tSl r ta tl th σ H Q := k
theorem slT {a : Addr} {xs : List V} {lo hi : Option Int} (hq : SqT K H a xs) (k : ∀ p H', Same H H' → SqT K H' p (cutV xs lo hi) → Q (.ref p) H') : rSlA K (.ref a) lo hi H Q := by
  refine ⟨a, xs, rfl, hq, fun ⟨h1, h2⟩ => ?_, fun _ p hp => k p _ (Same.nw hp (Same.refl H)) (SqT.of upd_same)⟩
  have e : cutV xs lo hi = xs := by
    unfold cutV
    rw [h1, h2]
    simp
  exact k a H (Same.refl H) (by rw [e]; exact hq)
theorem catA {a b : Addr} {xs ys : List V} (h1 : SqT K H a xs) (h2 : SqT K H b ys) (n1 : xs ≠ []) (n2 : ys ≠ []) (hz : xs.length + ys.length ≤ 1000) (k : ∀ p H', H p = none → Same H H' → H' p = some (.tup (xs ++ ys)) → Q (.ref p) H') : rCatA K (.ref a) (.ref b) H Q :=
  ⟨a, b, xs, ys, rfl, rfl, h1, h2, Nat.le_trans hz (by decide), fun e => absurd e n1, fun _ e => absurd e n2, fun _ _ p hp => k p _ hp (Same.nw hp (Same.refl H)) upd_same⟩
theorem slTr {a : Addr} {xs : List V} {lo hi : Option Int} (hq : H a = some (.tup xs)) (k : ∀ p H', Same H H' → H' p = some (.tup (cutV xs lo hi)) → Q (.ref p) H') : rSlA K (.ref a) lo hi H Q := by
  refine ⟨a, xs, rfl, SqT.of hq, fun ⟨h1, h2⟩ => ?_, fun _ p hp => k p _ (Same.nw hp (Same.refl H)) upd_same⟩
  have e : cutV xs lo hi = xs := by
    unfold cutV
    rw [h1, h2]
    simp
  exact k a H (Same.refl H) (by rw [e]; exact hq)
theorem catTr {a b : Addr} {xs ys : List V} (h1 : H a = some (.tup xs)) (h2 : H b = some (.tup ys)) (hz : xs.length + ys.length ≤ 1000) (k : ∀ p H', Same H H' → H' p = some (.tup (xs ++ ys)) → Q (.ref p) H') : rCatA K (.ref a) (.ref b) H Q :=
  ⟨a, b, xs, ys, rfl, rfl, SqT.of h1, SqT.of h2, Nat.le_trans hz (by decide), fun e => k b H (Same.refl H) (by rw [e]; exact h2), fun _ e => k a H (Same.refl H) (by rw [e, List.append_nil]; exact h1), fun _ _ p hp => k p _ (Same.nw hp (Same.refl H)) upd_same⟩
theorem slL {a : Addr} {xs : List V} {lo hi : Option Int} (hq : SqL K H a xs) (k : ∀ p H', H p = none → Same H H' → H' p = some (.lst (cutV xs lo hi)) → Q (.ref p) H') : rSlL K (.ref a) lo hi H Q :=
  ⟨a, xs, rfl, hq, fun p hp => k p _ hp (Same.nw hp (Same.refl H)) upd_same⟩
theorem lstL {p : Addr} {xs : List V} (hq : SqL K H p xs) (k : ∀ q H', H q = none → Same H H' → H' q = some (.lst xs) → Q (.ref q) H') : rLst K [.ref p] H Q := ⟨p, xs, rfl, .inl hq, fun q hp => k q _ hp (Same.nw hp (Same.refl H)) upd_same⟩
theorem lstT {p : Addr} {xs : List V} (hq : SqT K H p xs) (k : ∀ q H', H q = none → Same H H' → H' q = some (.lst xs) → Q (.ref q) H') : rLst K [.ref p] H Q := ⟨p, xs, rfl, .inr hq, fun q hp => k q _ hp (Same.nw hp (Same.refl H)) upd_same⟩
theorem tplL {p : Addr} {xs : List V} (hq : SqL K H p xs) (k : ∀ q H', H q = none → Same H H' → H' q = some (.tup xs) → Q (.ref q) H') : rTpl K [.ref p] H Q := ⟨p, xs, rfl, .inl ⟨hq, fun q hp => k q _ hp (Same.nw hp (Same.refl H)) upd_same⟩⟩
theorem addS {i j : Str} (h : i.length + j.length ≤ 100000) (k : Q (.str (i ++ j)) H) : rAddS (.str i) (.str j) H Q := ⟨i, j, rfl, rfl, Nat.le_trans h (by decide), k⟩
theorem lenS {z : Str} (h : z.length ≤ 100000) (k : Q (.int z.length) H) : rLenStr [.str z] H Q := ⟨z, rfl, Nat.le_trans h (by decide), k⟩
theorem join {a : Str} {p : Addr} {ys : List Str} (hq : SqL K H p (ys.map V.str)) (hz : (ys.map (·.length)).sum + ys.length * a.length ≤ 16777216) (k : Q (.str (Txt.join a ys)) H) : rJoin K (.str a) [.ref p] H Q := ⟨a, p, ys, rfl, rfl, .inl hq, hz, k⟩
theorem split {a b : Str} (hb : (b.length == 0) = false) (hz : a.length ≤ 100000) (k : ∀ p H', H p = none → Same H H' → H' p = some (.lst ((Txt.split a b).map V.str)) → Q (.ref p) H') : rSplit (.str a) [.str b] H Q :=
  ⟨a, b, rfl, rfl, hb, Nat.le_trans (m := 100002) (by omega) (by decide), fun p hp => k p _ hp (Same.nw hp (Same.refl H)) upd_same⟩
theorem catL {a b : Addr} {xs ys : List V} (h1 : H a = some (.lst xs)) (h2 : H b = some (.lst ys)) (hz : xs.length + ys.length ≤ 100000) (k : ∀ p H', H p = none → Same H H' → H' p = some (.lst (xs ++ ys)) → Q (.ref p) H') : rCat (.ref a) (.ref b) H Q :=
  ⟨a, b, xs, ys, rfl, rfl, h1, h2, Nat.le_trans hz (by decide), fun p hp => k p _ hp (Same.nw hp (Same.refl H)) upd_same⟩
theorem catK (k : ta σ H fun x H1 => tb σ H1 fun y H2 => rCat x y H2 Q) : tOp rCat ta tb σ H Q := k
theorem sumL {a : Addr} {ns : List Int} (hq : SqL K H a (ns.map V.int)) (k : Q (.int ns.sum) H) : rSum K [.ref a] H Q := ⟨a, ns, rfl, hq, k⟩
theorem sumT {a : Addr} {ns : List Int} (hq : SqT K H a (ns.map V.int)) (k : Q (.int ns.sum) H) : rSumT K [.ref a] H Q := ⟨a, ns, rfl, hq, k⟩
theorem int1_i {i : Int} (k : Q (.int i) H) : rInt1 [.int i] H Q := .inl ⟨i, rfl, k⟩
theorem int1_b {b : Bool} (k : Q (.int (if b = true then 1 else 0)) H) : rInt1 [.bl b] H Q := .inr ⟨b, rfl, k⟩
/-! list(range(..)) -/
def rgK (Q : VK) : Int → Int → Hp → Prop := fun a b H1 => RgOk a b ∧ ∀ q, H1 q = none → Q (.ref q) (upd H1 q (.lst (rgV a b)))
theorem lrg {tr : L2.St → Hp → (Int → Int → Hp → Prop) → Prop} (k : tr σ H (rgK Q)) : tLstRg tr σ H Q := k
def rg1K (R : Int → Int → Hp → Prop) : VK := fun x H1 => ∃ n, x = .int n ∧ R 0 n H1
theorem rg1 {R : Int → Int → Hp → Prop} (k : ta σ H (rg1K R)) : tRg1 ta σ H R := k
theorem rg1K_i {R : Int → Int → Hp → Prop} {n : Int} (k : R 0 n H) : rg1K R (.int n) H := ⟨n, rfl, k⟩
def rg2K (R : Int → Int → Hp → Prop) (x : V) : VK := fun y H2 => ∃ i j, x = .int i ∧ y = .int j ∧ R i j H2
theorem rg2 {R : Int → Int → Hp → Prop} (k : ta σ H fun x H1 => tb σ H1 (rg2K R x)) : tRg2 ta tb σ H R := k
theorem rg2K_i {R : Int → Int → Hp → Prop} {i j : Int} (k : R i j H) : rg2K R (.int i) (.int j) H := ⟨i, j, rfl, rfl, k⟩
/-! targets, statements -/
theorem name {i : Nat} {v : V} {QS : L2.St → Hp → Prop} (k : QS (σ.set i (some v)) H) : gName i v σ H QS := k
theorem gtup {n : Nat} {tg : TGs} {a : Addr} {xs : List V} {QS : L2.St → Hp → Prop} (hq : SqT K H a xs) (hl : xs.length = n) (k : tg xs σ H QS) : gTup K n tg (.ref a) σ H QS := ⟨a, xs, rfl, hq, hl, k⟩
theorem glst {n : Nat} {tg : TGs} {a : Addr} {xs : List V} {QS : L2.St → Hp → Prop} (hq : SqL K H a xs) (hl : xs.length = n) (k : tg xs σ H QS) : gLst K n tg (.ref a) σ H QS := ⟨a, xs, rfl, hq, hl, k⟩
theorem gcons {tg : TG} {tu : TGs} {v : V} {r : List V} {QS : L2.St → Hp → Prop} (k : tg v σ H fun σ' H' => tu r σ' H' QS) : gCons tg tu (v :: r) σ H QS := ⟨v, r, rfl, k⟩
theorem gnil {QS : L2.St → Hp → Prop} (k : QS σ H) : gNil [] σ H QS := ⟨rfl, k⟩
theorem seq (k : ts { D with nx := tr D } σ H) : tSeq ts tr D σ H := k
theorem next (k : D.nx σ H) : tNext D σ H := k
theorem cont (k : D.ct σ H) : tCont D σ H := k
theorem drop (k : te σ H fun _ H1 => D.nx σ H1) : tDrop te D σ H := k
theorem ret (k : te σ H D.rt) : tRet te D σ H := k
theorem retN (k : D.rt .non H) : tRetN D σ H := k
theorem ifS (k : tt σ H fun b H1 => if b = true then ts D σ H1 else tr D σ H1) : tIfS tt ts tr D σ H := k
theorem asg {g : TG} (k : te σ H fun x H1 => g x σ H1 D.nx) : tAsg te g D σ H := k
def parK (i j : Nat) (σ : L2.St) (D : Ends) : List V → Hp → Prop := fun vs H1 => ∃ v w, vs = [v, w] ∧ D.nx ((σ.set i (some v)).set j (some w)) H1
theorem par {i j : Nat} (k : t σ H (parK i j σ D)) : tPar i j t D σ H := k
theorem parK_i {i j : Nat} {v w : V} (k : D.nx ((σ.set i (some v)).set j (some w)) H) : parK i j σ D [v, w] H := ⟨v, w, rfl, k⟩
def par3K (i j l : Nat) (σ : L2.St) (D : Ends) : List V → Hp → Prop := fun vs H1 => ∃ u v w, vs = [u, v, w] ∧ D.nx (((σ.set i (some u)).set j (some v)).set l (some w)) H1
theorem par3 {i j l : Nat} (k : t σ H (par3K i j l σ D)) : tPar3 i j l t D σ H := k
theorem par3K_i {i j l : Nat} {u v w : V} (k : D.nx (((σ.set i (some u)).set j (some v)).set l (some w)) H) : par3K i j l σ D [u, v, w] H := ⟨u, v, w, rfl, k⟩
theorem aug {i : Nat} {x : V} {ti : TIp} (h : σ[i]? = some (some x)) (k : te σ H fun y H1 => ti x y H1 fun z H2 => D.nx (σ.set i (some z)) H2) : tAug i te ti D σ H := ⟨x, h, k⟩
theorem ip {f : Int → Int → Int} {i j : Int} (k : Q (.int (f i j)) H) : ipI f (.int i) (.int j) H Q := ⟨i, j, rfl, rfl, k⟩
theorem ift {A B : Prop} (h : A) : if true = true then A else B := by rw [if_pos rfl]; exact h
theorem iff {A B : Prop} (h : B) : if false = true then A else B := by rw [if_neg Bool.false_ne_true]; exact h
theorem ifnt {A B : Prop} (h : B) : if (!true) = true then A else B := by rw [if_neg (by decide)]; exact h
theorem ifnf {A B : Prop} (h : A) : if (!false) = true then A else B := by rw [if_pos (show (!false) = true from rfl)]; exact h
theorem inS {x : V} {p : Addr} {xs : List V} (hq : SqL K H p xs ∨ SqT K H p xs) (fx : flatV x = true) (fs : xs.all flatV = true) (k : Q (.bl (inV x xs)) H) : rIn K false x (.ref p) H Q := ⟨p, xs, rfl, hq, fx, fs, by rw [if_neg (by decide)]; exact k⟩
theorem niS {x : V} {p : Addr} {xs : List V} (hq : SqL K H p xs ∨ SqT K H p xs) (fx : flatV x = true) (fs : xs.all flatV = true) (k : Q (.bl (!inV x xs)) H) : rIn K true x (.ref p) H Q := ⟨p, xs, rfl, hq, fx, fs, by rw [if_pos rfl]; exact k⟩
theorem bb {b : Bool} {A B : Prop} (h1 : b = true → A) (h2 : b = false → B) : if b = true then A else B := by
  cases b with
  | true => exact ift (h1 rfl)
  | false => exact iff (h2 rfl)
/-! tests whose answer is known, or both -/
section
variable {A B : Prop} {p : Prop} {ip : Decidable p} {a b : Int}
theorem dT (h : p) (k : A) : if decide p = true then A else B := by rw [if_pos (decide_eq_true h)]; exact k
theorem dF (h : ¬ p) (k : B) : if decide p = true then A else B := by rw [if_neg (by rw [decide_eq_false h]; decide)]; exact k
theorem nT (h : p) (k : B) : if (!decide p) = true then A else B := by rw [decide_eq_true h]; exact ifnt k
theorem nF (h : ¬ p) (k : A) : if (!decide p) = true then A else B := by rw [decide_eq_false h]; exact ifnf k
theorem d2 (h1 : p → A) (h2 : ¬ p → B) : if decide p = true then A else B := by
  by_cases h : p
  · exact dT h (h1 h)
  · exact dF h (h2 h)
theorem n2 (h1 : p → B) (h2 : ¬ p → A) : if (!decide p) = true then A else B := by
  by_cases h : p
  · exact nT h (h1 h)
  · exact nF h (h2 h)
theorem int_non {i : Int} : ¬ V.int i = V.non := fun q => by cases q
theorem ref_non {r : Addr} : ¬ V.ref r = V.non := fun q => by cases q
theorem vi (h : a ≠ b) : ¬ V.int a = V.int b := fun q => h (by injection q)
theorem eT (h : a = b) (k : A) : if decide (V.int a = V.int b) = true then A else B := dT (by rw [h]) k
theorem eF (h : a ≠ b) (k : B) : if decide (V.int a = V.int b) = true then A else B := dF (vi h) k
theorem e2 (h1 : a = b → A) (h2 : a ≠ b → B) : if decide (V.int a = V.int b) = true then A else B := by
  by_cases h : a = b
  · exact eT h (h1 h)
  · exact eF h (h2 h)
theorem neT (h : a = b) (k : B) : if (!decide (V.int a = V.int b)) = true then A else B := nT (by rw [h]) k
theorem neF (h : a ≠ b) (k : A) : if (!decide (V.int a = V.int b)) = true then A else B := nF (vi h) k
theorem ne2 (h1 : a = b → B) (h2 : a ≠ b → A) : if (!decide (V.int a = V.int b)) = true then A else B := by
  by_cases h : a = b
  · exact neT h (h1 h)
  · exact neF h (h2 h)
end
/-- a test that is false whichever way it goes -/
theorem ifF {ts tr : TS} {tt : L2.TT} {P : Hp → Prop} (h : ∀ Q : Bool → Hp → Prop, (∀ H', P H' → Q false H') → tt σ H Q) (k : ∀ H', P H' → tr D σ H') : tIfS tt ts tr D σ H := h _ fun H' p => iff (k H' p)
theorem ifT {ts tr : TS} {tt : L2.TT} {P : Hp → Prop} (h : ∀ Q : Bool → Hp → Prop, (∀ H', P H' → Q true H') → tt σ H Q) (k : ∀ H', P H' → ts D σ H') : tIfS tt ts tr D σ H := h _ fun H' p => ift (k H' p)
theorem cut {ts tr : TS} (P : L2.St → Hp → Prop) (h : ts { D with nx := P } σ H) (k : ∀ σ' H', P σ' H' → tr D σ' H') : Evl.tCut ts tr D σ H := ⟨P, h, k⟩
/-- a if c else b, both names: one value that goes on -/
theorem ifVV {c : Bool} {i j : Nat} {v u : V} (hi : σ[i]? = some (some v)) (hj : σ[j]? = some (some u)) (h : ∀ w, (c = true → w = v) → (c = false → w = u) → Q w H) : if c = true then tVar i σ H Q else tVar j σ H Q := by
  cases c with
  | true => exact ift ⟨v, hi, h v (fun _ => rfl) (fun q => by cases q)⟩
  | false => exact iff ⟨u, hj, h u (fun q => by cases q) (fun _ => rfl)⟩
/-- a if c else b: what is known of the value goes on -/
theorem ifM {c : Bool} (P : V → Hp → Prop) (hA : c = true → ∀ K' : VK, (∀ v H', P v H' → K' v H') → ta σ H K') (hB : c = false → ∀ K' : VK, (∀ v H', P v H' → K' v H') → tb σ H K') (k : ∀ v H', P v H' → Q v H') : if c = true then ta σ H Q else tb σ H Q := by
  cases c with
  | true => exact ift (hA rfl _ k)
  | false => exact iff (hB rfl _ k)
/-! appending to what is there -/
theorem app {l : Addr} {xs : List V} {y : V} (h : H l = some (.lst xs)) (hz : xs.length < 100000) (k : Q .non (upd H l (.lst (xs ++ [y])))) : rAppend (.ref l) [y] H Q := ⟨l, xs, y, rfl, rfl, h, Nat.lt_of_lt_of_le hz (by decide), k⟩
/-! equality of data: rd_eq takes it by the data's readings -/
theorem eqD {x y : V} {d e : PyData} (h1 : L2.Dp K H x d) (h2 : L2.Dp K H y e) (s1 : SeqAt.shaped d = true) (s2 : SeqAt.shaped e = true) (k : Q (.bl (PyData.eqv d e)) H) : rEqD K x y H Q := ⟨d, e, h1, h2, s1, s2, k⟩
theorem range_get {α β : Type} (l : List α) (d : α) (g : α → β) : (List.range l.length).map (fun i => g (l.getD i d)) = l.map g := by
  refine List.ext_getElem? fun i => ?_
  rw [List.getElem?_map, List.getElem?_map]
  by_cases h : i < l.length
  · rw [List.getElem?_range h, List.getElem?_eq_getElem h]
    simp [List.getD_eq_getElem?_getD, List.getElem?_eq_getElem h]
  · rw [List.getElem?_eq_none (by simp; omega), List.getElem?_eq_none (by omega)]
    rfl
theorem getD_of {α : Type} {l : List α} {i : Nat} {x d : α} (h : l[i]? = some x) : l.getD i d = x := by
  rw [List.getD_eq_getElem?_getD, h]
  rfl
/-! what is walked -/
def rngK (R : It → Hp → Prop) : List V → Hp → Prop := fun vs H1 => ∃ j : Int, vs = [.int j] ∧ -(2 ^ 62) ≤ j ∧ j < 2 ^ 62 ∧ R (Itr 0 j.toNat) H1
theorem rng {R : It → Hp → Prop} (k : t σ H (rngK R)) : iRng1 t σ H R := k
theorem rngK_n {R : It → Hp → Prop} {n : Nat} (h : n ≤ 1000000000) (k : R (Itr 0 n) H) : rngK R [.int (n : Int)] H := ⟨n, rfl, by omega, by omega, by rw [Int.toNat_natCast]; exact k⟩
theorem rngK_z {R : It → Hp → Prop} {z : Int} (h : z.toNat ≤ 1000000000) (h0 : -1000000000 ≤ z) (k : R (Itr 0 z.toNat) H) : rngK R [.int z] H := ⟨z, rfl, by omega, by omega, k⟩
theorem rngK_lit {R : It → Hp → Prop} {n : Nat} (h : n ≤ 1000000000) (k : R (Itr 0 (OfNat.ofNat n : Nat)) H) : rngK R [.int (OfNat.ofNat n : Int)] H := rngK_n h k
def rng2K (R : It → Hp → Prop) : List V → Hp → Prop := fun vs H1 => ∃ i j : Int, vs = [.int i, .int j] ∧ (-(2 ^ 62) ≤ i ∧ i < 2 ^ 62 ∧ -(2 ^ 62) ≤ j ∧ j < 2 ^ 62) ∧ R (Itr i (j - i).toNat) H1
theorem rng2 {R : It → Hp → Prop} (k : t σ H (rng2K R)) : iRng2 t σ H R := k
theorem rng2K_i {R : It → Hp → Prop} {i j : Int} (hb : -(2 ^ 62) ≤ i ∧ i < 2 ^ 62 ∧ -(2 ^ 62) ≤ j ∧ j < 2 ^ 62) (k : R (Itr i (j - i).toNat) H) : rng2K R [.int i, .int j] H := ⟨i, j, rfl, hb, k⟩
def zipK (K : PySem.W.Frag) (R : It → Hp → Prop) : List V → Hp → Prop := fun vs H1 => ∃ a b xs ys, vs = [.ref a, .ref b] ∧ ((SqL K H1 a xs ∧ SqL K H1 b ys ∧ R (L2.Itz K a b) H1) ∨ (SqT K H1 a xs ∧ SqT K H1 b ys ∧ R (RZ.ItzT K a b) H1))
theorem zip {R : It → Hp → Prop} (k : t σ H (zipK K R)) : RZ.iZipA K t σ H R := k
theorem zipK_t {R : It → Hp → Prop} {a b : Addr} {xs ys : List V} (ha : SqT K H a xs) (hb : SqT K H b ys) (k : R (RZ.ItzT K a b) H) : zipK K R [.ref a, .ref b] H := ⟨a, b, xs, ys, rfl, .inr ⟨ha, hb, k⟩⟩
def listK (K : PySem.W.Frag) (R : It → Hp → Prop) : VK := fun x H1 => ∃ a, x = .ref a ∧ (∃ xs, SqL K H1 a xs) ∧ R (Itl K a) H1
theorem ilist {R : It → Hp → Prop} (k : ta σ H (listK K R)) : iList K ta σ H R := k
theorem listK_i {R : It → Hp → Prop} {a : Addr} {xs : List V} (hq : SqL K H a xs) (k : R (Itl K a) H) : listK K R (.ref a) H := ⟨a, rfl, ⟨xs, hq⟩, k⟩
def ituK (K : PySem.W.Frag) (R : It → Hp → Prop) : VK := fun x H1 => ∃ a, x = .ref a ∧ (∃ xs, SqT K H1 a xs) ∧ R (Itt K a) H1
theorem itup {R : It → Hp → Prop} (k : ta σ H (ituK K R)) : iTup K ta σ H R := k
theorem ituK_i {R : It → Hp → Prop} {a : Addr} {xs : List V} (hq : SqT K H a xs) (k : R (Itt K a) H) : ituK K R (.ref a) H := ⟨a, rfl, ⟨xs, hq⟩, k⟩
def forK (g : TG) (tb : TS) (D : Ends) (σ : L2.St) (J : It) (H1 : Hp) : Prop := ∃ W : Nat → Nat → L2.St → Hp → Prop, (∃ m, W 0 m σ H1) ∧ ∀ i m σ H, W i m σ H →
  (J.stop i H ∧ D.nx σ H) ∨ (J.go i H ∧ ∃ N : L2.St → Hp → Prop, (∀ σ' H', N σ' H' → ∃ m', m' < m ∧ W (i + 1) m' σ' H') ∧ ∀ x H', J.yld i H x H' → g x σ H' fun σ2 H2 => tb { D with nx := N, ct := N, bk := D.nx } σ2 H2)
theorem tfor {wi : TI} {g : TG} (k : wi σ H (forK g ts D σ)) : tFor wi g ts D σ H := k
def lcK (g : TG) (tt : L2.TT) (te : TE) (vs : List Nat) (σ : L2.St) (Q : VK) (J : It) (H1 : Hp) : Prop := ∀ D, H1 D = none → ∃ W : Nat → Nat → Hp → Prop, (∃ m, W 0 m (upd H1 D (.lst []))) ∧ ∀ i m H, W i m H →
  (J.stop i H ∧ Q (.ref D) H) ∨ (J.go i H ∧ ∃ Nx : Hp → Prop, (∀ H', Nx H' → ∃ m', m' < m ∧ W (i + 1) m' H') ∧ ∀ x H', J.yld i H x H' → g x (wipe σ vs) H' fun σ2 H2 => wipe σ2 vs = wipe σ vs ∧ tt σ2 H2 fun b H3 =>
    if b = true then te σ2 H3 fun y H4 => ∃ acc, H4 D = some (.lst acc) ∧ acc.length < sizeLine ∧ Nx (upd H4 D (.lst (acc ++ [y]))) else Nx H3)
theorem tlc {wi : TI} {g : TG} {vs : List Nat} (k : wi σ H (lcK g tt te vs σ Q)) : tLc wi g tt te vs σ H Q := k
/-- for i in range(n): the items are 0, 1, .. -/
theorem for_rng {n : Nat} {g : TG} (Pv : Nat → L2.St → Hp → Prop) (h0 : Pv 0 σ H) (hs : ∀ (i : Nat) σ H, i < n → Pv i σ H → g (.int (i : Int)) σ H fun σ2 H2 => ts { D with nx := Pv (i + 1), ct := Pv (i + 1), bk := D.nx } σ2 H2) (hd : ∀ σ H, Pv n σ H → D.nx σ H) :
    forK g ts D σ (Itr 0 n) H :=
  for_range (lo := 0) (n := n) Pv h0 (fun i σ H hi p => by have z := hs i σ H hi p; rw [Int.zero_add]; exact z) hd
/-- from lo -/
theorem for_rng2 {lo : Int} {n : Nat} {g : TG} (Pv : Nat → L2.St → Hp → Prop) (h0 : Pv 0 σ H) (hs : ∀ (i : Nat) σ H, i < n → Pv i σ H → g (.int (lo + i)) σ H fun σ2 H2 => ts { D with nx := Pv (i + 1), ct := Pv (i + 1), bk := D.nx } σ2 H2) (hd : ∀ σ H, Pv n σ H → D.nx σ H) :
    forK g ts D σ (Itr lo n) H := for_range (lo := lo) (n := n) Pv h0 hs hd
theorem for_lst {a : Addr} {xs : List V} {g : TG} (Pv : Nat → L2.St → Hp → Prop) (h0 : Pv 0 σ H) (hl : ∀ i σ H, i ≤ xs.length → Pv i σ H → SqL K H a xs)
    (hs : ∀ i x σ H, xs[i]? = some x → Pv i σ H → g x σ H fun σ2 H2 => ts { D with nx := Pv (i + 1), ct := Pv (i + 1), bk := D.nx } σ2 H2) (hd : ∀ σ H, Pv xs.length σ H → D.nx σ H) : forK g ts D σ (Itl K a) H := for_list Pv h0 hl hs hd
theorem for_tpl {a : Addr} {xs : List V} {g : TG} (Pv : Nat → L2.St → Hp → Prop) (h0 : Pv 0 σ H) (hl : ∀ i σ H, i ≤ xs.length → Pv i σ H → SqT K H a xs)
    (hs : ∀ i x σ H, xs[i]? = some x → Pv i σ H → g x σ H fun σ2 H2 => ts { D with nx := Pv (i + 1), ct := Pv (i + 1), bk := D.nx } σ2 H2) (hd : ∀ σ H, Pv xs.length σ H → D.nx σ H) : forK g ts D σ (Itt K a) H := for_tup Pv h0 hl hs hd
/-- an item's turn: what the item is worth, nothing that was there changed -/
def Turn1 (g : TG) (te : TE) (σ : L2.St) (vs : List Nat) (x : V) (y : V) (H0 : Hp) : Prop :=
  ∀ H' (QS : L2.St → Hp → Prop), Same H0 H' → (∀ σ2, wipe σ2 vs = wipe σ vs → (∀ Q' : VK, (∀ H'', Same H' H'' → Q' y H'') → te σ2 H' Q') → QS σ2 H') → g x (wipe σ vs) H' QS
theorem turn1 {i : Nat} {x y : V} {H0 : Hp} {vs : List Nat} (hw : wipe ((wipe σ vs).set i (some x)) vs = wipe σ vs) (h : ∀ H', Same H0 H' → ∀ Q' : VK, (∀ H'', Same H' H'' → Q' y H'') → te ((wipe σ vs).set i (some x)) H' Q') : Turn1 (gName i) te σ vs x y H0 :=
  fun H' QS S k => k _ hw fun Q' q => h H' S Q' q
theorem turn_tup2 {K : PySem.W.Frag} {i j : Nat} {r : Addr} {a b y : V} {H0 : Hp} {vs : List Nat} (hw : wipe (((wipe σ vs).set i (some a)).set j (some b)) vs = wipe σ vs) (hx : SqT K H0 r [a, b]) (h : ∀ H', Same H0 H' → ∀ Q' : VK, (∀ H'', Same H' H'' → Q' y H'') → te (((wipe σ vs).set i (some a)).set j (some b)) H' Q') :
    Turn1 (gTup K 2 (gCons (gName i) (gCons (gName j) gNil))) te σ vs (.ref r) y H0 :=
  fun H' QS S k => ⟨r, _, rfl, sqt_sm S hx, rfl, _, _, rfl, _, _, rfl, rfl, k _ hw fun Q' q => h H' S Q' q⟩
/-- [e for i in range(n)], e worth f i -/
theorem lc_rng {n : Nat} {g : TG} {vs : List Nat} (f : Nat → V) (hn : n ≤ 100000) (hs : ∀ i : Nat, i < n → Turn1 g te σ vs (.int (i : Int)) (f i) H) (k : ∀ D H', H D = none → Same H H' → H' D = some (.lst ((List.range n).map f)) → Q (.ref D) H') :
    lcK g tYes te vs σ Q (Itr 0 n) H := fun D hD => by
  refine lc_range (lo := 0) (n := n) (fun i H2 => Same H H2 ∧ H2 D = some (.lst ((List.range i).map f))) ⟨Same.nw hD (Same.refl H), upd_same⟩ ?_ fun H2 ⟨S2, h2⟩ => k D H2 hD S2 h2
  rintro i H2 hi ⟨S2, h2⟩
  rw [Int.zero_add]
  refine hs i hi H2 _ S2 fun σ2 hw q => ⟨hw, yes (ift (q _ fun H4 S4 => ⟨_, S4 _ _ h2, Nat.lt_of_le_of_lt (m := 100000) (by simp; omega) (by decide), fun b o e => ?_, ?_⟩))⟩
  · rw [upd_ne (ne_of_none e hD)]
    exact S4 _ _ (S2 _ _ e)
  · rw [upd_same, List.range_succ, List.map_append]
    rfl
theorem lc_rngL {n : Nat} {lo : Int} {g : TG} {vs : List Nat} (f : Nat → V) (hn : n ≤ 100000) (hs : ∀ i : Nat, i < n → Turn1 g te σ vs (.int (lo + i)) (f i) H) (k : ∀ D H', H D = none → Same H H' → H' D = some (.lst ((List.range n).map f)) → Q (.ref D) H') :
    lcK g tYes te vs σ Q (Itr lo n) H := fun D hD => by
  refine lc_range (lo := lo) (n := n) (fun i H2 => Same H H2 ∧ H2 D = some (.lst ((List.range i).map f))) ⟨Same.nw hD (Same.refl H), upd_same⟩ ?_ fun H2 ⟨S2, h2⟩ => k D H2 hD S2 h2
  rintro i H2 hi ⟨S2, h2⟩
  refine hs i hi H2 _ S2 fun σ2 hw q => ⟨hw, yes (ift (q _ fun H4 S4 => ⟨_, S4 _ _ h2, Nat.lt_of_le_of_lt (m := 100000) (by simp; omega) (by decide), fun b o e => ?_, ?_⟩))⟩
  · rw [upd_ne (ne_of_none e hD)]
    exact S4 _ _ (S2 _ _ e)
  · rw [upd_same, List.range_succ, List.map_append]
    rfl
/-- a comprehension whose items are new objects: R tells what the i-th item is -/
theorem lc_rngR {n : Nat} {lo : Int} {idx : Nat} {vs : List Nat} (R : Nat → V → Hp → Prop) (hn : n ≤ 100000) (hw : ∀ v : V, wipe ((wipe σ vs).set idx (some v)) vs = wipe σ vs)
    (hs : ∀ i : Nat, i < n → ∀ H' D, H D = none → Same H H' → H' D ≠ none → ∀ Q' : VK, (∀ y H'', Same H' H'' → (∀ Hx, But D H'' Hx → R i y Hx) → Q' y H'') → te ((wipe σ vs).set idx (some (.int (lo + i)))) H' Q')
    (k : ∀ D ys H', H D = none → Same H H' → H' D = some (.lst ys) → ys.length = n → (∀ (i : Nat) y, ys[i]? = some y → R i y H') → Q (.ref D) H') : lcK (gName idx) tYes te vs σ Q (Itr lo n) H := fun D hD => by
  refine lc_range (lo := lo) (n := n) (fun i H2 => ∃ ys : List V, Same H H2 ∧ H2 D = some (.lst ys) ∧ ys.length = i ∧ ∀ (j : Nat) y, ys[j]? = some y → ∀ Hx, But D H2 Hx → R j y Hx) ⟨[], Same.nw hD (Same.refl H), upd_same, rfl, fun j y h => by cases h⟩ ?_ fun H2 ⟨ys, S2, h2, hl, hR⟩ => k D ys H2 hD S2 h2 hl fun j y h => hR j y h H2 fun _ _ _ e => e
  rintro i H2 hi ⟨ys, S2, h2, hl, hR⟩
  refine ⟨hw _, yes (ift (hs i hi H2 D hD S2 (by rw [h2]; simp) _ fun y H4 S4 hy => ⟨_, S4 _ _ h2, Nat.lt_of_le_of_lt (m := 100000) (by omega) (by decide), ys ++ [y], fun b o e => ?_, upd_same, by simp [hl], fun j z hz Hx hb => ?_⟩))⟩
  · rw [upd_ne (ne_of_none e hD)]
    exact S4 _ _ (S2 _ _ e)
  · have b4 : But D H4 Hx := fun b o ne e => hb b o ne (by rw [upd_ne ne]; exact e)
    rcases Nat.lt_or_ge j ys.length with lt1 | ge1
    · rw [List.getElem?_append_left lt1] at hz
      exact hR j z hz Hx fun b o ne e => b4 b o ne (S4 _ _ e)
    · rw [List.getElem?_append_right ge1] at hz
      have ej : j - ys.length = 0 := by
        have := (List.getElem?_eq_some_iff.mp hz).1
        simp at this
        omega
      rw [ej] at hz
      obtain rfl : y = z := Option.some.inj hz
      obtain rfl : j = i := by omega
      exact hy Hx b4
/-- over a range by steps -/
theorem for_itc {lo c : Int} {n : Nat} {g : TG} (Pv : Nat → L2.St → Hp → Prop) (h0 : Pv 0 σ H) (hs : ∀ (i : Nat) σ H, i < n → Pv i σ H → g (.int (lo + (i : Nat) * c)) σ H fun σ2 H2 => ts { D with nx := Pv (i + 1), ct := Pv (i + 1), bk := D.nx } σ2 H2) (hd : ∀ σ H, Pv n σ H → D.nx σ H) :
    forK g ts D σ (Itc lo c n) H := for_rangeC Pv h0 hs hd
def rng3K (R : It → Hp → Prop) : List V → Hp → Prop := fun vs H1 => ∃ (i j c : Int) (n : Nat), vs = [.int i, .int j, .int c] ∧ RgC i j c n ∧ R (Itc i c n) H1
theorem rng3 {R : It → Hp → Prop} (k : t σ H (rng3K R)) : iRng3 t σ H R := k
theorem rng3K_i {R : It → Hp → Prop} {i j c : Int} {n : Nat} (h : RgC i j c n) (k : R (Itc i c n) H) : rng3K R [.int i, .int j, .int c] H := ⟨i, j, c, n, rfl, h, k⟩
/-- [e for x in a list], e worth f of the place -/
theorem lc_lst {a : Addr} {xs : List V} {g : TG} {vs : List Nat} (f : Nat → V) (ha : SqL K H a xs) (hn : xs.length ≤ 100000) (hs : ∀ i x, xs[i]? = some x → Turn1 g te σ vs x (f i) H) (k : ∀ D H', H D = none → Same H H' → H' D = some (.lst ((List.range xs.length).map f)) → Q (.ref D) H') :
    lcK g tYes te vs σ Q (Itl K a) H := fun D hD => by
  refine lc_list (K := K) (a := a) (xs := xs) (fun i H2 => Same H H2 ∧ H2 D = some (.lst ((List.range i).map f))) ⟨Same.nw hD (Same.refl H), upd_same⟩ (fun i H2 _ ⟨S2, _⟩ => S2.seq ha) ?_ fun H2 ⟨S2, h2⟩ => k D H2 hD S2 h2
  rintro i x H2 hx ⟨S2, h2⟩
  have hi : i < xs.length := (List.getElem?_eq_some_iff.mp hx).1
  refine hs i x hx H2 _ S2 fun σ2 hw q => ⟨hw, yes (ift (q _ fun H4 S4 => ⟨_, S4 _ _ h2, Nat.lt_of_le_of_lt (m := 100000) (by simp; omega) (by decide), fun b o e => ?_, ?_⟩))⟩
  · rw [upd_ne (ne_of_none e hD)]
    exact S4 _ _ (S2 _ _ e)
  · rw [upd_same, List.range_succ, List.map_append]
    rfl
theorem lc_tpl {a : Addr} {xs : List V} {g : TG} {vs : List Nat} (f : Nat → V) (ha : SqT K H a xs) (hn : xs.length ≤ 100000) (hs : ∀ i x, xs[i]? = some x → Turn1 g te σ vs x (f i) H) (k : ∀ D H', H D = none → Same H H' → H' D = some (.lst ((List.range xs.length).map f)) → Q (.ref D) H') :
    lcK g tYes te vs σ Q (Itt K a) H := fun D hD => by
  refine lc_tup (K := K) (a := a) (xs := xs) (fun i H2 => Same H H2 ∧ H2 D = some (.lst ((List.range i).map f))) ⟨Same.nw hD (Same.refl H), upd_same⟩ (fun i H2 _ ⟨S2, _⟩ => sqt_sm S2 ha) ?_ fun H2 ⟨S2, h2⟩ => k D H2 hD S2 h2
  rintro i x H2 hx ⟨S2, h2⟩
  have hi : i < xs.length := (List.getElem?_eq_some_iff.mp hx).1
  refine hs i x hx H2 _ S2 fun σ2 hw q => ⟨hw, yes (ift (q _ fun H4 S4 => ⟨_, S4 _ _ h2, Nat.lt_of_le_of_lt (m := 100000) (by simp; omega) (by decide), fun b o e => ?_, ?_⟩))⟩
  · rw [upd_ne (ne_of_none e hD)]
    exact S4 _ _ (S2 _ _ e)
  · rw [upd_same, List.range_succ, List.map_append]
    rfl
/-- with an if: the test's answer, the item's worth -/
def Turn2 (g : TG) (tt : L2.TT) (te : TE) (σ : L2.St) (vs : List Nat) (x : V) (b : Bool) (y : V) (H0 : Hp) : Prop :=
  ∀ H' (QS : L2.St → Hp → Prop), Same H0 H' → (∀ σ2, wipe σ2 vs = wipe σ vs → (∀ Q' : Bool → Hp → Prop, (∀ H'', Same H' H'' → Q' b H'') → tt σ2 H' Q') → (∀ H1, Same H' H1 → b = true → ∀ Q' : VK, (∀ H'', Same H1 H'' → Q' y H'') → te σ2 H1 Q') → QS σ2 H') → g x (wipe σ vs) H' QS
theorem turn2 {i : Nat} {x y : V} {b : Bool} {H0 : Hp} {vs : List Nat} (hw : wipe ((wipe σ vs).set i (some x)) vs = wipe σ vs) (h1 : ∀ H', Same H0 H' → ∀ Q' : Bool → Hp → Prop, (∀ H'', Same H' H'' → Q' b H'') → tt ((wipe σ vs).set i (some x)) H' Q')
    (h2 : ∀ H', Same H0 H' → b = true → ∀ Q' : VK, (∀ H'', Same H' H'' → Q' y H'') → te ((wipe σ vs).set i (some x)) H' Q') : Turn2 (gName i) tt te σ vs x b y H0 :=
  fun H' QS S k => k _ hw (fun Q' q => h1 H' S Q' q) fun H1 S1 hb Q' q => h2 H1 (S.trans S1) hb Q' q
theorem lc_rng_if {n : Nat} {lo : Int} {g : TG} {vs : List Nat} (c : Nat → Bool) (f : Nat → V) (hn : n ≤ 100000) (hs : ∀ i : Nat, i < n → Turn2 g tt te σ vs (.int (lo + i)) (c i) (f i) H) (k : ∀ D H', H D = none → Same H H' → H' D = some (.lst (((List.range n).filter c).map f)) → Q (.ref D) H') :
    lcK g tt te vs σ Q (Itr lo n) H := fun D hD => by
  refine lc_range (lo := lo) (n := n) (fun i H2 => Same H H2 ∧ H2 D = some (.lst (((List.range i).filter c).map f))) ⟨Same.nw hD (Same.refl H), upd_same⟩ ?_ fun H2 ⟨S2, h2⟩ => k D H2 hD S2 h2
  rintro i H2 hi ⟨S2, h2⟩
  have e1 : (List.range (i + 1)).filter c = (List.range i).filter c ++ if c i = true then [i] else [] := by
    rw [List.range_succ, List.filter_append]
    congr 1
    by_cases h : c i = true <;> simp [h]
  have hl : ((List.range i).filter c).length ≤ i := by
    have := List.length_filter_le c (List.range i)
    rw [List.length_range] at this
    exact this
  refine hs i hi H2 _ S2 fun σ2 hw q1 q2 => ⟨hw, q1 _ fun H3 S3 => ?_⟩
  have h3 := S3 _ _ h2
  refine bb (fun hc => q2 H3 S3 hc _ fun H4 S4 => ⟨_, S4 _ _ h3, Nat.lt_of_le_of_lt (m := 100000) (by rw [List.length_map]; omega) (by decide), fun b o e => ?_, ?_⟩) fun hc => ⟨S2.trans S3, ?_⟩
  · rw [upd_ne (ne_of_none e hD)]
    exact S4 _ _ (S3 _ _ (S2 _ _ e))
  · rw [upd_same, e1, if_pos hc, List.map_append]
    rfl
  · rw [e1, if_neg (by rw [hc]; decide), List.append_nil]
    exact h3
theorem lc_rng0_if {n : Nat} {g : TG} {vs : List Nat} (c : Nat → Bool) (f : Nat → V) (hn : n ≤ 100000) (hs : ∀ i : Nat, i < n → Turn2 g tt te σ vs (.int (i : Int)) (c i) (f i) H) (k : ∀ D H', H D = none → Same H H' → H' D = some (.lst (((List.range n).filter c).map f)) → Q (.ref D) H') :
    lcK g tt te vs σ Q (Itr 0 n) H := lc_rng_if (lo := 0) c f hn (fun i hi => by have z := hs i hi; rw [Int.zero_add]; exact z) k
theorem lc_lst_if {a : Addr} {xs : List V} {g : TG} {vs : List Nat} (c : Nat → Bool) (f : Nat → V) (ha : SqL K H a xs) (hn : xs.length ≤ 100000) (hs : ∀ i x, xs[i]? = some x → Turn2 g tt te σ vs x (c i) (f i) H) (k : ∀ D H', H D = none → Same H H' → H' D = some (.lst (((List.range xs.length).filter c).map f)) → Q (.ref D) H') :
    lcK g tt te vs σ Q (Itl K a) H := fun D hD => by
  refine lc_list (K := K) (a := a) (xs := xs) (fun i H2 => Same H H2 ∧ H2 D = some (.lst (((List.range i).filter c).map f))) ⟨Same.nw hD (Same.refl H), upd_same⟩ (fun i H2 _ ⟨S2, _⟩ => S2.seq ha) ?_ fun H2 ⟨S2, h2⟩ => k D H2 hD S2 h2
  rintro i x H2 hx ⟨S2, h2⟩
  have hi : i < xs.length := (List.getElem?_eq_some_iff.mp hx).1
  have e1 : (List.range (i + 1)).filter c = (List.range i).filter c ++ if c i = true then [i] else [] := by
    rw [List.range_succ, List.filter_append]
    congr 1
    by_cases h : c i = true <;> simp [h]
  have hl : ((List.range i).filter c).length ≤ i := by
    have := List.length_filter_le c (List.range i)
    rw [List.length_range] at this
    exact this
  refine hs i x hx H2 _ S2 fun σ2 hw q1 q2 => ⟨hw, q1 _ fun H3 S3 => ?_⟩
  have h3 := S3 _ _ h2
  refine bb (fun hc => q2 H3 S3 hc _ fun H4 S4 => ⟨_, S4 _ _ h3, Nat.lt_of_le_of_lt (m := 100000) (by rw [List.length_map]; omega) (by decide), fun b o e => ?_, ?_⟩) fun hc => ⟨S2.trans S3, ?_⟩
  · rw [upd_ne (ne_of_none e hD)]
    exact S4 _ _ (S3 _ _ (S2 _ _ e))
  · rw [upd_same, e1, if_pos hc, List.map_append]
    rfl
  · rw [e1, if_neg (by rw [hc]; decide), List.append_nil]
    exact h3
end Rd
end Tk

/-! ### Exceptions whose __init__ begins with super().__init__(..) -/
namespace Tk
open PySem PySem.Spec PyProof.Rows L2
namespace Ex
section
variable {X : Cx} {pins : List (Addr × Obj)} {σ : L2.St} {H : Hp} {s : Shared}
theorem pin_new {h' : Heap} {tk : Nat} (I : Inv X pins σ H s) (k : ∀ b o, s.heap.get? b = some o → h'.get? b = some o) {u : Addr} {ou : Obj} (hu : h'.get? u = some ou) (ge : s.heap.objs.size ≤ u) (hc : ∀ v, ou.data ≠ .cell v) :
    Inv X ((u, ou) :: pins) σ H { s with heap := h', toks := tk } := by
  have J : Inv X pins σ H { s with heap := h', toks := tk } := I.kept k
  refine J.pins_of fun p hp => ?_
  rcases List.mem_cons.mp hp with rfl | hp
  · refine ⟨hu, I.hok.fresh ge, fun z => ?_, fun z => ?_, hc⟩
    · obtain ⟨m, hn, _⟩ := I.loc
      obtain ⟨oL, _, _, hL, _⟩ := hn
      have lt : X.env.locals < s.heap.objs.size := Heap.lt_size hL
      have z : u = X.env.locals := z
      exact absurd lt (Nat.not_lt.mpr (by rw [← z]; exact ge))
    · have z : u ∈ X.fs := z
      obtain ⟨_, o, ho, _⟩ := I.ok.funs.mem z
      obtain ⟨sl, e⟩ := I.base.slot u o ho (I.ok.frf u z) z (fun hx => I.ok.exfs u hx z)
      have lt : u < s.heap.objs.size := Heap.lt_size e
      exact absurd lt (Nat.not_lt.mpr ge)
  · exact J.pin p (List.mem_append_right _ hp)
theorem nm_blt {E : Value → Shared → Prop} {x : Str} {u : Value} {Q : Value → Shared → Prop} (I : Inv X pins σ H s) (hx : X.env.kindOf x = some .globalImplicit) (hm : X.mg x = none) (hv : bootBuiltins x = some u) (h : Q u s) (hn : x ≠ "__name__" := by decide) :
    wpAny (model X.prog X.w) X.A (loadName X.env x) Q E s := by
  obtain ⟨mb, h1, h2⟩ := I.mod.blt
  unfold loadName
  simp only [Env.blockKind, I.ok.kind, hx, ScopeKind.isAnnotationScope, Bool.false_and, Bool.false_eq_true, if_false]
  exact Calls.loadGlobal_builtin (by rw [I.ok.glob]; exact I.mod.glob.keeps I.bk) hm (by rw [I.ok.blt]; exact h1.keeps I.bk) ((h2 x hn).trans hv) h
end
section
variable {prog : Program} {w : World} {A : Around} {E : Value → Shared → Prop} {h : Heap} {g : Array GenState} {d : Drawn} {t : Nat} {os : OsState}
variable {nm q : Str} {C N : Addr} {bs bm : List Value} {hdct : Bool} {sn : List Str} {sub : List Value} {ab : Bool} {col : Option Bool} {dd : Option Addr} {k0 k1 k2 k3 k5 : Option Value}
theorem call_mw {u e t0 : Addr} {rest : List Value} {Q : Value → Shared → Prop}
    (hC : h.get? C = some (excClassObj nm q C N bs bm hdct sn sub ab col dd k0 k1 k2 k3 k5 "ValueError.__new__")) (he : h.get? e = some (HandSPX.excO C t0)) (hu : h.get? u = some (PySem.W.kxs_mw "ValueError.__init__" e)) (hrest : rest.length ≤ sizeLine)
    (hq : ∀ h' t1, (∀ b o, b ≠ e → h.get? b = some o → h'.get? b = some o) → h'.get? e = some (HandSPX.excO C t1) → Q .none ⟨h', g, d, t, os⟩) :
    wpAny (model prog w) A (call (.ref u) rest) Q E ⟨h, g, d, t, os⟩ := by
  refine wpAny_call (codeAny_of_tree ?_)
  show wpAny _ A.in1 (callAny (.ref u) ⟨rest, []⟩) _ _ _
  simp only [callAny]
  refine wpAny_bind (wpAny_load hu ?_)
  simp only [PySem.W.kxs_mw, show (Value.type "method-wrapper" == Value.type "method" || Value.type "method-wrapper" == Value.type "builtin_function_or_method" || Value.type "method-wrapper" == Value.type "method-wrapper") = true by decide, if_true]
  refine PySem.W.KFB.if_so (by decide) ?_
  refine wpAny_bind (ESX.check_bound F.excBase_ValueError hC he rfl ?_)
  refine wpAny_bind (wpAny_pure (wpAny_pure ?_))
  refine ⟨Code.quiet_builtin _ (by decide +kernel), codeAny_builtin F.excBase_ValueError.initEntry ?_⟩
  rw [Around.under_plainId F.excBase_ValueError.init.plain _]
  wp_walk
  refine hq _ h.objs.size (fun b o hb ho => ?_) ?_
  · rw [Heap.get?_update_other _ _ (Ne.symm hb)]
    exact Heap.get?_push_of_some _ ho
  · rw [Heap.get?_update_self _ (Heap.get?_push_of_some _ he) rfl]
    rfl
end
section
variable {X : Cx} {pins : List (Addr × Obj)} {σ : L2.St} {H : Hp} {s : Shared}
/-- super().__init__(e), the first statement -/
theorem sup_stmt {body : List Stmt} {e : Expr} {te : TE} {C f c x : Addr} {of oc : Obj} {fd : FuncData} {ar : Arg} {vs : Array Value} {file : Str} {tf : Tok} {j : Nat} {p0 p1 p2 p3 p4 : Pos} {D : Hp → Prop} (I : Inv X pins σ H s) (T : SupC X.K C)
    (hks : X.env.kindOf "super" = some .globalImplicit) (hkc : X.env.kindOf "__class__" = some .free) (hself : X.env.kindOf "self" = some .local) (hfu : X.env.func = some f) (hf : X.K.lookup f = some of) (hfd : of.data = .func fd)
    (hp : (fd.params.posonlyargs ++ fd.params.args).head? = some ar) (har : ar.arg = "self") (hco : X.env.code = .ref c) (hcc : X.K.lookup c = some oc) (hoc : oc.data = .fields vs) (hvs : vs[2]? = some (.str file tf))
    (hfile : ((X.prog.main.file : Str) == file) = true) (htop : (X.prog.main.scope.names.lookup ("super" : Str)).isSome = false) (hmg : X.mg "super" = none)
    (hN0 : X.N[0]? = some ("self" : Str)) (hσ : σ[0]? = some (some (.ref x))) (hNc : X.N[j]? = some ("__class__" : Str)) (hσc : σ[j]? = some (some (.ref C))) (hx : H x = some (exo x C none))
    (he : PE X e te) (q : te σ H fun v H1 => ([v] : List V).length ≤ 1000 ∧ H1 x = some (exo x C none) ∧ D H1)
    {pl : Sem Bool} (hmc : eval (.Call (.Attribute (.Call (.Name "super" p0) [] [] p1) "__init__" p2) [e] [] p3) X.env = (do
      let ov ← attributeBase (.Call (.Name "super" p0) [] [] p1) "__init__" X.env (eval (.Call (.Name "super" p0) [] [] p1) X.env)
      standAt p2.atName
      let (f, first) ← holding [ov] (getMethod ov "__init__" pl)
      callWith p3 f first (backTo p3 (starEach [e] X.env)) []) := by rfl)
    (hst : starEach [e] X.env = (false, eval e X.env) :: starEach [] X.env := by rfl) (hpl : (backTo p3 (starEach [] X.env)).any (·.1) = false := by rfl) :
    PySem.wpAt (model X.prog X.w) X.A (.func body X.env) (exec (.Expr (.Call (.Attribute (.Call (.Name "super" p0) [] [] p1) "__init__" p2) [e] [] p3) p4) X.env) (fun fl s' => fl = .next ∧ ∃ H1, Inv X pins σ H1 s' ∧ D H1) X.xe s := by
  refine PySem.ks_wpAt_Expr_any ?_ I.quiet (by rfl)
  refine PySem.ks_wpAt_MethodCall ?_ hmc
  refine PySem.ks_wpAt_super_base hks hkc (by decide) hfu (I.kIn _ _ hf) hfd hp hco (I.kIn _ _ hcc) hoc hvs hfile htop ?_
  refine nm_blt I hks hmg (by rfl) ⟨rfl, ?_⟩
  obtain ⟨m, hn, hl⟩ := id I.loc
  obtain ⟨uc, rc, lc⟩ := hl j "__class__" (.ref C) hNc hσc (.inr (.inr hkc))
  obtain rfl : uc = Value.ref C := rc
  obtain ⟨us, rs, ls⟩ := hl 0 "self" (.ref x) hN0 hσ (.inl hself)
  obtain rfl : us = Value.ref x := rs
  obtain ⟨cl, hcl, hcell⟩ : ∃ c, X.env.cells.lookup ("__class__" : Str) = some c ∧ s.heap.IsCell c (some (.ref C)) := by
    rcases lc with ⟨z, _⟩ | ⟨_, z⟩
    · rw [hkc] at z
      cases z
    · exact z
  have hm : m "self" = some (.ref x) := by
    rcases ls with ⟨_, z⟩ | ⟨z, _⟩
    · exact z
    · rw [hself] at z
      rcases z with z | z <;> cases z
  refine wpAny_loadName_free I.ok.kind hkc hcl hcell ?_
  rw [har]
  refine wpAny_loadName_local I.ok.kind hself hn hm ?_
  obtain ⟨nm, qn, N, bs, bm, sn, sub, ab, col, dd, k0, k1, k2, k3, k5, hC, hbm⟩ := T.oex.cls
  have hC' := I.kIn _ _ hC
  refine PySem.ks_wpAny_isType_cls hC' rfl ⟨rfl, ?_⟩
  obtain ⟨t1, ho⟩ := exo_at I.hok hx
  obtain ⟨hp0, g, d, t, os⟩ := s
  refine PySem.ks_wpAny_call_super hC' rfl ho rfl (fun c z => by cases z) (PySem.W.looks_subIn I.kIn T.self) fun h' hso k => ?_
  have J : Inv X ((hp0.objs.size, PySem.W.ks_superObj C x C) :: pins) σ H ⟨h', g, d, t, os⟩ := pin_new (tk := t) I k hso (Nat.le_refl _) fun v z => by cases z
  obtain ⟨cd, hcd, hup⟩ : ∃ cd, PySem.W.clsIn X.K C = some cd ∧ PySem.W.alongIn X.K "__init__" ((cd.mro.dropWhile (· != .ref C)).drop 1) = some (some (.builtin "ValueError.__init__")) := by
    have z := T.up
    unfold PySem.W.ks_superIn at z
    cases e : PySem.W.clsIn X.K C with
    | none => rw [e] at z; cases z
    | some cd =>
      rw [e] at z
      exact ⟨cd, rfl, z⟩
  have ho' := k _ _ ho
  have IA : PySem.W.InstAt h' x _ C none := ⟨ho', rfl, rfl, trivial⟩
  have LI : PySem.W.Looks (model X.prog X.w) h' (isInstance (.ref x) (.type "ValueError")) true := IA.type.andThen (PySem.W.looks_subIn J.kIn T.ve)
  refine PySem.W.kxs_getMethod PySem.W.kxs_ValueError hso (PySem.W.looks_opaque J.kIn T.op) (l₀ := cd.mro) (fun A Q E s k q => wpAny_bind ((PySem.W.looks_clsIn J.kIn hcd) A _ E s k (wpAny_pure q))) rfl J.kIn hup LI (PySem.W.ks_ne J.kIn IA hcd) (by decide) ?_
  have hu : (h'.push (PySem.W.kxs_mw "ValueError.__init__" x)).get? h'.objs.size = some (PySem.W.kxs_mw "ValueError.__init__" x) := Heap.get?_push_at rfl rfl
  have J2 : Inv X ((h'.objs.size, PySem.W.kxs_mw "ValueError.__init__" x) :: (hp0.objs.size, PySem.W.ks_superObj C x C) :: pins) σ H ⟨h'.push (PySem.W.kxs_mw "ValueError.__init__" x), g, d, t + 1, os⟩ :=
    pin_new (tk := t + 1) J (fun b o e => Heap.get?_push_of_some _ e) hu (Nat.le_refl _) fun v z => by cases z
  generalize hU : h'.objs.size = u at hu J2 ⊢
  show wpAny _ _ (callWith p3 (.ref u) [] (backTo p3 (starEach [e] X.env)) []) _ _ _
  have ha : PA X [e] (tCons te tNil) := pa_cons he pa_nil (hs := hst)
  have run : wpAny (model X.prog X.w) X.A (spliced (backTo p3 (starEach [e] X.env))) (fun vs s₁ => PySem.W.KxsAt "ValueError.__init__" u x s₁.heap ∧ wpAny (model X.prog X.w) X.A (call (.ref u) vs) (fun _ s' => Flow.next = Flow.next ∧ ∃ H1, Inv X pins σ H1 s' ∧ D H1) X.xe s₁) X.xe
      ⟨h'.push (PySem.W.kxs_mw "ValueError.__init__" x), g, d, t + 1, os⟩ := by
    refine thn (ha.run p3 _ _ σ H (fun vs H1 => vs.length ≤ 1000 ∧ H1 x = some (exo x C none) ∧ D H1) J2 q) fun us s1 hh => ?_
    obtain ⟨vs1, H1, I1, r1, l1, ex, dq⟩ := hh
    have hu1 := (I1.pin (u, PySem.W.kxs_mw "ValueError.__init__" x) (List.mem_append_right _ (List.mem_cons_self))).1
    refine ⟨hu1, ?_⟩
    obtain ⟨t2, ho2⟩ := exo_at I1.hok ex
    have hlen : us.length ≤ sizeLine := by
      rw [← Paired.length r1, sizeLine_eq]
      omega
    obtain ⟨hp1, g1, d1, t3, os1⟩ := s1
    refine call_mw (I1.kIn _ _ hC) ho2 hu1 hlen fun h2 t4 k2 hx2 => ?_
    have K2 := I1.write (t' := t3) (x := x) (e := x) (o := exo x C none) (by rw [ex]; exact True.intro) (.inl rfl) k2 ⟨_, hx2⟩ (exo_ok hx2)
    have eu : upd H1 x (exo x C none) = H1 := by
      funext b
      by_cases hb : b = x
      · rw [hb, upd_same, ex]
      · rw [upd_ne hb]
    rw [eu] at K2
    exact ⟨rfl, H1, K2.pins_of fun p hp => K2.pin p (List.mem_append_right _ (List.mem_cons_of_mem _ (List.mem_cons_of_mem _ hp))), dq⟩
  rw [hst] at run ⊢
  refine PySem.W.kxs_callWith (i := "ValueError.__init__") (x := x) (by show (false || (backTo p3 (starEach [] X.env)).any (·.1)) = false; rw [hpl]; rfl) ?_
  exact Calls.evalArgs_plain run
end
end Ex
end Tk

/-! ### .. : the __init__ as a def, its class called -/
namespace Tk
open PySem PySem.Spec PyProof.Rows L2
namespace Ex
/-- what the written part says of such an __init__ -/
structure SupFn (P : Program) (K : PySem.W.Frag) (mg : Str → Option Value) (C f : Addr) (qual : Str) (params : Arguments) (body : List Stmt) (scope : Scope) : Prop where
  ex : ∃ (od : Option Addr) (doc pm ctv : Value) (an : Option Addr) (osl : Array (Option Value)) (c cc : Addr) (oc ocl : Obj) (vs : Array Value) (tf : Tok),
    K.lookup f = some ⟨.type "function", od, .func (PySem.W.fnX "__init__" qual params body scope [("__class__", cc)] .none .none doc pm an (.ref c) ctv), osl⟩ ∧ PySem.W.codeIn K (.ref c) qual = true ∧
      K.lookup c = some oc ∧ oc.data = .fields vs ∧ vs[2]? = some (.str P.main.file tf) ∧ K.lookup cc = some ocl ∧ ocl.data = .cell (some (.ref C))
  kp : PySem.W.keepIn K (.ref f) = true
  sup : SupC K C
  mgS : mg "super" = none
  top : (P.main.scope.names.lookup ("super" : Str)).isSome = false
abbrev nf (qual : Str) (params : Arguments) (body : List Stmt) (scope : Scope) (cc c : Addr) : NdefX.NF := ⟨"__init__", qual, params, body, scope, [("__class__", cc)], c⟩
section
variable {P : Program} {w : World} {K : PySem.W.Frag} {mg : Str → Option Value} {base : Heap} {C f : Addr} {qual : Str} {params : Arguments} {body : List Stmt} {scope : Scope} {N ps : List Str} {k : Nat} {sp : Sp}
theorem ok_sup {e : Expr} {rest : List Stmt} {p0 p1 p2 p3 p4 : Pos} {ar : Arg} {n : Nat} (G : SupFn P K mg C f qual params body scope) (S : NdefX.NScope N ps ["__class__"] scope) (hn : ps.length = n + 1) (h0 : N[0]? = some ("self" : Str)) (hc : N[n + 1]? = some ("__class__" : Str))
    (hself : scope.names.lookup ("self" : Str) = some .local) (hks : scope.names.lookup ("super" : Str) = some .globalImplicit) (hp : (params.posonlyargs ++ params.args).head? = some ar) (har : ar.arg = "self")
    (hbd : body = .Expr (.Call (.Attribute (.Call (.Name "super" p0) [] [] p1) "__init__" p2) [e] [] p3) p4 :: rest)
    (hb : ∀ (doc pm ctv : Value) (an : Option Addr) (c cc : Addr) (us : List Value), us.length = ps.length → bindArgs (PySem.W.fnX "__init__" qual params body scope [("__class__", cc)] .none .none doc pm an (.ref c) ctv) ⟨us, []⟩ = pure (ps.zip us))
    (len : ∀ vs H Q E, sp vs H Q E → vs.length = ps.length)
    (hbody : ∀ (c cc : Addr) (A : Around) (outer : List Env) (s : Shared) (H : Hp) (vs : List V) (Q : VK) (E : XK), Room k (A.deeper (NdefX.envF (nf qual params body scope cc c) f s.heap.objs.size)) → sp vs H Q E →
      ∃ (x : Addr) (r : List V) (te : TE) (t : TS), vs = .ref x :: r ∧ H x = some (exo x C none) ∧ PE (NdefX.ncx (L2.CX P w) P w K mg base N (nf qual params body scope cc c) f A outer s H E) e te ∧ PSs (NdefX.ncx (L2.CX P w) P w K mg base N (nf qual params body scope cc c) f A outer s H E) rest t ∧
        te (NdefX.startF N vs [some (.ref C)]) H fun v H1 => ([v] : List V).length ≤ 1000 ∧ H1 x = some (exo x C none) ∧ t { nx := fun _ H' => Q .non H', rt := Q } (NdefX.startF N vs [some (.ref C)]) H1)
    (hmc : ∀ (c cc : Addr) (A : Around) (outer : List Env) (s : Shared) (H : Hp) (E : XK), ∃ pl : Sem Bool, eval (.Call (.Attribute (.Call (.Name "super" p0) [] [] p1) "__init__" p2) [e] [] p3) (NdefX.ncx (L2.CX P w) P w K mg base N (nf qual params body scope cc c) f A outer s H E).env = (do
      let ov ← attributeBase (.Call (.Name "super" p0) [] [] p1) "__init__" (NdefX.ncx (L2.CX P w) P w K mg base N (nf qual params body scope cc c) f A outer s H E).env (eval (.Call (.Name "super" p0) [] [] p1) (NdefX.ncx (L2.CX P w) P w K mg base N (nf qual params body scope cc c) f A outer s H E).env)
      standAt p2.atName
      let (f', first) ← holding [ov] (getMethod ov "__init__" pl)
      callWith p3 f' first (backTo p3 (starEach [e] (NdefX.ncx (L2.CX P w) P w K mg base N (nf qual params body scope cc c) f A outer s H E).env)) []))
    (hst : ∀ env : Env, starEach [e] env = (false, eval e env) :: starEach [] env) : OkF P w K mg base (k + 1) f ps sp := by
  obtain ⟨od, doc, pm, ctv, an, osl, c, cc, oc, ocl, cvs, tf, lk, hcd, lc, hoc, hvs, lcc, hcl⟩ := G.ex
  refine ⟨⟨_, ⟨len, fun A outer s H args us vs Q E hr e0 hbind r hsp => ?_⟩, .all (hb doc pm ctv an c cc)⟩, G.kp⟩
  have hl := len _ _ _ _ hsp
  have KX : K.In s.heap := e0.mod.kin.keeps fun b o e => (e0.bs b o e).1
  have lim : s.heap.NoLimit := e0.mod.nolimit.keeps fun b o e => (e0.bs b o e).1
  have C0 : NdefX.CellsAt [("__class__", cc)] ["__class__"] [some (.ref C)] s.heap H := by
    have one : ∀ (y : Str) (d : Addr), List.lookup y [(("__class__" : Str), cc)] = some d → y = "__class__" ∧ d = cc := fun y d h => by
      rw [List.lookup_cons] at h
      cases e : y == ("__class__" : Str) with
      | true =>
        rw [e] at h
        exact ⟨beq_iff_eq.mp e, (Option.some.inj h).symm⟩
      | false =>
        rw [e] at h
        cases h
    have cl1 : s.heap.IsCell cc (some (.ref C)) := ⟨ocl, KX _ _ lcc, hcl⟩
    refine ⟨rfl, fun y d h => ?_, fun x y d h1 h2 => ?_, fun i y h => ?_⟩
    · obtain ⟨_, rfl⟩ := one y d h
      exact ⟨(e0.bs _ _ (e0.mod.kin _ _ lcc)).2, _, cl1⟩
    · rw [(one x d h1).1, (one y d h2).1]
    · cases i with
      | zero =>
        obtain rfl : ("__class__" : Str) = y := Option.some.inj h
        refine ⟨cc, by rw [List.lookup_cons, beq_self_eq_true], fun v hv => ?_⟩
        obtain rfl : V.ref C = v := Option.some.inj (Option.some.inj hv)
        exact ⟨.ref C, rfl, cl1⟩
      | succ i => cases h
  refine codeAny_call_function hr.depth (KX _ _ lk) rfl S.co S.gen rfl (PySem.W.codeRec_of KX hcd) (hbind _ _ _ _ ?_)
  refine wpAny_newFunctionEnv S.nocell (fun ⟨n, _⟩ hy => S.par n (List.of_mem_zip hy).1) (fun h₁ hns hsb => ⟨lim.fresh _ hsb, ?_⟩) S.kind
  show codeAny _ _ (.func body (NdefX.envF (nf qual params body scope cc c) f s.heap.objs.size)) _ _
  have kp : ∀ b o, s.heap.get? b = some o → h₁.get? b = some o := fun b o e => hsb.extBut b o (Nat.ne_of_lt (Heap.lt_size e)) (Heap.get?_push_of_some _ e)
  obtain ⟨x, rv, te, t, rfl, hx, he, ht, hq⟩ := hbody c cc A outer s H vs Q E (hr.deeper _) hsp
  have I : Inv (NdefX.ncx (L2.CX P w) P w K mg base N (nf qual params body scope cc c) f A outer s H E) [] (NdefX.startF N (.ref x :: rv) [some (.ref C)]) H { s with heap := h₁, toks := s.toks + (ps.zip us).length } :=
    NdefX.inv_startN (F := nf qual params body scope cc c) S hr.hd e0 hl r C0 hns kp
  obtain ⟨pl, hm⟩ := hmc c cc A outer s H E
  have hσ0 : (NdefX.startF N (.ref x :: rv) [some (.ref C)])[0]? = some (some (.ref x)) := rfl
  have hσc : (NdefX.startF N (.ref x :: rv) [some (.ref C)])[n + 1]? = some (some (.ref C)) := by
    unfold NdefX.startF
    have l2 : (V.ref x :: rv).length = n + 1 := by rw [hl, hn]
    rw [List.getElem?_append_right (by rw [List.length_map]; omega), List.length_map, l2, Nat.sub_self]
    rfl
  have st := sup_stmt (X := NdefX.ncx (L2.CX P w) P w K mg base N (nf qual params body scope cc c) f A outer s H E) (body := body) (p4 := p4) I G.sup hks (S.frk _ (List.mem_singleton.mpr rfl)) hself rfl lk rfl hp har rfl lc hoc hvs (beq_self_eq_true _) G.top G.mgS h0 hσ0 hc hσc hx he
    (D := fun H1 => t { nx := fun _ H' => Q .non H', rt := Q } (NdefX.startF N (.ref x :: rv) [some (.ref C)]) H1) hq hm (hst _) rfl
  have fin : ∀ {σ' : L2.St} {H' : Hp} {v : V} {u : Value} {s' : Shared}, Inv (NdefX.ncx (L2.CX P w) P w K mg base N (nf qual params body scope cc c) f A outer s H E) [] σ' H' s' → L2.RelV v u → Q v H' → CE outer P w H s Q u s' :=
    fun {σ' H' v u s'} J rv q => ⟨v, H', J.os, J.bare, J.base, J.hok, rv, q⟩
  refine PySem.ks_codeAny_funcAt ?_
  have ex : execs body (NdefX.envF (nf qual params body scope cc c) f s.heap.objs.size) = execs (.Expr (.Call (.Attribute (.Call (.Name "super" p0) [] [] p1) "__init__" p2) [e] [] p3) p4 :: rest) (NdefX.envF (nf qual params body scope cc c) f s.heap.objs.size) := congrArg (fun z => execs z _) hbd
  rw [ex]
  refine PySem.ks_wpAt_execs_cons (PySem.wpAt_mono st (fun fl s' hs => ?_) fun e s' hs => hs)
  obtain ⟨rfl, H1, J, qt⟩ := hs
  refine PySem.wpAt_of_wpAny (wpAny_mono (ht.run [] s' _ H1 _ J qt) (fun fl s2 hs => ?_) fun e s2 hs => hs)
  cases fl with
  | ret u =>
    obtain ⟨v, σ', H', J', rv', q⟩ := hs
    exact fin J' rv' q
  | next =>
    obtain ⟨σ', H', J', q⟩ := hs
    exact fin (v := V.non) (u := Value.none) J' rfl q
  | brk =>
    obtain ⟨_, _, _, q⟩ := hs
    exact False.elim q
  | cont =>
    obtain ⟨_, _, _, q⟩ := hs
    exact False.elim q
end
end Ex
end Tk

/-! ### Error classes: what the written part says of them; raising them; asking of which class one is -/
namespace Tk
open PySem PySem.Spec PyProof.Rows L2
namespace Ex
abbrev FILE : Str := "/claim/cut.py"
structure PF (P : Program) : Prop where
  file : (P.main.file : Str) = FILE
  top : (P.main.scope.names.lookup ("super" : Str)).isSome = false
/-- the exception's dict, if it has one, stands in H -/
def HasD (H : Hp) : Option Addr → Prop
  | none => True
  | some dd => ∃ fs, H dd = some (.xd fs)
def rIsX (K : PySem.W.Frag) (cls : Value) (d : Option Addr) (a : Addr) : List V → Hp → VK → Prop := fun xs H Q => ∃ (D : Addr) (c : V) (cv : Value) (b : Bool), cls = .ref D ∧ IsX K D ∧ xs = [.ref a, c] ∧ (∀ u, RelV c u → u = cv) ∧ PySem.W.kitOne K (.ref D) cv = some b ∧ HasD H d ∧ Q (.bl b) H
theorem call_isX {X : Cx} {a : Addr} {oe : Obj} {cls : Value} {d : Option Addr} {K : PySem.W.Frag} (hz : Zc cls d oe) (hf : ∃ vs, oe.data = .fields vs) (hK : X.K = K := by rfl) (hp : (a, oe) ∈ X.pn := by exact List.mem_cons_self) : CallR X (.builtin "isinstance") (rIsX K cls d a) := by
  subst hK
  intro pins s σ H xs us Q I r h
  obtain ⟨D, c, cv, b, rfl, C, rfl, hcv, e, hd, q⟩ := h
  cases r with
  | cons rx rr =>
    cases rr with
    | cons rt rr =>
      cases rr
      cases rx
      have ec := hcv _ rt
      subst ec
      obtain ⟨hget, _⟩ := I.pin (a, oe) (List.mem_append.mpr (.inl hp))
      obtain ⟨vs, hv⟩ := hf
      obtain ⟨od, J⟩ : ∃ od, PySem.W.InstAt s.heap a oe D od := by
        obtain ⟨oc, od, oda, osl⟩ := oe
        obtain ⟨h1, h2⟩ := hz
        dsimp only at h1 h2 hv
        subst h1 h2 hv
        cases od with
        | none => exact ⟨none, hget, rfl, rfl, trivial⟩
        | some dd =>
          obtain ⟨fs, hd⟩ := hd
          obtain ⟨mA, ⟨od, es, ep, e, _⟩, _⟩ := I.hok _ _ hd
          exact ⟨some od, hget, rfl, rfl, e⟩
      exact PySem.W.kia_one (PySem.W.kitx_exc C.cl C.hg C.hk C.hs C.ha C.hn C.ht C.hm) I.kIn J e (fun z => nomatch z) fun tk => ⟨.bl b, H, I.kept (t' := tk) fun _ _ z => z, rfl, q⟩
/-! the __init__ of an error with one attribute, with two -/
def spIni1 (C : Addr) (f1 : Str) : Sp := fun vs H Q _ => ∃ (x : Addr) (i : Int), vs = [.ref x, .int i] ∧ H x = some (exo x C none) ∧ i.natAbs.log2 < 1920 ∧ (toString i : Str).length ≤ 1000000 ∧
  ∀ dx, H dx = none → dx ≠ x → Q .non (upd (upd H dx (exd dx [(f1, .int i)])) x (exo x C (some dx)))
def spIni2 (C : Addr) (f1 f2 : Str) : Sp := fun vs H Q _ => ∃ (x : Addr) (y : Str) (i : Int), vs = [.ref x, .str y, .int i] ∧ H x = some (exo x C none) ∧ y.length ≤ 1000 ∧ i.natAbs.log2 < 1920 ∧ (toString i : Str).length ≤ 1000000 ∧
  ∀ dx, H dx = none → dx ≠ x → Q .non (upd (upd (upd H dx (exd dx [(f1, .str y)])) x (exo x C (some dx))) dx (exd dx [(f2, .int i), (f1, .str y)]))
end Ex
namespace Rd
variable {K : PySem.W.Frag} {σ : L2.St} {H : Hp} {C : Addr} {f1 f2 : Str}
theorem mkO1 {i : Int} {Q : XK} (hi : i.natAbs.log2 < 1920) (hl : (toString i : Str).length ≤ 1000000) (k : ∀ d H', H d = none → Same H H' → H' d = some (.xd [(f1, .int i)]) → Q (.ref C) (some d) H') :
    ([V.int i] : List V).length ≤ 1000 ∧ ∀ a, H a = none → Ex.spIni1 C f1 (.ref a :: ([V.int i] ++ [])) (upd H a (exo a C none)) (fun v H2 => v = .non ∧ ∃ (d : Addr) (fs : List (Str × V)), H2 a = some (exo a C (some d)) ∧ H2 d = some (exd d fs) ∧ H d = none ∧ Q (.ref C) (some d) (upd (del H2 a) d (.xd fs))) (fun _ _ _ => False) := by
  refine ⟨by simp, fun a ha => ⟨a, i, rfl, upd_same, hi, hl, fun dx n ne => ⟨rfl, dx, _, upd_same, by rw [upd_ne ne, upd_same], by rw [upd_ne ne] at n; exact n, ?_⟩⟩⟩
  rw [upd_ne ne] at n
  refine k dx _ n (fun b o e => ?_) upd_same
  have nb : b ≠ dx := ne_of_none e n
  have na : b ≠ a := ne_of_none e ha
  rw [upd_ne nb, del_ne na, upd_ne na, upd_ne nb, upd_ne na]
  exact e
theorem mkO2 {y : Str} {i : Int} {Q : XK} (hy : y.length ≤ 1000) (hi : i.natAbs.log2 < 1920) (hl : (toString i : Str).length ≤ 1000000) (k : ∀ d H', H d = none → Same H H' → H' d = some (.xd [(f2, .int i), (f1, .str y)]) → Q (.ref C) (some d) H') :
    ([V.str y, V.int i] : List V).length ≤ 1000 ∧ ∀ a, H a = none → Ex.spIni2 C f1 f2 (.ref a :: ([V.str y, V.int i] ++ [])) (upd H a (exo a C none)) (fun v H2 => v = .non ∧ ∃ (d : Addr) (fs : List (Str × V)), H2 a = some (exo a C (some d)) ∧ H2 d = some (exd d fs) ∧ H d = none ∧ Q (.ref C) (some d) (upd (del H2 a) d (.xd fs))) (fun _ _ _ => False) := by
  refine ⟨by simp, fun a ha => ⟨a, y, i, rfl, upd_same, hy, hi, hl, fun dx n ne => ⟨rfl, dx, _, by rw [upd_ne ne.symm, upd_same], upd_same, by rw [upd_ne ne] at n; exact n, ?_⟩⟩⟩
  rw [upd_ne ne] at n
  refine k dx _ n (fun b o e => ?_) upd_same
  have nb : b ≠ dx := ne_of_none e n
  have na : b ≠ a := ne_of_none e ha
  rw [upd_ne nb, del_ne na, upd_ne nb, upd_ne na, upd_ne nb, upd_ne na]
  exact e
end Rd
end Tk

/-! ### A lambda of one parameter, handed to a def with two more arguments -/
namespace Tk
open PySem PySem.Spec PyProof.Rows L2 LamX
/-- one parameter a, else captured names and globals -/
structure LamP (sc scope : Scope) (a : Str) : Prop where
  kd : scope.kind = .function
  co : scope.isCoroutine = false
  gen : scope.isGenerator = false
  par : scope.names.lookup a = some .local
  own : ∀ y ∈ scope.names, (y.2 = .local → y.1 = a) ∧ y.2 ≠ .cell
  fre : ∀ y ∈ scope.names, y.2 = .free → sc.names.lookup y.1 = some .cell ∨ sc.names.lookup y.1 = some .free
def lamPB (sc scope : Scope) (a : Str) : Bool :=
  decide (scope.kind = .function) && (!scope.isCoroutine && (!scope.isGenerator && (decide (scope.names.lookup a = some .local) && scope.names.all fun y => (!decide (y.2 = .local) || decide (y.1 = a)) && (!decide (y.2 = .cell) && (!decide (y.2 = .free) || (decide (sc.names.lookup y.1 = some .cell) || decide (sc.names.lookup y.1 = some .free)))))))
theorem lamP_by {sc scope : Scope} {a : Str} (h : lamPB sc scope a = true) : LamP sc scope a := by
  unfold lamPB at h
  simp only [Bool.and_eq_true, Bool.or_eq_true, Bool.not_eq_true', decide_eq_true_eq, decide_eq_false_iff_not, List.all_eq_true] at h
  obtain ⟨h1, h2, h3, h4, h5⟩ := h
  refine ⟨h1, h2, h3, h4, fun y hy => ⟨fun e => ?_, (h5 y hy).2.1⟩, fun y hy e => ?_⟩
  · rcases (h5 y hy).1 with z | z
    · exact absurd e z
    · exact z
  · rcases (h5 y hy).2.2 with z | z
    · exact absurd e z
    · exact z
/-- the context of its body: the maker's names, then the parameter -/
def lamCxP (X : Cx) (a : Str) (A : Around) (outer : List Env) (s : Shared) (H : Hp) (scope : Scope) (f c' : Addr) : Cx := { lamCx X A outer s H E0 scope f c' with N := X.N ++ [a] }
section
variable {X : Cx} {pins : List (Addr × Obj)} {σ : L2.St} {H HZ : Hp} {s s1 : Shared}
theorem lamP_start {a : Str} {y : V} {v : Value} {A : Around} {outer : List Env} {scope : Scope} {f c' : Addr} {h₁ : Heap} {tk : Nat} (I : Inv X pins σ H s) (L : LamP X.env.scope scope a) (hna : a ∉ X.N) (e0 : Env0 X.prog X.w X.K X.mg X.base A outer s1 HZ) (hd : A.handled = none)
    (un : Un (frs X.stack) [] H HZ s.heap s1.heap) (ry : RelV y v) (hns : h₁.Ns s1.heap.objs.size fun x => ([(a, v)] : List (Str × Value)).reverse.lookup x) (kp : ∀ b o, s1.heap.get? b = some o → h₁.get? b = some o) :
    Inv (lamCxP X a A outer s1 HZ scope f c') [] (σ ++ [some y]) HZ { s1 with heap := h₁, toks := tk } := by
  have frs0 : ∀ q ∈ scope.names, q.2 = .free → ∃ c, X.env.cells.lookup q.1 = some c := fun q hq e => (L.fre q hq e).elim (fun z => I.ok.has _ (.inl z)) fun z => I.ok.has _ (.inr z)
  have up : ∀ {q c}, (cloFrom X.env.cells scope.names []).lookup q = some c → X.env.cells.lookup q = some c := fun {q c} e => by
    rcases cloFrom_mem (PySem.mem_of_lookup e) with hm | ⟨z1, z2⟩
    · cases hm
    · obtain ⟨d, hdd⟩ := frs0 _ z1 rfl
      have hdd : X.env.cells.lookup q = some d := hdd
      have : c = d := by rw [z2, hdd] <;> rfl
      rw [this]
      exact hdd
  have has : ∀ {q}, scope.names.lookup q = some .free → ∃ c, (cloFrom X.env.cells scope.names []).lookup q = some c := fun {q} hl => mem_lookup (cloFrom_has (cells := X.env.cells) (acc := []) (PySem.mem_of_lookup hl))
  have cl : ∀ {c : Addr} {u : Option Value}, H c = none → s.heap.IsCell c u → h₁.IsCell c u := fun {c u} n ⟨o, ho, hdt⟩ => by
    obtain ⟨sl, z⟩ := un.any ho n (by simp)
    exact ⟨_, kp _ _ z, hdt⟩
  have none0 : ∀ b : Addr, b ∉ (lamCxP X a A outer s1 HZ scope f c').ex := fun b z => by cases (show b ∈ ([] : List Addr) from z)
  refine ⟨⟨e0.mod, L.kd, rfl, rfl, Nat.le_refl _, fun p q c e1 e2 => I.ok.inj p q c (up e1) (up e2), fun q hq => ?_, fun q c z _ => ?_, fun _ => hd, Around.frames_deeper e0.frames, .inr ⟨rfl, rfl⟩, fun b z => absurd z (none0 b), e0.bs, e0.bsz, fun b _ _ => none0 b,
      fun b z => absurd z (none0 b), e0.funs, e0.frf⟩,
    rfl, e0.bare, Un.kept kp, ⟨_, hns, fun i q u e1 e2 e3 => ?_⟩, fun q c e => ?_, e0.hok.fresh (Nat.le_refl _), fun q c e => ?_, fun q hq => absurd (show q ∈ ([] : List (Addr × Obj)) ++ [] from hq) (by simp), e0.hok.kept kp, ?_⟩
  · rcases (show scope.names.lookup q = some .cell ∨ scope.names.lookup q = some .free from hq) with z | z
    · exact absurd rfl (L.own _ (PySem.mem_of_lookup z)).2
    · exact has z
  · cases (show false = true from z)
  · have e1 : (X.N ++ [a])[i]? = some q := e1
    have e3 : Vis scope q := e3
    have hlen := I.len
    rcases Nat.lt_or_ge i X.N.length with lt | ge
    · rw [List.getElem?_append_left lt] at e1
      rw [List.getElem?_append_left (by rw [hlen]; exact lt)] at e2
      have qn : q ≠ a := fun z => hna (by rw [← z]; exact List.mem_of_getElem? e1)
      have kf : scope.names.lookup q = some .free := by
        rcases e3 with z | z | z
        · exact absurd ((L.own _ (PySem.mem_of_lookup z)).1 rfl) qn
        · exact absurd rfl (L.own _ (PySem.mem_of_lookup z)).2
        · exact z
      obtain ⟨m, _, hl⟩ := I.loc
      have vis : Vis X.env.scope q := (L.fre _ (PySem.mem_of_lookup kf) rfl).elim (fun z => .inr (.inl z)) fun z => .inr (.inr z)
      obtain ⟨w', r, z⟩ := hl i q u e1 e2 vis
      obtain ⟨d, hd2⟩ := has kf
      refine ⟨w', r, .inr ⟨.inr kf, d, hd2, ?_⟩⟩
      rcases z with ⟨z, _⟩ | ⟨_, c3, z1, z2⟩
      · have z : X.env.scope.names.lookup q = some .local := z
        rcases L.fre _ (PySem.mem_of_lookup kf) rfl with k2 | k2 <;> rw [show X.env.scope.names.lookup q = _ from k2] at z <;> cases z
      · rw [up hd2] at z1
        cases z1
        exact cl (I.freeC q _ (up hd2)) z2
    · have hi : i = X.N.length := by
        have := (List.getElem?_eq_some_iff.mp e1).1
        rw [List.length_append] at this
        have : i < X.N.length + 1 := this
        omega
      subst hi
      rw [List.getElem?_append_right (Nat.le_refl _), Nat.sub_self] at e1
      rw [List.getElem?_append_right (by rw [hlen]; exact Nat.le_refl _), hlen, Nat.sub_self] at e2
      obtain rfl : a = q := Option.some.inj e1
      have eu : some y = some u := Option.some.inj e2
      cases eu
      refine ⟨v, ry, .inl ⟨L.par, ?_⟩⟩
      show (match a == a with | true => some v | false => _) = some v
      rw [beq_self_eq_true]
  · obtain ⟨u, z⟩ := I.cell q c (up e)
    exact ⟨u, cl (I.freeC q c (up e)) z⟩
  · obtain ⟨u, o, ho, _⟩ := I.cell q c (up e)
    exact un.free c o ho (I.freeC q c (up e)) (by simp)
  · show (σ ++ [some y]).length = (X.N ++ [a]).length
    rw [List.length_append, List.length_append, I.len]
    rfl
/-- b(e), in the def that got the lambda -/
theorem pe_act1 {Eg : XK} {Ng : List Str} {qg : Str} {sg : Scope} {g f c' : Addr} {cdg pm ctv : Value} {params : Arguments} {body : Expr} {scope : Scope} {k i : Nat} {a b : Str} {tb : TE} {p1 p2 : Pos} {e : Expr} {te : TA}
    (I : Inv X pins σ H s) (L : LamP X.env.scope scope a) (hna : a ∉ X.N) (hf : s.heap.get? f = some (PySem.W.kla_obj "<lambda>" (X.env.qual ++ "<lambda>") params body scope (cloFrom X.env.cells scope.names []) pm c' ctv)) (hfn : H f = none) (hfr : f ∉ frs X.stack)
    (hbind : ∀ v, bindArgs (PySem.W.kla_fn "<lambda>" (X.env.qual ++ "<lambda>") params body scope (cloFrom X.env.cells scope.names []) pm (.ref c') ctv) ⟨[v], []⟩ = pure [(a, v)])
    (hr : Room (k + 1) (X.A.deeper (envOfC qg sg s.heap.objs.size g cdg))) (hbody : ∀ (A : Around) (outer : List Env) (s : Shared) (H : Hp), Room k (A.deeper (lamEnv X scope s.heap.objs.size f c')) → PE (lamCxP X a A outer s H scope f c') body tb)
    (hN : Ng[i]? = some b) (hv : Vis sg b) (ha : PA (cxOf (L2.CX X.prog X.w) X.prog X.w X.K X.mg X.base Ng qg sg g cdg X.A X.stack s H Eg) [e] te)
    (he : starEach [e] (cxOf (L2.CX X.prog X.w) X.prog X.w X.K X.mg X.base Ng qg sg g cdg X.A X.stack s H Eg).env = (false, eval e (cxOf (L2.CX X.prog X.w) X.prog X.w X.K X.mg X.base Ng qg sg g cdg X.A X.stack s H Eg).env) :: starEach [] (cxOf (L2.CX X.prog X.w) X.prog X.w X.K X.mg X.base Ng qg sg g cdg X.A X.stack s H Eg).env)
    (hd : (b == ("__debug__" : Str)) = false := by decide) (hcd : (b == ("__classdict__" : Str)) = false := by decide) :
    PE (cxOf (L2.CX X.prog X.w) X.prog X.w X.K X.mg X.base Ng qg sg g cdg X.A X.stack s H Eg) (.Call (.Name b p1) [e] [] p2)
      (fun σZ HZ Q => σZ[i]? = some (some (.ref f)) ∧ te σZ HZ fun vs HZ1 => ∃ y, vs = [y] ∧ HZ1 c' = some (CodeO c' (X.env.qual ++ "<lambda>")) ∧ tb (σ ++ [some y]) HZ1 Q) := by
  refine ⟨fun pinsZ sZ σZ HZ Q IZ h => ?_⟩
  obtain ⟨hs, ht⟩ := h
  refine wpAny_Call_Name_kw (thn ((pe_var (pos := p1) (i := i) hN hv hd hcd).run pinsZ sZ σZ HZ (fun v H1 => v = .ref f ∧ H1 = HZ) IZ ⟨.ref f, hs, rfl, rfl⟩) fun u0 s1 z => ?_)
  obtain ⟨v0, H1, I1, r1, rfl, rfl⟩ := z
  obtain rfl : u0 = Value.ref f := r1
  have there : ∀ {s2 : Shared} {σ2 : L2.St} {H2 : Hp}, Inv (cxOf (L2.CX X.prog X.w) X.prog X.w X.K X.mg X.base Ng qg sg g cdg X.A X.stack s H Eg) pinsZ σ2 H2 s2 → s2.heap.get? f = some (PySem.W.kla_obj "<lambda>" (X.env.qual ++ "<lambda>") params body scope (cloFrom X.env.cells scope.names []) pm c' ctv) :=
    fun I2 => I2.base.keep f _ hf hfn hfr (fun z => nomatch (show f ∈ ([] : List Addr) from z))
  refine PySem.W.callWith_F ⟨_, _, _, _, there I1⟩ (thn (ha.run p2 pinsZ s1 σZ _ _ I1 ht) fun us s2 z => ?_) he (by rfl)
  obtain ⟨vs, H2, I2, rv, y, rfl, hc, htb⟩ := z
  have of2 := there I2
  refine ⟨⟨_, _, _, _, of2⟩, ?_⟩
  cases rv with
  | @cons _ u _ _ ry rn =>
  cases rn
  have un : Un (frs X.stack) [] H H2 s.heap s2.heap := I2.base
  obtain ⟨⟨oc, vs, t, hoc, hdc, hvc⟩, _, _⟩ := I2.hok c' _ hc
  have rc : codeAny (model X.prog X.w) (X.A.deeper (envOfC qg sg s.heap.objs.size g cdg)) (.call (.ref f) ⟨[u], []⟩) (CR (L2.CX X.prog X.w) (envOfC qg sg s.heap.objs.size g cdg :: X.stack) X.prog X.w H2 s2 Q E0) s2 := by
    refine PySem.W.kla_callFunE hr.depth of2 rfl L.co L.gen rfl ⟨c', oc, vs, t, rfl, hoc, hdc, hvc⟩ ?_
    rw [hbind]
    refine wpAny_pure (wpAny_newFunctionEnv (fun y hy => (L.own y hy).2) (fun q hq => ?_) (fun h₁ hns hsb => ⟨I2.nolimit.fresh _ hsb, ?_⟩) L.kd)
    · rw [List.mem_singleton.mp hq]
      exact L.par
    · have kp : ∀ b o, s2.heap.get? b = some o → h₁.get? b = some o := fun b o z => hsb.extBut b o (Nat.ne_of_lt (Heap.lt_size z)) (Heap.get?_push_of_some _ z)
      have J := lamP_start (f := f) (c' := c') (tk := s2.toks + ([(a, u)] : List (Str × Value)).length) I L hna I2.env0 hr.hd un ry hns kp
      refine PySem.W.kla_codeExpr (wpAny_mono ((hbody _ _ s2 H2 (hr.deeper _)).run [] _ _ H2 Q J htb) (fun v s' z => ?_) fun er s' z => z)
      obtain ⟨w', H', J', rv', q'⟩ := z
      exact ⟨w', H', J'.os, J'.bare, J'.base, J'.hok, rv', q'⟩
  refine wpAny_call (codeAny_mono rc fun r s' z => ?_)
  cases r with
  | error er => exact (passL (X := cxOf (L2.CX X.prog X.w) X.prog X.w X.K X.mg X.base Ng qg sg g cdg X.A X.stack s H Eg) pinsZ σZ H2 s2 er s' I2 z)
  | ok fl =>
    cases fl with
    | ret u' => exact I2.after z
    | next => exact False.elim z
    | brk => exact False.elim z
    | cont => exact False.elim z
end
end Tk

/-! ### x(lambda a: body, e, ..) by the body of x -/
namespace Tk
open PySem PySem.Spec PyProof.Rows L2 LamX
/-- a def that makes a function, its code object known -/
theorem FnP.okFc {P : Program} {w : World} {K : PySem.W.Frag} {mg : Str → Option Value} {base : Heap} {x qual : Str} {st : Stmt} {f : Addr} {N ps : List Str} {k : Nat} {sp : Sp} (F : ∃ fd, FnP K x qual st f fd) (S : FnScope N ps (defScope st))
    (hb : ∀ (kV doc pm : Value) (an : Option Addr) (cdv ct : Value) (us : List Value), us.length = ps.length → bindArgs (PySem.W.fnOf x qual (defArgs st) (defBody st) (defScope st) .none kV doc pm an cdv ct) ⟨us, []⟩ = pure (ps.zip us))
    (len : ∀ vs H Q E, sp vs H Q E → vs.length = ps.length)
    (hbody : ∀ (cdv : Value) (A : Around) (outer : List Env) (s : Shared) (H : Hp) (vs : List V) (Q : VK) (E : XK), cdv = .ref (codeAt K f) → Room k (A.deeper (envOfC qual (defScope st) s.heap.objs.size f cdv)) → sp vs H Q E →
      ∃ t, PSs (cxOf (L2.CX P w) P w K mg base N qual (defScope st) f cdv A outer s H E) (defBody st) t ∧ t { nx := fun _ H' => Q .non H', rt := Q } (start N vs) H) : OkF P w K mg base (k + 1) f ps sp := by
  obtain ⟨fd, F⟩ := F
  have hB := F.bindsN hb
  have kp := F.kp
  obtain ⟨oc, od, dV, kV, doc, pm, an, cdv, ct, osl, rfl, lk, hcd, _, _⟩ := F.ex
  exact ⟨⟨_, fn_of lk hcd S len fun A outer s H vs Q E hr hsp => hbody cdv A outer s H vs Q E (codeAt_eq lk rfl hcd) hr hsp, hB⟩, kp⟩
/-- the running def's code object has a table of T, under the name of its functions -/
def TabX (X : Cx) (T : List (Addr × Str)) : Prop := ∃ c P, TabB X.base X.mg c P ∧ X.env.code = .ref c ∧ (P, X.env.qual ++ "<lambda>") ∈ T ∧ ∀ p ∈ T, p.1 = P → p.2 = X.env.qual ++ "<lambda>"
/-- the context of the def that got the function -/
abbrev cxG (X : Cx) (Ng : List Str) (x : Str) (stg : Stmt) (g : Addr) (cdg : Value) (s : Shared) (H : Hp) : Cx := cxOf (L2.CX X.prog X.w) X.prog X.w X.K X.mg X.base Ng x (defScope stg) g cdg X.A X.stack s H E0
/-- the calls of the function that stands in the first slot -/
def Acts (Z : Cx) (b : Str) (f c' : Addr) (q : Str) (tl : V → Hp → VK → Prop) : Prop :=
  ∀ (e : Expr) (te : TA) (p1 p2 : Pos), PA Z [e] te → starEach [e] Z.env = (false, eval e Z.env) :: starEach [] Z.env →
    PE Z (.Call (.Name b p1) [e] [] p2) (fun σZ HZ Q => σZ[0]? = some (some (.ref f)) ∧ te σZ HZ fun vs HZ1 => ∃ y, vs = [y] ∧ HZ1 c' = some (CodeO c' q) ∧ tl y HZ1 Q)
def tLamN (T : List (Addr × Str)) (q : Str) (n : Nat) (ta : TA) (tb : TE) (TT : Addr → (V → Hp → VK → Prop) → List V → Hp → VK → Prop) : TE := fun σ H Q =>
  Tabs T H ∧ ∀ c' H1, ExtN H H1 → Tabs T H1 → H1 c' = some (CodeO c' q) → ta σ H1 fun ys H2 => ys.length + 1 = n ∧ TT c' (fun y H' Q' => tb (σ ++ [some y]) H' Q') ys H2 Q
theorem pe_lamcallN {X : Cx} {T : List (Addr × Str)} {x a b : Str} {g : Addr} {k : Nat} {stg : Stmt} {Ng ps : List Str} {params : Arguments} {body : Expr} {scope : Scope} {es : List Expr} {ta : TA} {tb : TE} {TT : Addr → (V → Hp → VK → Prop) → List V → Hp → VK → Prop} {p lpos pos : Pos}
    (hg : Gl X x) (hm : X.mg x = some (.ref g)) (Fg : ∃ fd, FnP X.K x x stg g fd) (Sg : FnScope Ng ps (defScope stg))
    (hbg : ∀ (kV doc pm : Value) (an : Option Addr) (cdv ct : Value) (us : List Value), us.length = ps.length → bindArgs (PySem.W.fnOf x x (defArgs stg) (defBody stg) (defScope stg) .none kV doc pm an cdv ct) ⟨us, []⟩ = pure (ps.zip us))
    (hG : ∀ (cdg : Value) (f c' : Addr) (s : Shared) (H : Hp) (ys : List V) (Q : VK) (tl : V → Hp → VK → Prop), Acts (cxG X Ng x stg g cdg s H) b f c' (X.env.qual ++ "<lambda>") tl → TT c' tl ys H Q →
      ∃ t, PSs (cxG X Ng x stg g cdg s H) (defBody stg) t ∧ t { nx := fun _ H' => Q .non H', rt := Q } (L2.start Ng (.ref f :: ys)) H)
    (tx : TabX X T) (hr : Room (k + 2) X.A) (L : LamP X.env.scope scope a) (hna : a ∉ X.N) (hdef : defaultsOf params X.env = ([], []))
    (hbind : ∀ (q : Str) (cl : List (Str × Addr)) (pm cv ctv : Value) (v : Value), bindArgs (PySem.W.kla_fn "<lambda>" q params body scope cl pm cv ctv) ⟨[v], []⟩ = pure [(a, v)])
    (hbody : ∀ (A : Around) (outer : List Env) (s : Shared) (H : Hp) (f c' : Addr), Room k (A.deeper (lamEnv X scope s.heap.objs.size f c')) → PE (lamCxP X a A outer s H scope f c') body tb) (ha : PA X es ta)
    (hN : Ng[0]? = some b := by rfl) (hv : Vis (defScope stg) b := by first | exact .inl rfl | exact .inl (by decide +kernel)) (hdb : (x == ("__debug__" : Str)) = false := by decide) (hd : (b == ("__debug__" : Str)) = false := by decide) (hcd0 : (b == ("__classdict__" : Str)) = false := by decide)
    (he : starEach (.Lambda params body scope lpos :: es) X.env = (false, eval (.Lambda params body scope lpos) X.env) :: starEach es X.env := by rfl) (hpl : (backTo pos (starEach es X.env)).any (·.1) = false := by rfl) (hst : frs X.stack = X.env.locals :: X.fs := by rfl) :
    PE X (.Call (.Name x p) (.Lambda params body scope lpos :: es) [] pos) (tLamN T (X.env.qual ++ "<lambda>") ps.length ta tb TT) := by
  refine ⟨fun pins s σ H Q I h => ?_⟩
  obtain ⟨hT, h⟩ := h
  obtain ⟨c, P, TB, hcode, hmT, hu⟩ := tx
  obtain ⟨fd, Fg⟩ := Fg
  have hB := Fg.bindsN hbg
  have kp := Fg.kp
  obtain ⟨oc, od, dV, kV, doc, pm, an, cdv, ct, osl, rfl, lk, hcd, _, _⟩ := Fg.ex
  refine wpAny_Call_Name_kw (ld_glob I hg hm ?_ hdb)
  refine PySem.W.callWith_K (h₀ := X.base) I.ok.mod.kin kp ?_ he hpl
  rw [he]
  show wpAny _ _ (spliced ((false, eval (.Lambda params body scope lpos) X.env) :: backTo pos (starEach es X.env))) _ _ s
  have hfree : ∀ y ∈ scope.names, y.2 = .free → ∃ c, X.env.cells.lookup y.1 = some c := fun y hy e => (L.fre y hy e).elim (fun z => I.ok.has _ (.inl z)) fun z => I.ok.has _ (.inr z)
  refine Calls.spliced_cons (lam_make2 I TB hcode hmT hu hT hdef hfree fun f c' pm' ctv H1 s' I1 eN T1 hf hfn hfr hco => ?_)
  have hfl : f ≠ X.env.locals ∧ f ∉ X.fs := by
    rw [hst] at hfr
    exact ⟨fun z => hfr (List.mem_cons.mpr (.inl z)), fun z => hfr (List.mem_cons.mpr (.inr z))⟩
  have I1p : Inv X ((f, PySem.W.kla_obj "<lambda>" (X.env.qual ++ "<lambda>") params body scope (cloFrom X.env.cells scope.names []) pm' c' ctv) :: pins) σ H1 s' := I1.pins_of fun q hq => by
    rcases List.mem_cons.mp hq with e | e
    · subst e
      exact ⟨hf, hfn, hfl.1, hfl.2, fun v z => by cases z⟩
    · exact I1.pin q (List.mem_append_right _ e)
  refine thn (ha.run pos _ s' σ H1 _ I1p (h c' H1 eN T1 hco)) fun us s2 ⟨ys, H2, I2, rv, hlen, q2⟩ => ?_
  have hp2 := I2.pin (f, PySem.W.kla_obj "<lambda>" (X.env.qual ++ "<lambda>") params body scope (cloFrom X.env.cells scope.names []) pm' c' ctv) (List.mem_append_right _ (List.mem_cons_self ..))
  have J : Inv X pins σ H2 s2 := I2.pins_of fun q hq => I2.pin q (List.mem_append_right _ (List.mem_cons_of_mem _ hq))
  refine ⟨J.kIn, ?_⟩
  have hl2 : us.length = ys.length := rv.length.symm
  have rc : codeAny (model X.prog X.w) X.A (.call (.ref g) ⟨.ref f :: us, []⟩) (CR (L2.CX X.prog X.w) X.stack X.prog X.w H2 s2 Q E0) s2 := by
    refine run_ofS (N := Ng) (ps := ps) (us := .ref f :: us) (vs := .ref f :: ys) lk hcd Sg (hr.mono (Nat.le_refl _)) J.env0 (by simpa using hB s2 (.ref f :: us) J.kIn (by simp; omega)) (.cons rfl rv) (by simp; omega) fun hr' => ?_
    exact hG cdv f c' s2 H2 ys Q _ (fun e te p1 p2 pe hst' => pe_act1 (i := 0) J L hna hp2.1 hp2.2.1 hfr (hbind _ _ _ _ _) hr' (fun A outer s H hr2 => hbody A outer s H f c' hr2) hN hv pe hst' hd hcd0) q2
  refine wpAny_call (codeAny_mono rc fun r s3 hq => ?_)
  cases r with
  | error e => exact passL pins σ H2 s2 e s3 J hq
  | ok fl =>
    cases fl with
    | ret u => exact J.after hq
    | next => exact False.elim hq
    | brk => exact False.elim hq
    | cont => exact False.elim hq
end Tk

namespace Tk
open PySem PySem.Spec PyProof.Rows L2
/-- a number that is not negative, as a value -/
abbrev vn (n : Nat) : V := .int (n : Int)
/-- all but d stands as before; d holds a source -/
structure Src (d : Addr) (H H' : Hp) : Prop where
  but : But d H H'
  at_ : ∃ cs, H' d = some (.lst cs) ∧ DSt cs
theorem But.free {d : Addr} {H H' : Hp} (b : But d H H') (hd : ∃ cs, H d = some (.lst cs)) {p : Addr} (h : H' p = none) (hd' : ∃ cs, H' d = some (.lst cs)) : H p = none := by
  cases q : H p with
  | none => rfl
  | some o =>
    by_cases e : p = d
    · obtain ⟨cs, z⟩ := hd'
      rw [e, z] at h
      cases h
    · rw [b p o e q] at h
      cases h
theorem But.refl (d : Addr) (H : Hp) : But d H H := fun _ _ _ h => h
theorem But.trans {d : Addr} {H H1 H2 : Hp} (a : But d H H1) (b : But d H1 H2) : But d H H2 := fun p o n h => b p o n (a p o n h)
theorem But.same {d : Addr} {H H1 : Hp} (a : Same H H1) : But d H H1 := fun p o _ h => a p o h
theorem But.at_d {d : Addr} {H : Hp} {o : HO} : But d H (upd H d o) := fun p u n h => by rw [upd_ne n]; exact h
theorem But.new {d p : Addr} {H : Hp} {o : HO} (h : H p = none) : But d H (upd H p o) := fun b u _ e => by rw [upd_ne (ne_of_none e h)]; exact e
theorem Same.new {p : Addr} {H : Hp} {o : HO} (h : H p = none) : Same H (upd H p o) := fun b u e => by rw [upd_ne (ne_of_none e h)]; exact e
theorem Same.free1 {H H1 : Hp} (a : Same H H1) {p : Addr} (h : H1 p = none) : H p = none := Same.free a h
/-- a pattern -/
structure Pat (ps : List Nat) : Prop where
  pos : 0 < ps.length
  len : ps.length ≤ 12
  nine : ∀ x ∈ ps, x ≤ 9
def spPattern : Sp := fun vs H Q _ => ∃ (d : Addr) (most : Nat) (cs : List V), vs = [.ref d, vn most] ∧ 0 < most ∧ most ≤ 12 ∧ H d = some (.lst cs) ∧ DSt cs ∧
  ∀ (t : Addr) (ps : List Nat) (H' : Hp), H t = none → Src d H H' → H' t = some (.tup (ps.map vn)) → Pat ps → ps.length ≤ most → Q (.ref t) H'
section
variable {P : Program} {w : World} {K : PySem.W.Frag} {mg : Str → Option Value} {base : Heap}
theorem high_of {r : Int} (h0 : 0 ≤ r) (h1 : r < 3) : ∃ v : Nat, atI [V.int 2, V.int 3, V.int 10] r = some (vn v) ∧ 0 < v ∧ v ≤ 10 := by
  have : r = ((0 : Nat) : Int) ∨ r = ((1 : Nat) : Int) ∨ r = ((2 : Nat) : Int) := by omega
  rcases this with e | e | e
  · exact ⟨2, by rw [e]; exact atn rfl, by omega, by omega⟩
  · exact ⟨3, by rw [e]; exact atn rfl, by omega, by omega⟩
  · exact ⟨10, by rw [e]; exact atn rfl, by omega, by omega⟩
theorem ok__law_pattern (T : Txt K mg) : OkF P w K mg base 2 (He.ga K "_law_pattern") ["_law_d", "_law_most"] spPattern := by
  have G__law_below : OkF P w K mg base 1 (He.ga K "_law_below") ["_law_d", "_law_limit"] spBelow := ok__law_below T
  refine FnP.okF T.f__law_pattern sc__law_pattern (fun _ _ _ _ _ _ us hl => match us, hl with | [_, _], _ => rfl) (fun vs H Q E h => ?_) (fun cdv A outer s H vs Q E hr h => ?_)
  · obtain ⟨d, most, cs, rfl, _⟩ := h
    rfl
  obtain ⟨d, most, cs, rfl, m0, m1, hd, hcs, k⟩ := h
  refine ⟨_, (pss_cons (ps_set (i := 2) sc__law_pattern.nd rfl (Or.inr rfl) (pe_ix (ixLK (K := K)) (pe_lst (pa_cons pe_int (pa_cons pe_int (pa_cons pe_int pa_nil)))) (pe_call G__law_below.one (hr.mono (by decide)) (by rfl) T.g__law_below G__law_below.kp G__law_below.two .nil passL (pa_cons (pv 0) (pa_cons pe_int pa_nil))) (fun _ _ => rfl)))
    (pss_one (ps_ret (pe_callTy (tplK (K := K)) (by rfl) T.g_tuple (by decide +kernel) (pa_cons (pe_lc (own := [("_law_k", 3)]) (g := gName 3) (tt := tYes) (by rfl) sc__law_pattern.nd (pi_range1 (by rfl) T.g_range (pa_cons (pe_op op_add pe_int (pe_call G__law_below.one (hr.mono (by decide)) (by rfl) T.g__law_below G__law_below.kp G__law_below.two .nil passL (pa_cons (pv 0) (pa_cons (pv 1) pa_nil)))) pa_nil)) (blkOk_by (own := [("_law_k", 3)]) (N := N__law_pattern) (sc := (defScope s__law_pattern)) (by decide +kernel)) (fun _ _ _ _ _ => pg_name (i := 3) sc__law_pattern.nd rfl (Or.inl rfl)) (fun _ _ _ _ _ => pts_nil) (fun _ _ _ _ _ => (pe_call G__law_below.one (hr.mono (by decide)) (by rfl) T.g__law_below G__law_below.kp G__law_below.two .nil passL (pa_cons (pv 0) (pa_cons (pv 2) pa_nil))))) pa_nil))))), ?_⟩
  -- high = [2, 3, 10][below(d, 3)]
  refine ⟨(by show 3 ≤ sizeLine; decide), fun l hl => ?_⟩
  have ndl : d ≠ l := ne_of_none hd hl
  refine ⟨_, rfl, d, 3, cs, rfl, by decide, by decide, by rw [upd_ne ndl]; exact hd, hcs, fun r cs1 r0 r1 hcs1 => ?_⟩
  obtain ⟨v, hv, v0, v1⟩ := high_of r0 r1
  refine ⟨l, _, r, _, rfl, rfl, SqL.of (by rw [upd_ne ndl.symm]; exact upd_same), hv, ?_⟩
  -- range(1 + below(d, most))
  refine ⟨_, rfl, _, rfl, d, most, cs1, rfl, by omega, by omega, upd_same, hcs1, fun r2 cs2 q0 q1 hcs2 => ?_⟩
  refine ⟨1, r2, rfl, rfl, ?_⟩
  refine ⟨_, rfl, by omega, by omega, fun D hD => ?_⟩
  rw [upd_upd] at hD ⊢
  have nDd : D ≠ d := fun e => by rw [e, upd_same] at hD; cases hD
  have nDl : D ≠ l := fun e => by rw [e, upd_ne ndl.symm, upd_same] at hD; cases hD
  have hD0 : H D = none := by rw [upd_ne nDd, upd_ne nDl] at hD; exact hD
  refine lc_range (lo := 0) (n := (1 + r2).toNat) (fun i H2 => ∃ ms : List Nat, But d H H2 ∧ (∃ cs, H2 d = some (.lst cs) ∧ DSt cs) ∧ H2 D = some (.lst (ms.map vn)) ∧ ms.length = i ∧ ∀ x ∈ ms, x ≤ 9) ?_ ?_ ?_
  · refine ⟨[], fun b o nb e => ?_, ⟨cs2, by rw [upd_ne nDd.symm, upd_same], hcs2⟩, upd_same, rfl, fun x hx => by cases hx⟩
    rw [upd_ne (ne_of_none e hD0), upd_ne nb, upd_ne (ne_of_none e hl)]
    exact e
  · rintro i H2 hi ⟨ms, hB, ⟨cs3, h3, hcs3⟩, hD2, hml, hm9⟩
    refine ⟨rfl, ?_⟩
    refine ⟨_, rfl, _, rfl, d, v, cs3, rfl, by omega, by omega, h3, hcs3, fun r4 cs4 p0 p1 hcs4 => ?_⟩
    refine ⟨ms.map vn, by rw [upd_ne nDd]; exact hD2, Nat.lt_of_le_of_lt (m := 12) (by rw [List.length_map]; omega) (by decide), ms ++ [r4.toNat], ?_, ⟨cs4, by rw [upd_ne nDd.symm, upd_same], hcs4⟩, ?_, ?_, ?_⟩
    · intro b o nb e
      rw [upd_ne (ne_of_none e hD0), upd_ne nb]
      exact hB b o nb e
    · rw [upd_same, List.map_append]
      show some (HO.lst (ms.map vn ++ [V.int r4])) = some (HO.lst (ms.map vn ++ [V.int ((r4.toNat : Nat) : Int)]))
      rw [Int.toNat_of_nonneg p0]
    · rw [List.length_append]
      show ms.length + 1 = i + 1
      omega
    · intro x hx
      rcases List.mem_append.mp hx with h | h
      · exact hm9 x h
      · rw [List.mem_singleton.mp h]
        omega
  · rintro H2 ⟨ms, hB, ⟨cs3, h3, hcs3⟩, hD2, hml, hm9⟩
    refine ⟨D, _, rfl, .inl ⟨SqL.of hD2, fun t ht => ?_⟩⟩
    have ht0 : H t = none := But.free hB ⟨_, hd⟩ ht ⟨_, h3⟩
    refine k t ms _ ht0 ⟨hB.trans (But.new ht), cs3, by rw [upd_ne (ne_of_none h3 ht)]; exact h3, hcs3⟩ upd_same ⟨by omega, by omega, hm9⟩ (by omega)
end
end Tk

namespace Tk
open PySem PySem.Spec PyProof.Rows L2
structure Parts (m : Nat) (tk cl : List Nat) (lt : Nat) : Prop where
  m2 : 2 ≤ m
  m4 : m ≤ 10000
  tkP : Pat tk
  clP : Pat cl
  l99 : lt ≤ 99
/-- at t the tuple of the parts -/
structure PartsAt (H : Hp) (t : Addr) (m : Nat) (tp : Addr) (tk : List Nat) (cp : Addr) (cl : List Nat) (lt : Nat) : Prop where
  at_ : H t = some (.tup [vn m, .ref tp, .ref cp, vn lt])
  tkA : H tp = some (.tup (tk.map vn))
  clA : H cp = some (.tup (cl.map vn))
  ok : Parts m tk cl lt
theorem PartsAt.but {d t tp cp : Addr} {H H' : Hp} {m lt : Nat} {tk cl : List Nat} {cs : List V} (p : PartsAt H t m tp tk cp cl lt) (b : But d H H') (hd : H d = some (.lst cs)) : PartsAt H' t m tp tk cp cl lt :=
  ⟨b _ _ (ne_of p.at_ hd (fun q => by cases q)) p.at_, b _ _ (ne_of p.tkA hd (fun q => by cases q)) p.tkA, b _ _ (ne_of p.clA hd (fun q => by cases q)) p.clA, p.ok⟩
theorem PartsAt.same {t tp cp : Addr} {H H' : Hp} {m lt : Nat} {tk cl : List Nat} (p : PartsAt H t m tp tk cp cl lt) (b : Same H H') : PartsAt H' t m tp tk cp cl lt :=
  ⟨b _ _ p.at_, b _ _ p.tkA, b _ _ p.clA, p.ok⟩
def spParts : Sp := fun vs H Q _ => ∃ (d : Addr) (most : Nat) (cs : List V), vs = [.ref d, vn most] ∧ 0 < most ∧ most ≤ 12 ∧ H d = some (.lst cs) ∧ DSt cs ∧
  ∀ (t tp cp : Addr) (m lt : Nat) (tk cl : List Nat) (H' : Hp), H t = none → Src d H H' → PartsAt H' t m tp tk cp cl lt → tk.length ≤ most → cl.length ≤ most → Q (.ref t) H'
def spSmall : Sp := fun vs H Q _ => ∃ (d : Addr) (cs : List V), vs = [.ref d] ∧ H d = some (.lst cs) ∧ DSt cs ∧
  ∀ (t tp cp : Addr) (m lt : Nat) (tk cl : List Nat) (H' : Hp), H t = none → Src d H H' → PartsAt H' t m tp tk cp cl lt → m ≤ 10 → tk.length ≤ 3 → cl.length ≤ 3 → lt ≤ 5 → Q (.ref t) H'
section
variable {P : Program} {w : World} {K : PySem.W.Frag} {mg : Str → Option Value} {base : Heap}
theorem three_of {a b c r : Int} (h0 : 0 ≤ r) (h1 : r < 3) : ∃ v : Int, atI [V.int a, V.int b, V.int c] r = some (V.int v) ∧ (v = a ∨ v = b ∨ v = c) := by
  have : r = ((0 : Nat) : Int) ∨ r = ((1 : Nat) : Int) ∨ r = ((2 : Nat) : Int) := by omega
  rcases this with e | e | e
  · exact ⟨a, by rw [e]; exact atn rfl, .inl rfl⟩
  · exact ⟨b, by rw [e]; exact atn rfl, .inr (.inl rfl)⟩
  · exact ⟨c, by rw [e]; exact atn rfl, .inr (.inr rfl)⟩
theorem ok__law_parts (T : Txt K mg) : OkF P w K mg base 3 (He.ga K "_law_parts") ["_law_d", "_law_most"] spParts := by
  have G__law_below : OkF P w K mg base 1 (He.ga K "_law_below") ["_law_d", "_law_limit"] spBelow := ok__law_below T
  have G__law_pattern : OkF P w K mg base 2 (He.ga K "_law_pattern") ["_law_d", "_law_most"] spPattern := ok__law_pattern T
  refine FnP.okF T.f__law_parts sc__law_parts (fun _ _ _ _ _ _ us hl => match us, hl with | [_, _], _ => rfl) (fun vs H Q E h => ?_) (fun cdv A outer s H vs Q E hr h => ?_)
  · obtain ⟨d, most, cs, rfl, _⟩ := h
    rfl
  obtain ⟨d, most, cs, rfl, m0, m1, hd, hcs, k⟩ := h
  refine ⟨_, (pss_cons (ps_set (i := 2) sc__law_parts.nd rfl (Or.inl rfl) (pe_ix (ixLK (K := K)) (pe_lst (pa_cons (pe_op op_add pe_int (pe_call G__law_below.one (hr.mono (by decide)) (by rfl) T.g__law_below G__law_below.kp G__law_below.two .nil passL (pa_cons (pv 0) (pa_cons pe_int pa_nil)))) (pa_cons (pe_op op_add pe_int (pe_call G__law_below.one (hr.mono (by decide)) (by rfl) T.g__law_below G__law_below.kp G__law_below.two .nil passL (pa_cons (pv 0) (pa_cons pe_int pa_nil)))) (pa_cons (pe_op op_add pe_int (pe_call G__law_below.one (hr.mono (by decide)) (by rfl) T.g__law_below G__law_below.kp G__law_below.two .nil passL (pa_cons (pv 0) (pa_cons pe_int pa_nil)))) pa_nil)))) (pe_call G__law_below.one (hr.mono (by decide)) (by rfl) T.g__law_below G__law_below.kp G__law_below.two .nil passL (pa_cons (pv 0) (pa_cons pe_int pa_nil))) (fun _ _ => rfl)))
    (pss_cons (ps_set (i := 3) sc__law_parts.nd rfl (Or.inl rfl) (pe_ix (ixLK (K := K)) (pe_lst (pa_cons pe_int (pa_cons (pe_call G__law_below.one (hr.mono (by decide)) (by rfl) T.g__law_below G__law_below.kp G__law_below.two .nil passL (pa_cons (pv 0) (pa_cons pe_int pa_nil))) (pa_cons (pe_call G__law_below.one (hr.mono (by decide)) (by rfl) T.g__law_below G__law_below.kp G__law_below.two .nil passL (pa_cons (pv 0) (pa_cons pe_int pa_nil))) pa_nil)))) (pe_call G__law_below.one (hr.mono (by decide)) (by rfl) T.g__law_below G__law_below.kp G__law_below.two .nil passL (pa_cons (pv 0) (pa_cons pe_int pa_nil))) (fun _ _ => rfl)))
    (pss_one (ps_ret (pe_tup (pa_cons (pv 2) (pa_cons (pe_call G__law_pattern.one (hr.mono (by decide)) (by rfl) T.g__law_pattern G__law_pattern.kp G__law_pattern.two .nil passL (pa_cons (pv 0) (pa_cons (pv 1) pa_nil))) (pa_cons (pe_call G__law_pattern.one (hr.mono (by decide)) (by rfl) T.g__law_pattern G__law_pattern.kp G__law_pattern.two .nil passL (pa_cons (pv 0) (pa_cons (pv 1) pa_nil))) (pa_cons (pv 3) pa_nil))))))))), ?_⟩
  -- modulus
  refine ⟨_, rfl, d, 5, cs, rfl, by decide, by decide, hd, hcs, fun r1 c1 a1 b1 hc1 => ⟨2, r1, rfl, rfl, ?_⟩⟩
  refine ⟨_, rfl, d, 30, c1, rfl, by decide, by decide, upd_same, hc1, fun r2 c2 a2 b2 hc2 => ⟨2, r2, rfl, rfl, ?_⟩⟩
  refine ⟨_, rfl, d, 9999, c2, rfl, by decide, by decide, upd_same, hc2, fun r3 c3 a3 b3 hc3 => ⟨2, r3, rfl, rfl, ?_⟩⟩
  refine ⟨(by show 3 ≤ sizeLine; decide), fun l hl => ?_⟩
  rw [upd_upd, upd_upd] at hl ⊢
  have ndl : d ≠ l := fun e => by rw [← e, upd_same] at hl; cases hl
  refine ⟨_, rfl, d, 3, c3, rfl, by decide, by decide, by rw [upd_ne ndl]; exact upd_same, hc3, fun r4 c4 a4 b4 hc4 => ?_⟩
  obtain ⟨mv, hmv, hmo⟩ := three_of (a := 2 + r1) (b := 2 + r2) (c := 2 + r3) a4 b4
  refine ⟨l, _, r4, _, rfl, rfl, SqL.of (by rw [upd_ne ndl.symm]; exact upd_same), hmv, ?_⟩
  have hl0 : H l = none := by rw [upd_ne ndl.symm] at hl; exact hl
  -- lateness
  refine ⟨_, rfl, d, 6, c4, rfl, by decide, by decide, upd_same, hc4, fun r5 c5 a5 b5 hc5 => ?_⟩
  refine ⟨_, rfl, d, 100, c5, rfl, by decide, by decide, upd_same, hc5, fun r6 c6 a6 b6 hc6 => ?_⟩
  refine ⟨(by show 3 ≤ sizeLine; decide), fun l2 hl2 => ?_⟩
  rw [upd_upd, upd_upd] at hl2 ⊢
  have nd2 : d ≠ l2 := fun e => by rw [← e, upd_same] at hl2; cases hl2
  refine ⟨_, rfl, d, 3, c6, rfl, by decide, by decide, by rw [upd_ne nd2]; exact upd_same, hc6, fun r7 c7 a7 b7 hc7 => ?_⟩
  obtain ⟨lv, hlv, hlo⟩ := three_of (a := 0) (b := r5) (c := r6) a7 b7
  refine ⟨l2, _, r7, _, rfl, rfl, SqL.of (by rw [upd_ne nd2.symm]; exact upd_same), hlv, ?_⟩
  have hB : But d H (upd (upd (upd (upd (upd H d (.lst c3)) l (.lst [.int (2 + r1), .int (2 + r2), .int (2 + r3)])) d (.lst c6)) l2 (.lst [.int 0, .int r5, .int r6])) d (.lst c7)) :=
    ((((But.at_d).trans (But.new hl)).trans But.at_d).trans (But.new hl2)).trans But.at_d
  generalize hH2 : upd (upd (upd (upd (upd H d (.lst c3)) l (.lst [.int (2 + r1), .int (2 + r2), .int (2 + r3)])) d (.lst c6)) l2 (.lst [.int 0, .int r5, .int r6])) d (.lst c7) = H2 at hB ⊢
  have hd2 : H2 d = some (.lst c7) := by rw [← hH2]; exact upd_same
  -- return (modulus, pattern, pattern, lateness)
  refine ⟨_, rfl, _, rfl, _, rfl, d, most, c7, rfl, m0, m1, hd2, hc7, fun tp tk H3 n3 S3 h3 p3 l3 => ?_⟩
  obtain ⟨c8, hd3, hc8⟩ := S3.at_
  refine ⟨_, rfl, _, rfl, d, most, c8, rfl, m0, m1, hd3, hc8, fun cp cl H4 n4 S4 h4 p4 l4 => ?_⟩
  obtain ⟨c9, hd4, hc9⟩ := S4.at_
  refine ⟨_, rfl, ?_⟩
  refine ⟨(by show 4 ≤ sizeLine; decide), fun t ht => ?_⟩
  have hB4 : But d H H4 := (hB.trans S3.but).trans S4.but
  have h34 : H4 tp = some (.tup (tk.map vn)) := S4.but _ _ (ne_of h3 hd3 (fun q => by cases q)) h3
  obtain ⟨m, hm⟩ : ∃ m : Nat, mv = (m : Int) := ⟨mv.toNat, by omega⟩
  obtain ⟨lt, hlt⟩ : ∃ n : Nat, lv = (n : Int) := ⟨lv.toNat, by omega⟩
  subst hm hlt
  refine k t tp cp m lt tk cl _ (But.free hB4 ⟨_, hd⟩ ht ⟨_, hd4⟩) ⟨hB4.trans (But.new ht), c9, by rw [upd_ne (ne_of_none hd4 ht)]; exact hd4, hc9⟩
    ⟨upd_same, by rw [upd_ne (ne_of_none h34 ht)]; exact h34, by rw [upd_ne (ne_of_none h4 ht)]; exact h4, ⟨by omega, by omega, p3, p4, by omega⟩⟩ l3 l4
end
end Tk

/-! ### The mathematics of halls -/
namespace Mm
def atp (ps : List Nat) (t : Nat) : Nat := ps.getD (t % ps.length) 0
/-- tickets taken before a tick -/
def tak (tk : List Nat) : Nat → Nat
  | 0 => 0
  | t + 1 => tak tk t + atp tk t
/-- tickets called before a tick -/
def cal (tk cl : List Nat) : Nat → Nat
  | 0 => 0
  | t + 1 => min (tak tk (t + 1)) (cal tk cl t + atp cl t)
def per (tk cl : List Nat) : Nat := Nat.lcm tk.length cl.length
section
variable {tk cl : List Nat}
theorem cal_le : ∀ t, cal tk cl t ≤ tak tk t
  | 0 => Nat.le_refl _
  | t + 1 => Nat.min_le_left _ _
theorem atp_add (ps : List Nat) (t p : Nat) (h : ps.length ∣ p) : atp ps (t + p) = atp ps t := by
  unfold atp
  obtain ⟨c, rfl⟩ := h
  rw [Nat.add_mul_mod_self_left]
theorem tak_add (p : Nat) (h : tk.length ∣ p) : ∀ t, tak tk (t + p) = tak tk t + tak tk p
  | 0 => by simp [tak]
  | t + 1 => by
    rw [show t + 1 + p = (t + p) + 1 by omega]
    show tak tk (t + p) + atp tk (t + p) = tak tk t + atp tk t + tak tk p
    rw [tak_add p h t, atp_add tk t p h]
    omega
theorem tak_mono : ∀ {a b : Nat}, a ≤ b → tak tk a ≤ tak tk b := by
  intro a b h
  induction h with
  | refl => exact Nat.le_refl _
  | step _ ih => exact Nat.le_trans ih (Nat.le_add_right _ _)
/-- who waits before a tick -/
def wt (tk cl : List Nat) (t : Nat) : Nat := tak tk t - cal tk cl t
theorem wt_cal (t : Nat) : cal tk cl t + wt tk cl t = tak tk t := by
  have := cal_le (tk := tk) (cl := cl) t
  unfold wt
  omega
theorem wt_succ (t : Nat) : wt tk cl (t + 1) = wt tk cl t + atp tk t - atp cl t := by
  have h1 := wt_cal (tk := tk) (cl := cl) t
  have h2 : cal tk cl (t + 1) = min (tak tk t + atp tk t) (cal tk cl t + atp cl t) := rfl
  have h3 : tak tk (t + 1) = tak tk t + atp tk t := rfl
  unfold wt
  rw [h2, h3]
  have h4 : wt tk cl t = tak tk t - cal tk cl t := rfl
  omega
theorem cal_succ (t : Nat) : cal tk cl (t + 1) = cal tk cl t + min (wt tk cl t + atp tk t) (atp cl t) := by
  have h1 := wt_cal (tk := tk) (cl := cl) t
  have h2 : cal tk cl (t + 1) = min (tak tk t + atp tk t) (cal tk cl t + atp cl t) := rfl
  rw [h2]
  omega
theorem cal_mono {a b : Nat} (h : a ≤ b) : cal tk cl a ≤ cal tk cl b := by
  induction h with
  | refl => exact Nat.le_refl _
  | step _ ih =>
    rw [Nat.succ_eq_add_one, cal_succ]
    omega
variable {p : Nat} (hp : 0 < p) (ht : tk.length ∣ p) (hc : cl.length ∣ p)
include ht hc in
theorem wt_up (t : Nat) : wt tk cl t ≤ wt tk cl (t + p) := by
  induction t with
  | zero => simp [wt, tak, cal]
  | succ t ih =>
    rw [show t + 1 + p = (t + p) + 1 by omega, wt_succ, wt_succ, atp_add tk t p ht, atp_add cl t p hc]
    omega
include ht hc in
theorem wt_same {s : Nat} (h : wt tk cl s = wt tk cl (s + p)) : ∀ t, s ≤ t → wt tk cl t = wt tk cl (t + p) := by
  intro t hs
  induction hs with
  | refl => exact h
  | @step t _ ih =>
    rw [show t.succ + p = (t + p) + 1 by omega, Nat.succ_eq_add_one, wt_succ, wt_succ, atp_add tk t p ht, atp_add cl t p hc, ih]
/-- from the second period on each period calls the same -/
theorem now_same (hp : 0 < p) (ht : tk.length ∣ p) (hc : cl.length ∣ p) (t : Nat) (h : p ≤ t) : min (wt tk cl (t + p) + atp tk (t + p)) (atp cl (t + p)) = min (wt tk cl t + atp tk t) (atp cl t) := by
  rw [atp_add tk t p ht, atp_add cl t p hc]
  by_cases st : ∃ s, p ≤ s ∧ s ≤ t ∧ wt tk cl s + atp tk s ≤ atp cl s ∧ s < 2 * p
  · obtain ⟨s, h1, h2, h3, h4⟩ := st
    obtain ⟨r, rfl⟩ : ∃ r, s = r + p := ⟨s - p, by omega⟩
    have u := wt_up (tk := tk) (cl := cl) ht hc r
    rw [atp_add tk r p ht, atp_add cl r p hc] at h3
    have e : wt tk cl (r + 1) = wt tk cl (r + 1 + p) := by
      rw [show r + 1 + p = (r + p) + 1 by omega, wt_succ, wt_succ, atp_add tk r p ht, atp_add cl r p hc]
      omega
    have := wt_same ht hc e t (by omega)
    rw [← this]
  · have full : ∀ k s, p ≤ s → s < 2 * p → s + k * p ≤ t → atp cl (s + k * p) ≤ wt tk cl (s + k * p) + atp tk (s + k * p) := by
      intro k
      induction k with
      | zero =>
        intro s h1 h2 h3
        by_cases q : wt tk cl s + atp tk s ≤ atp cl s
        · exact absurd ⟨s, h1, by omega, q, h2⟩ st
        · simp only [Nat.zero_mul, Nat.add_zero]
          omega
      | succ k ih =>
        intro s h1 h2 h3
        rw [Nat.succ_mul] at h3 ⊢
        have := ih s h1 h2 (by omega)
        have u := wt_up (tk := tk) (cl := cl) ht hc (s + k * p)
        rw [← Nat.add_assoc, atp_add tk _ p ht, atp_add cl _ p hc]
        omega
    have e : t = p + (t - p) % p + (t - p) / p * p := by
      have := Nat.mod_add_div (t - p) p
      rw [Nat.mul_comm] at this
      omega
    have f := full ((t - p) / p) (p + (t - p) % p) (by omega) (by have := Nat.mod_lt (t - p) hp; omega) (by omega)
    rw [← e] at f
    have u := wt_up (tk := tk) (cl := cl) ht hc t
    omega
theorem cal_per (hp : 0 < p) (ht : tk.length ∣ p) (hc : cl.length ∣ p) {t : Nat} (h : p ≤ t) : cal tk cl (t + p) + cal tk cl p = cal tk cl t + cal tk cl (2 * p) := by
  induction h with
  | refl => rw [show p + p = 2 * p by omega, Nat.add_comm]
  | @step t h ih =>
    rw [show t.succ + p = (t + p) + 1 by omega, Nat.succ_eq_add_one, cal_succ, cal_succ, now_same hp ht hc t h]
    omega
theorem cal_far (hp : 0 < p) (ht : tk.length ∣ p) (hc : cl.length ∣ p) {t : Nat} (h : p ≤ t) : ∀ k, cal tk cl (t + k * p) = cal tk cl t + k * (cal tk cl (2 * p) - cal tk cl p)
  | 0 => by simp
  | k + 1 => by
    have ih := cal_far hp ht hc h k
    have m := cal_mono (tk := tk) (cl := cl) (show p ≤ 2 * p by omega)
    have q := cal_per (tk := tk) (cl := cl) hp ht hc (t := t + k * p) (by omega)
    rw [Nat.succ_mul, Nat.succ_mul, ← Nat.add_assoc]
    omega
/-- what the program reckons -/
theorem cal_is (hp : 0 < p) (ht : tk.length ∣ p) (hc : cl.length ∣ p) (t : Nat) : cal tk cl t = (t / p - 1) * (cal tk cl (2 * p) - cal tk cl p) + cal tk cl (t - (t / p - 1) * p) := by
  rcases Nat.eq_zero_or_pos (t / p - 1) with e | e
  · rw [e]
    simp
  · have h1 : t / p * p ≤ t := Nat.div_mul_le_self t p
    have h2 : (t / p - 1) * p + p = t / p * p := by
      rw [Nat.sub_mul, Nat.one_mul]
      have : p ≤ t / p * p := Nat.le_mul_of_pos_left p (by omega)
      omega
    have q := cal_far (tk := tk) (cl := cl) hp ht hc (t := t - (t / p - 1) * p) (by omega) (t / p - 1)
    rw [show t - (t / p - 1) * p + (t / p - 1) * p = t by omega] at q
    rw [q]
    exact Nat.add_comm _ _
theorem rest_lt (hp : 0 < p) (t : Nat) : t - (t / p - 1) * p < 2 * p := by
  have h := Nat.mod_add_div t p
  have m := Nat.mod_lt t hp
  rcases Nat.eq_zero_or_pos (t / p) with e | e
  · rw [e] at h ⊢
    omega
  · obtain ⟨k, hk⟩ : ∃ k, t / p = k + 1 := ⟨t / p - 1, by omega⟩
    rw [hk] at h ⊢
    rw [Nat.mul_comm, Nat.succ_mul] at h
    simp only [Nat.add_sub_cancel]
    omega
theorem take_sum (tk : List Nat) : ∀ i, i ≤ tk.length → tak tk i = (tk.take i).sum
  | 0, _ => by simp [tak]
  | i + 1, h => by
    show tak tk i + atp tk i = _
    rw [take_sum tk i (by omega)]
    unfold atp
    rw [Nat.mod_eq_of_lt (by omega), List.getD_eq_getElem?_getD, List.getElem?_eq_getElem (by omega)]
    have e : tk.take (i + 1) = tk.take i ++ [tk[i]] := by simp
    rw [e, List.sum_append]
    simp
theorem tak_mul (tk : List Nat) : ∀ q r, tak tk (r + q * tk.length) = q * tk.sum + tak tk r
  | 0, r => by simp
  | q + 1, r => by
    rw [Nat.succ_mul, ← Nat.add_assoc, tak_add tk.length (Nat.dvd_refl _), tak_mul tk q r, take_sum tk tk.length (Nat.le_refl _), List.take_length, Nat.succ_mul]
    omega
theorem tak_is (tk : List Nat) (h : 0 < tk.length) (t : Nat) : tak tk t = t / tk.length * tk.sum + (tk.take (t % tk.length)).sum := by
  rw [← take_sum tk (t % tk.length) (Nat.le_of_lt (Nat.mod_lt t h)), ← tak_mul tk (t / tk.length)]
  congr 1
  have := Nat.mod_add_div t tk.length
  rw [Nat.mul_comm] at this
  omega
theorem per_tk : tk.length ∣ per tk cl := Nat.dvd_lcm_left _ _
theorem per_cl : cl.length ∣ per tk cl := Nat.dvd_lcm_right _ _
theorem per_pos (h1 : 0 < tk.length) (h2 : 0 < cl.length) : 0 < per tk cl := Nat.lcm_pos h1 h2
theorem per_le : per tk cl ≤ tk.length * cl.length := by
  unfold per Nat.lcm
  exact Nat.div_le_self _ _
theorem atp_le {ps : List Nat} (h9 : ∀ x ∈ ps, x ≤ 9) (t : Nat) : atp ps t ≤ 9 := by
  unfold atp
  rw [List.getD_eq_getElem?_getD]
  cases e : ps[t % ps.length]? with
  | none => simp
  | some x =>
    simp only [Option.getD_some]
    exact h9 x (List.mem_of_getElem? e)
theorem tak_le {tk : List Nat} (h9 : ∀ x ∈ tk, x ≤ 9) : ∀ t, tak tk t ≤ 9 * t
  | 0 => Nat.le_refl _
  | t + 1 => by
    have h1 := tak_le h9 t
    have h2 := atp_le h9 t
    show tak tk t + atp tk t ≤ 9 * (t + 1)
    omega
end
end Mm

/-! ### The checks of arguments -/
namespace Tk
open PySem PySem.Spec PyProof.Rows L2
/-- values of the kinds that are passed -/
inductive Arg (H : Hp) : V → Prop where
  | non : Arg H .non
  | bl (b : Bool) : Arg H (.bl b)
  | int (i : Int) : Arg H (.int i)
  | str (x : Str) : Arg H (.str x)
  | lst {a : Addr} {xs : List V} (e : H a = some (.lst xs)) : Arg H (.ref a)
  | tup {a : Addr} {xs : List V} (e : H a = some (.tup xs)) : Arg H (.ref a)
def isInt : V → Bool
  | .int _ => true
  | _ => false
def inB (lo hi : Int) : V → Bool
  | .int i => decide (lo ≤ i) && decide (i ≤ hi)
  | _ => false
def spWithin : Sp := fun vs H Q _ => ∃ (v : V) (lo hi : Int), vs = [v, .int lo, .int hi] ∧ Arg H v ∧ Q (.bl (inB lo hi v)) H
section
variable {P : Program} {w : World} {K : PySem.W.Frag} {mg : Str → Option Value} {base : Heap}
theorem boot_ty_bool : bootBuiltins "bool" = some (.type "bool") := by decide +kernel
theorem boot_ty_int : bootBuiltins "int" = some (.type "int") := by decide +kernel
theorem boot_ty_str : bootBuiltins "str" = some (.type "str") := by decide +kernel
theorem boot_ty_tuple : bootBuiltins "tuple" = some (.type "tuple") := by decide +kernel
theorem boot_ty_list : bootBuiltins "list" = some (.type "list") := by decide +kernel
theorem kit_at {a b : String} {r : Bool} (h : kitB a b = some r) : PySem.W.kitOne K (.type a) (.type b) = some r := kit_ty h
/-- the type of such a value and what isinstance says of five classes -/
theorem Arg.ty {H : Hp} {v : V} (h : Arg H v) : ∃ n : String, TyX K H v (.type n) ∧ (∃ b, kitB n "bool" = some b ∧ (b = true ↔ ∃ x, v = .bl x)) ∧ (∃ b, kitB n "int" = some b ∧ (b = true ↔ ((∃ x, v = .bl x) ∨ ∃ i, v = .int i))) := by
  cases h with
  | non => exact ⟨_, .base .non, ⟨false, by decide +kernel, by simp⟩, ⟨false, by decide +kernel, by simp⟩⟩
  | bl b => exact ⟨_, .base (.bl b), ⟨true, by decide +kernel, by simp⟩, ⟨true, by decide +kernel, by simp⟩⟩
  | int i => exact ⟨_, .base (.int i), ⟨false, by decide +kernel, by simp⟩, ⟨true, by decide +kernel, by simp⟩⟩
  | str x => exact ⟨_, .base (.str x), ⟨false, by decide +kernel, by simp⟩, ⟨false, by decide +kernel, by simp⟩⟩
  | lst e => exact ⟨_, .base (.lst e), ⟨false, by decide +kernel, by simp⟩, ⟨false, by decide +kernel, by simp⟩⟩
  | tup e => exact ⟨_, .base (.tup e), ⟨false, by decide +kernel, by simp⟩, ⟨false, by decide +kernel, by simp⟩⟩
theorem ok_is_integer_within (T : Txt K mg) : OkF P w K mg base 1 (He.ga K "is_integer_within") ["value", "low", "high"] spWithin := by
  refine FnP.okF T.f_is_integer_within sc_is_integer_within (fun _ _ _ _ _ _ us hl => match us, hl with | [_, _, _], _ => rfl) (fun vs H Q E h => ?_) (fun cdv A outer s H vs Q E hr h => ?_)
  · obtain ⟨v, lo, hi, rfl, _⟩ := h
    rfl
  obtain ⟨v, lo, hi, rfl, hv, k⟩ := h
  refine ⟨_, (pss_cons (ps_if (PW.pt (pw_or (pt_val (pe_callB (isiK (K := K)) (by rfl) T.g_isinstance (by decide +kernel) (pa_cons (pv 0) (pa_cons (pe_bltn (v := .ty "bool") (by rfl) T.g_bool boot_ty_bool rfl) pa_nil)))) (pw_or1 (pt_not (pt_val (pe_callB (isiK (K := K)) (by rfl) T.g_isinstance (by decide +kernel) (pa_cons (pv 0) (pa_cons (pe_bltn (v := .ty "int") (by rfl) T.g_int boot_ty_int rfl) pa_nil)))))))) (pss_one (ps_ret pe_bl)) pss_nil)
    (pss_one (ps_ret (pe_chain op_le op_le (pv 1) (pv 0) (pv 2))))), ?_⟩
  obtain ⟨n, ty, ⟨b1, k1, e1⟩, ⟨b2, k2, e2⟩⟩ := Arg.ty (K := K) hv
  refine ⟨_, rfl, v, .ty "bool", _, _, b1, rfl, .ty "bool", ty, kit_at k1, b1, rfl, ?_⟩
  cases b1 with
  | true =>
    obtain ⟨x, rfl⟩ := e1.mp rfl
    exact k
  | false =>
    refine ⟨_, rfl, v, .ty "int", _, _, b2, rfl, .ty "int", ty, kit_at k2, b2, rfl, ?_⟩
    cases b2 with
    | false =>
      have no : inB lo hi v = false := by
        cases v with
        | int i => exact absurd (e2.mpr (.inr ⟨i, rfl⟩)) (by simp)
        | _ => rfl
      rw [no] at k
      exact k
    | true =>
      rcases e2.mp rfl with ⟨x, rfl⟩ | ⟨i, rfl⟩
      · exact absurd (e1.mpr ⟨x, rfl⟩) (by simp)
      · refine ⟨_, rfl, _, rfl, _, _, rfl, rfl, _, rfl, ?_⟩
        refine ite2 (fun c => ?_) (fun c => ?_)
        · refine ⟨_, rfl, _, _, rfl, rfl, ?_⟩
          have c1 : decide (lo ≤ i) = true := c
          show Q (V.bl (decide (i ≤ hi))) H
          have k' : Q (V.bl (decide (lo ≤ i) && decide (i ≤ hi))) H := k
          rw [c1, Bool.true_and] at k'
          exact k'
        · have c1 : decide (lo ≤ i) = false := by
            cases q : decide (lo ≤ i) with
            | true => exact absurd q c
            | false => rfl
          have k' : Q (V.bl (decide (lo ≤ i) && decide (i ≤ hi))) H := k
          rw [c1, Bool.false_and] at k'
          exact k'
end
end Tk

/-! ### for i, x in enumerate(a tuple) -/
namespace Tk
open PySem PySem.Spec PyProof.Rows L2
set_option maxHeartbeats 1000000 in
theorem meets_enum1 {v : Value} {o : Obj} {Hs : Heap → Prop} (B : Begins v o Hs) : Meets (Builtin.«enumerate.__new__» ⟨[.type "enumerate", v], []⟩) (fun _ R s => Hs s.heap ∧
    R (.ok (.ret (.ref (s.heap.push o).objs.size))) { s with heap := (s.heap.push o).push { cls := .type "enumerate", data := .fields #[.none, .bool false, .ref s.heap.objs.size, rawInt 0, .none, .none] } }) :=
  .of_wp fun prog w A R s h => by
    obtain ⟨hp, g, d, tk, os⟩ := s
    obtain ⟨b0, b1⟩ := h
    have us := sub_enumerate
    have step : ∀ {A' : Around} {E : Value → Shared → Prop} {Q : Value → Shared → Prop}, Q (.ref hp.objs.size) ⟨hp.push o, g, d, tk, os⟩ → wpAny (model prog w) A' (pyIter v) Q E ⟨hp, g, d, tk, os⟩ :=
      fun z => B.iter prog w _ _ ⟨hp, g, d, tk, os⟩ _ b0 z
    wp_walk using step
    refine wpAny_stack_any fun st => wpAny_pure ?_
    split
    · rename_i c _ _ _ _ _
      cases (c == Value.type "enumerate") <;> (wp_walk using step; exact ⟨_, rfl, b1⟩)
    · wp_walk using step
      exact ⟨_, rfl, b1⟩
theorem enum_of_tuple {prog : Program} {w : World} {A : Around} {E : Value → Shared → Prop} {s : Shared} {t : Addr} {items : Array Value} {Q : Value → Shared → Prop} (ht : s.heap.IsTuple t items)
    (h : ∀ h', IsEnum h' (s.heap.objs.size + 1) s.heap.objs.size 0 .none → h'.IsTupleIter s.heap.objs.size t 0 → (∀ b o, s.heap.get? b = some o → h'.get? b = some o) → Q (.ref (s.heap.objs.size + 1)) { s with heap := h' }) :
    wpAny (model prog w) A (call (.type "enumerate") [.ref t]) Q E s := by
  refine callType_new F.called_enumerate (by decide) (F.typeCall_enumerate_1 _) (F.newCall_enumerate_1 _) (fun obj => F.args_object_init_2 obj _) F.entry_enumerate_new (meets_enum1 (begins_tuple t items)) ⟨ht, ?_⟩
  have z : (s.heap.push { cls := .type "tuple_iterator", data := .fields #[.ref t, .int 0 0] }).objs.size = s.heap.objs.size + 1 := Heap.size_push ..
  have e2 := Heap.get?_push_size (s.heap.push { cls := .type "tuple_iterator", data := .fields #[.ref t, .int 0 0] }) (o := { cls := .type "enumerate", data := .fields #[.none, .bool false, .ref s.heap.objs.size, rawInt 0, .none, .none] }) rfl
  show _ ∧ _
  rw [z] at e2 ⊢
  exact ⟨⟨_, e2, rfl⟩, h _ e2 ⟨_, Heap.get?_push_of_some _ (Heap.get?_push_size _ rfl), rfl, rfl⟩ fun b o x => Heap.get?_push_of_some _ (Heap.get?_push_of_some _ x)⟩
/-- the tuple at a, each item in a new pair -/
def Itu (K : PySem.W.Frag) (a : Addr) : It :=
  ⟨fun i H => ∃ (xs : List V) (x : V), SqT K H a xs ∧ xs[i]? = some x, fun i H v H' => ∃ T x, v = .ref T ∧ H T = none ∧ H' = upd H T (.tup [vnI i, x]) ∧ ∀ xs, SqT K H a xs → xs[i]? = some x, fun i H => ∃ xs : List V, SqT K H a xs ∧ xs.length ≤ i⟩
/-- an iterator at a tuple's end -/
theorem draws_end {prog : Program} {w : World} {A : Around} (hh : A.handled = none) (it t : Addr) (i : Nat) (items : Array Value) (hx : items[i]? = none) :
    Draws prog w A it [it, t] i (fun _ _ => False) (fun j h => j = i ∧ h.IsTupleIter it t i ∧ h.IsTuple t items) where
  live := fun _ _ st => let ⟨_, ⟨o, ho, _⟩, _⟩ := st; ⟨o, ho⟩
  frame := fun _ _ _ st hk => by
    obtain ⟨e, ⟨o, ho, r⟩, o2, ho2, r2⟩ := st
    exact ⟨e, ⟨o, hk it (by simp) o ho, r⟩, o2, hk t (by simp) o2 ho2, r2⟩
  item := fun j s Q E hj st _ => absurd st.1 (by omega)
  done := fun s Q E st hE => wpAny_nextOf_tuple_end hh st.2.1 st.2.2 hx hE
theorem turn_enumT {P : Program} {w : World} {K : PySem.W.Frag} {elts : List Expr} {kk : Nat} {tpos : Pos} (a e it : Addr) (h1 : e ≠ it) (h2 : a ≠ it) (h3 : a ≠ e) :
    Turn P w K (.Tuple elts kk tpos) (Itu K a) [e, it] e (fun i h => (∃ old, IsEnum h e it ((i : Nat) : Int) old) ∧ h.IsTupleIter it a i) where
  mem := List.mem_cons_self
  obj := fun i h st b hb => by
    obtain ⟨⟨old, he⟩, o, ho, hc, hd⟩ := st
    rcases List.mem_cons.mp hb with z | z
    · rw [z]
      exact ⟨_, he, fun v q => nomatch q⟩
    · exact ⟨o, by rw [List.mem_singleton.mp z]; exact ho, fun v q => by rw [hd] at q; cases q⟩
  keep := fun i h h' st k => by
    obtain ⟨⟨old, he⟩, o, ho, r⟩ := st
    exact ⟨⟨old, k e (by simp) _ he⟩, o, k it (by simp) o ho, r⟩
  item := by
    intro X hP hw hK hc i pins s σ H E I hf st hg
    subst hP hw hK
    obtain ⟨⟨old, he⟩, hit⟩ := st
    obtain ⟨xs, x, hq, hx⟩ := hg
    obtain ⟨its, rv, p, hz⟩ := I.tuple hq
    obtain ⟨u, hu, ru⟩ := rv.get hx
    have le : e < s.heap.objs.size := Heap.lt_size he
    have li : it < s.heap.objs.size := by
      obtain ⟨_, q, _⟩ := hit
      exact Heap.lt_size q
    have hi : i < its.toArray.size := by
      have := (List.getElem?_eq_some_iff.mp hu).1
      simpa using this
    refine wpAny_pyNext_enum_itemD (Draws.tuple (A := X.A.in1) (I.ok.hd hc) it a h2 its.toArray) he ⟨hit, istup_old p⟩ hi h1 (by simp [h1, h3.symm]) fun y h' tk hy ho hs hT hsz hk => ?_
    have ey : y = u := by
      have q : its[i]? = some y := by simpa using hy
      rw [hu] at q
      exact (Option.some.inj q).symm
    subst ey
    refine ⟨_, rfl, wpAny_letOwnedTupleGo_enum (s := { s with heap := h', toks := tk + 1 }) ho fun h2' he2 sb => ?_⟩
    have T2 : h2'.get? s.heap.objs.size = some { cls := .type "tuple", data := .seq #[.int i tk, y] } := (sb.2 _ (Nat.ne_of_gt le)).trans hT
    have I1 := I.turnedNew (t' := tk + 1) (ch := [e, it]) (h' := h2') (T := s.heap.objs.size) (ob := .tup [vnI i, x]) (fun b ob hb q => (sb.2 b (fun z => hb (by simp [z]))).trans (hk b ob (fun z => hb (by simp [z])) (fun z => hb (by simp [z])) q)) hf (Nat.le_refl _)
      ⟨by show 2 ≤ sizeLine; decide, [.int i tk, y], .cons ⟨_, rfl⟩ (.cons ru .nil), ⟨_, T2, rfl, _, rfl⟩⟩
    refine ⟨.ref s.heap.objs.size, _, I1, rfl, ⟨_, x, rfl, I.hok.fresh (Nat.le_refl _), rfl, fun ys hy2 => by rw [I.tuple_inj hy2 hq]; exact hx⟩, ⟨⟨y, ?_⟩, ?_⟩, fun b hb => ?_⟩
    · rw [show ((i + 1 : Nat) : Int) = (i : Int) + 1 by omega]
      exact he2
    · obtain ⟨⟨o, ho2, r⟩, _⟩ := hs
      exact ⟨o, (sb.2 it h1.symm).trans ho2, r⟩
    · have lb : b < s.heap.objs.size := by
        rcases List.mem_cons.mp hb with z | z
        · rw [z]; exact le
        · rw [List.mem_singleton.mp z]; exact li
      rw [upd_ne (Nat.ne_of_lt lb)]
      exact (hf b hb).1
  done := by
    intro X hP hw hK hc i pins s σ H E I hf st hg
    subst hP hw hK
    obtain ⟨⟨old, he⟩, hit⟩ := st
    obtain ⟨xs, hq, hx⟩ := hg
    obtain ⟨its, rv, p, hz⟩ := I.tuple hq
    have hl := rv.length
    refine wpAny_pyNext_enum_endD (draws_end (A := X.A.in1) (I.ok.hd hc) it a i its.toArray (by simp; omega)) he ⟨rfl, hit, istup_old p⟩ fun h' q => ⟨rfl, ?_⟩
    exact I.turnedL (t' := s.toks) (ch := [it]) (fun b o hb r => q b o (fun z => hb (by simp [z])) r) fun b hb => hf b (by rw [List.mem_singleton.mp hb]; simp)
  self := fun A i s Q E st h => by
    obtain ⟨⟨_, he⟩, _⟩ := st
    exact wpAny_pyIter_enum he h
def iEnumT (K : PySem.W.Frag) (ta : TA) : TI := fun σ H R => ta σ H fun vs H1 => ∃ a xs, vs = [.ref a] ∧ SqT K H1 a xs ∧ R (Itu K a) H1
theorem pi_enumT {X : Cx} {e : Expr} {ta : TA} {p pos tpos : Pos} {elts : List Expr} {kk : Nat} (hg : Gl X "enumerate") (hm : X.mg "enumerate" = none) (ha : PA X [e] ta) (hs : starEach [e] X.env = [(false, eval e X.env)] := by rfl) :
    PI X (.Tuple elts kk tpos) (.Call (.Name "enumerate" p) [e] [] pos) (iEnumT X.K ta) := by
  refine ⟨fun pins s σ H R I h => Call_ (ld_blt I hg hm boot_enumerate (PyProof.Rows.callWith_type1 (thn (ha.run pos pins s σ H _ I h) fun us s1 ⟨vs, H1, I1, r1, q1⟩ => ?_) hs rfl))⟩
  obtain ⟨a, xs, rfl, hq, q⟩ := q1
  cases r1 with
  | cons r rr =>
    cases rr
    cases r
    obtain ⟨its, rv, p', hz⟩ := I1.tuple hq
    have la : a < s1.heap.objs.size := p'.lt
    refine enum_of_tuple (istup_old p') fun h' he hit hk => wpAny_pyIter_enum he ?_
    refine ⟨s1.heap.objs.size + 1, [s1.heap.objs.size + 1, s1.heap.objs.size], _, _, H1, rfl, I1.kept (t' := s1.toks) hk, turn_enumT a (s1.heap.objs.size + 1) s1.heap.objs.size (Nat.succ_ne_self _) (Nat.ne_of_lt la) (Nat.ne_of_lt (Nat.lt_succ_of_lt la)), ⟨⟨.none, he⟩, hit⟩, fun b hb => ?_, q⟩
    have hle : s1.heap.objs.size ≤ b := by
      rcases List.mem_cons.mp hb with z | z
      · rw [z]; exact Nat.le_succ _
      · rw [List.mem_singleton.mp z]; exact Nat.le_refl _
    exact I1.fpOk hle (I1.hok.fresh hle)
/-- its loop -/
theorem for_enumT {K : PySem.W.Frag} {a : Addr} {xs : List V} {g : TG} {tb : TS} {D : Ends} {σ : L2.St} {H : Hp} (Pv : Nat → L2.St → Hp → Prop) (h0 : Pv 0 σ H) (hl : ∀ i σ H, i ≤ xs.length → Pv i σ H → SqT K H a xs)
    (hs : ∀ i x σ H, xs[i]? = some x → Pv i σ H → ∀ T, H T = none → g (.ref T) σ (upd H T (.tup [vnI i, x])) fun σ2 H2 => tb { D with nx := Pv (i + 1), ct := Pv (i + 1), bk := D.nx } σ2 H2) (hd : ∀ σ H, Pv xs.length σ H → D.nx σ H) :
    ∃ W : Nat → Nat → L2.St → Hp → Prop, (∃ m, W 0 m σ H) ∧ ∀ i m σ H, W i m σ H →
      ((Itu K a).stop i H ∧ D.nx σ H) ∨ ((Itu K a).go i H ∧ ∃ N : L2.St → Hp → Prop, (∀ σ' H', N σ' H' → ∃ m', m' < m ∧ W (i + 1) m' σ' H') ∧ ∀ x H', (Itu K a).yld i H x H' → g x σ H' fun σ2 H2 => tb { D with nx := N, ct := N, bk := D.nx } σ2 H2) := by
  refine ⟨fun i m σ H => m = xs.length - i ∧ i ≤ xs.length ∧ Pv i σ H, ⟨_, rfl, Nat.zero_le _, h0⟩, fun i m σ H w => ?_⟩
  obtain ⟨rfl, hi, p⟩ := w
  have sq := hl i σ H hi p
  rcases Nat.lt_or_ge i xs.length with lt | ge
  · have at_ : xs[i]? = some xs[i] := by simp [lt]
    refine .inr ⟨⟨xs, xs[i], sq, at_⟩, Pv (i + 1), fun σ' H' p' => ⟨_, (by omega : xs.length - (i + 1) < xs.length - i), rfl, lt, p'⟩, fun x H' y => ?_⟩
    obtain ⟨T, x', rfl, hT, rfl, hx⟩ := y
    exact hs i x' σ H (hx xs sq) p T hT
  · obtain rfl : i = xs.length := by omega
    exact .inl ⟨⟨xs, sq, Nat.le_refl _⟩, hd σ H p⟩
end Tk

/-! ### The checks, of what is valid -/
namespace Tk
open PySem PySem.Spec PyProof.Rows L2
def spTick : Sp := fun vs H Q _ => ∃ t : Int, vs = [.int t] ∧ 0 ≤ t ∧ t ≤ 1000000000000000000 ∧ Q .non H
def spFii : Sp := fun vs H Q _ => ∃ (p : Addr) (ps : List Nat), vs = [.ref p] ∧ H p = some (.tup (ps.map vn)) ∧ Pat ps ∧ ∀ H', Same H H' → Q .non H'
def spChk : Sp := fun vs H Q _ => ∃ (v : V) (p : Addr) (ps : List Nat), vs = [v, .ref p] ∧ H p = some (.tup (ps.map vn)) ∧ Pat ps ∧ ∀ H', Same H H' → Q .non H'
def spChall : Sp := fun vs H Q _ => ∃ (tp cp : Addr) (m lt : Nat) (tk cl : List Nat), vs = [vn m, .ref tp, .ref cp, vn lt] ∧ H tp = some (.tup (tk.map vn)) ∧ H cp = some (.tup (cl.map vn)) ∧ Parts m tk cl lt ∧ ∀ H', Same H H' → Q .non H'
theorem inB_in {lo hi i : Int} (h1 : lo ≤ i) (h2 : i ≤ hi) : inB lo hi (.int i) = true := by
  show (decide (lo ≤ i) && decide (i ≤ hi)) = true
  rw [decide_eq_true h1, decide_eq_true h2]
  rfl
theorem Same.upd2 {H : Hp} {a : Addr} {o : HO} (h : H a = none) {H0 : Hp} (s : Same H0 H) : Same H0 (upd H a o) := s.trans (Same.new h)
section
variable {P : Program} {w : World} {K : PySem.W.Frag} {mg : Str → Option Value} {base : Heap}
theorem ok_first_invalid_item (T : Txt K mg) : OkF P w K mg base 2 (He.ga K "first_invalid_item") ["pattern"] spFii := by
  have G_is_integer_within : OkF P w K mg base 1 (He.ga K "is_integer_within") ["value", "low", "high"] spWithin := ok_is_integer_within T
  refine FnP.okF T.f_first_invalid_item sc_first_invalid_item (fun _ _ _ _ _ _ us hl => match us, hl with | [_], _ => rfl) (fun vs H Q E h => ?_) (fun cdv A outer s H vs Q E hr h => ?_)
  · obtain ⟨p, ps, rfl, _⟩ := h
    rfl
  obtain ⟨p, ps, rfl, hp, hP, k⟩ := h
  refine ⟨_, (pss_cons (ps_if (PW.pt (pw_or (pt_not (pt_val (pe_callB (isiK (K := K)) (by rfl) T.g_isinstance (by decide +kernel) (pa_cons (pv 0) (pa_cons (pe_bltn (v := .ty "tuple") (by rfl) T.g_tuple boot_ty_tuple rfl) pa_nil))))) (pw_or1 (pt_cmpR op_eq (pe_callB (lenK (K := K)) (by rfl) T.g_len (by decide +kernel) (pa_cons (pv 0) pa_nil)) pe_int (nomark _))))) (pss_one (ps_ret pe_int)) pss_nil)
    (pss_cons (ps_for own_cx rfl (pi_enumT (by rfl) T.g_enumerate (pa_cons (pv 0) pa_nil)) (pg_tup rfl (pgs_cons (pg_name (i := 1) sc_first_invalid_item.nd rfl (Or.inl rfl)) (pgs_cons (pg_name (i := 2) sc_first_invalid_item.nd rfl (Or.inl rfl)) pgs_nil)))
      (pss_one (ps_if (PW.pt (pw_or (pt_cmpR op_eq (pv 1) (pe_gint (by rfl) T.c_MOST_ITEMS) (nomark _)) (pw_or1 (pt_not (pt_val (pe_call G_is_integer_within.one (hr.mono (by decide)) (by rfl) T.g_is_integer_within G_is_integer_within.kp G_is_integer_within.two .nil passL (pa_cons (pv 2) (pa_cons pe_int (pa_cons (pe_gint (by rfl) T.c_GREATEST_ITEM) pa_nil))))))))) (pss_one (ps_ret (pv 1))) pss_nil)))
    (pss_one (ps_ret pe_non)))), ?_⟩
  -- not a tuple, or empty
  refine ⟨_, rfl, .ref p, .ty "tuple", .type "tuple", _, true, rfl, .ty "tuple", .base (.tup hp), kit_at (by decide +kernel), true, rfl, ?_⟩
  refine ⟨_, rfl, p, _, rfl, .inr (SqT.of hp), rfl, _, rfl, ?_⟩
  refine ite2 (fun c => ?_) (fun _ => ?_)
  · exfalso
    have e : V.int ((ps.map vn).length : Int) = V.int 0 := of_decide_eq_true c
    have e2 : ((ps.map vn).length : Int) = 0 := by injection e
    rw [List.length_map] at e2
    have := hP.pos
    omega
  refine ⟨_, rfl, p, _, rfl, SqT.of hp, for_enumT (K := K) (a := p) (xs := ps.map vn) (fun i σ H2 => ∃ a b, σ = [some (.ref p), a, b] ∧ Same H H2) ⟨_, _, rfl, Same.refl H⟩
    (fun i σ H2 _ ⟨_, _, _, e⟩ => SqT.of (e _ _ hp)) ?_ ?_⟩
  · rintro i x σ H2 hx ⟨a, b, rfl, hS⟩ Tp hT
    have hi : i < ps.length := by
      have := (List.getElem?_eq_some_iff.mp hx).1
      rwa [List.length_map] at this
    obtain ⟨y, rfl, hy⟩ : ∃ y, x = vn y ∧ ps[i]? = some y := by
      rw [List.getElem?_map] at hx
      cases e : ps[i]? with
      | none => rw [e] at hx; cases hx
      | some u => rw [e] at hx; exact ⟨u, (Option.some.inj hx).symm, rfl⟩
    have y9 := hP.nine y (List.mem_of_getElem? hy)
    have hS2 : Same H (upd H2 Tp (.tup [vnI i, vn y])) := Same.upd2 hT hS
    refine ⟨Tp, _, rfl, SqT.of upd_same, rfl, _, _, rfl, _, _, rfl, rfl, ?_⟩
    refine ⟨_, rfl, rfl, _, rfl, ?_⟩
    refine ite2 (fun c => ?_) (fun _ => ?_)
    · exfalso
      have e : V.int (i : Int) = V.int 12 := of_decide_eq_true c
      have e2 : (i : Int) = 12 := by injection e
      have := hP.len
      omega
    refine ⟨_, rfl, vn y, 0, 9, rfl, .int _, true, by rw [inB_in (by omega) (by omega)], ?_⟩
    exact ⟨_, _, rfl, hS2⟩
  · rintro σ H2 ⟨a, b, rfl, hS⟩
    exact k H2 hS
theorem ok_check_pattern (T : Txt K mg) : OkF P w K mg base 4 (He.ga K "check_pattern") ["part", "pattern"] spChk := by
  have G_first_invalid_item : OkF P w K mg base 2 (He.ga K "first_invalid_item") ["pattern"] spFii := ok_first_invalid_item T
  refine FnP.okF T.f_check_pattern sc_check_pattern (fun _ _ _ _ _ _ us hl => match us, hl with | [_, _], _ => rfl) (fun vs H Q E h => ?_) (fun cdv A outer s H vs Q E hr h => ?_)
  · obtain ⟨v, p, ps, rfl, _⟩ := h
    rfl
  obtain ⟨v, p, ps, rfl, hp, hP, k⟩ := h
  refine ⟨_, (pss_cons (ps_set (i := 2) sc_check_pattern.nd rfl (Or.inl rfl) (pe_call G_first_invalid_item.one (hr.mono (by decide)) (by rfl) T.g_first_invalid_item G_first_invalid_item.kp G_first_invalid_item.two .nil passL (pa_cons (pv 1) pa_nil)))
    (pss_one (ps_if (pt_cmpR (show OpR _ (compareOp .IsNot) Rd.rNotN from op_notN) (pv 2) pe_non (nomark _)) (pss_one ps_never) pss_nil))), ?_⟩
  refine ⟨_, rfl, p, ps, rfl, hp, hP, fun H' hS => ?_⟩
  refine ⟨_, rfl, rfl, _, rfl, ?_⟩
  exact k H' hS
theorem ok_check_hall (T : Txt K mg) : OkF P w K mg base 5 (He.ga K "check_hall") ["modulus", "takes", "calls", "lateness"] spChall := by
  have G_is_integer_within : OkF P w K mg base 1 (He.ga K "is_integer_within") ["value", "low", "high"] spWithin := ok_is_integer_within T
  have G_check_pattern : OkF P w K mg base 4 (He.ga K "check_pattern") ["part", "pattern"] spChk := ok_check_pattern T
  refine FnP.okF T.f_check_hall sc_check_hall (fun _ _ _ _ _ _ us hl => match us, hl with | [_, _, _, _], _ => rfl) (fun vs H Q E h => ?_) (fun cdv A outer s H vs Q E hr h => ?_)
  · obtain ⟨tp, cp, m, lt, tk, cl, rfl, _⟩ := h
    rfl
  obtain ⟨tp, cp, m, lt, tk, cl, rfl, htp, hcp, hP, k⟩ := h
  refine ⟨_, (pss_cons (ps_if (pt_not (pt_val (pe_call G_is_integer_within.one (hr.mono (by decide)) (by rfl) T.g_is_integer_within G_is_integer_within.kp G_is_integer_within.two .nil passL (pa_cons (pv 0) (pa_cons (pe_gint (by rfl) T.c_LEAST_MODULUS) (pa_cons (pe_gint (by rfl) T.c_GREATEST_MODULUS) pa_nil)))))) (pss_one ps_never) pss_nil)
    (pss_cons (ps_expr (pe_call G_check_pattern.one (hr.mono (by decide)) (by rfl) T.g_check_pattern G_check_pattern.kp G_check_pattern.two .nil passL (pa_cons pe_str (pa_cons (pv 1) pa_nil))))
    (pss_cons (ps_expr (pe_call G_check_pattern.one (hr.mono (by decide)) (by rfl) T.g_check_pattern G_check_pattern.kp G_check_pattern.two .nil passL (pa_cons pe_str (pa_cons (pv 2) pa_nil))))
    (pss_one (ps_if (pt_not (pt_val (pe_call G_is_integer_within.one (hr.mono (by decide)) (by rfl) T.g_is_integer_within G_is_integer_within.kp G_is_integer_within.two .nil passL (pa_cons (pv 3) (pa_cons pe_int (pa_cons (pe_gint (by rfl) T.c_GREATEST_LATENESS) pa_nil)))))) (pss_one ps_never) pss_nil))))), ?_⟩
  have m2 := hP.m2
  have m4 := hP.m4
  have l9 := hP.l99
  refine ⟨_, rfl, vn m, 2, 10000, rfl, .int _, true, by rw [inB_in (by omega) (by omega)], ?_⟩
  refine ⟨_, rfl, _, tp, tk, rfl, htp, hP.tkP, fun H1 S1 => ?_⟩
  refine ⟨_, rfl, _, cp, cl, rfl, S1 _ _ hcp, hP.clP, fun H2 S2 => ?_⟩
  refine ⟨_, rfl, vn lt, 0, 99, rfl, .int _, true, by rw [inB_in (by omega) (by omega)], ?_⟩
  exact k H2 (S1.trans S2)
end
end Tk

/-! ### The hall -/
namespace Tk
open PySem PySem.Spec PyProof.Rows L2 Mm
def calV (tk cl : List Nat) (n : Nat) : List V := (List.range (n + 1)).map fun t => vn (cal tk cl t)
theorem calV_len {tk cl : List Nat} {n : Nat} : (calV tk cl n).length = n + 1 := by unfold calV; simp
theorem calV_at {tk cl : List Nat} {n t : Nat} (h : t ≤ n) : (calV tk cl n)[t]? = some (vn (cal tk cl t)) := by
  unfold calV
  rw [List.getElem?_map, List.getElem?_range (by omega)]
  rfl
theorem calV_succ {tk cl : List Nat} {n : Nat} : calV tk cl (n + 1) = calV tk cl n ++ [vn (cal tk cl (n + 1))] := by
  unfold calV
  rw [List.range_succ, List.map_append]
  rfl
theorem pat_at {ps : List Nat} (h : 0 < ps.length) {z : Int} {i : Nat} (e : z = (i : Int)) : atI (ps.map vn) (z % ((ps.map vn).length : Int)) = some (vn (atp ps i)) := by
  subst e
  rw [List.length_map, show (i : Int) % (ps.length : Int) = ((i % ps.length : Nat) : Int) from (Int.natCast_emod _ _).symm]
  refine atn ?_
  have lt := Nat.mod_lt i h
  rw [List.getElem?_map]
  unfold atp
  rw [List.getD_eq_getElem?_getD, List.getElem?_eq_getElem lt]
  rfl
def hfs (m : Nat) (tp cp : Addr) (lt : Nat) (lp : Addr) : List (Str × V) := putF "_called" (.ref lp) (putF "lateness" (vn lt) (putF "calls" (.ref cp) (putF "takes" (.ref tp) (putF "modulus" (vn m) []))))
theorem hfs_no {m : Nat} {tp cp : Addr} {lt : Nat} {lp : Addr} {x : Str} (h1 : ¬ x = "_called") (h2 : ¬ x = "lateness") (h3 : ¬ x = "calls") (h4 : ¬ x = "takes") (h5 : ¬ x = "modulus") : (hfs m tp cp lt lp).lookup x = none := by
  unfold hfs
  rw [lookup_putF, if_neg h1, lookup_putF, if_neg h2, lookup_putF, if_neg h3, lookup_putF, if_neg h4, lookup_putF, if_neg h5]
  rfl
theorem hfs_takes {m : Nat} {tp cp : Addr} {lt : Nat} {lp : Addr} : (hfs m tp cp lt lp).lookup ("takes" : Str) = some (.ref tp) := by
  unfold hfs
  rw [lookup_putF, if_neg (by decide +kernel), lookup_putF, if_neg (by decide +kernel), lookup_putF, if_neg (by decide +kernel), lookup_putF, if_pos rfl]
theorem hfs_calls {m : Nat} {tp cp : Addr} {lt : Nat} {lp : Addr} : (hfs m tp cp lt lp).lookup ("calls" : Str) = some (.ref cp) := by
  unfold hfs
  rw [lookup_putF, if_neg (by decide +kernel), lookup_putF, if_neg (by decide +kernel), lookup_putF, if_pos rfl]
theorem hfs_lateness {m : Nat} {tp cp : Addr} {lt : Nat} {lp : Addr} : (hfs m tp cp lt lp).lookup ("lateness" : Str) = some (vn lt) := by
  unfold hfs
  rw [lookup_putF, if_neg (by decide +kernel), lookup_putF, if_pos rfl]
theorem hfs_called {m : Nat} {tp cp : Addr} {lt : Nat} {lp : Addr} : (hfs m tp cp lt lp).lookup ("_called" : Str) = some (.ref lp) := by
  unfold hfs
  rw [lookup_putF, if_pos rfl]
theorem hfs_modulus {m : Nat} {tp cp : Addr} {lt : Nat} {lp : Addr} : (hfs m tp cp lt lp).lookup ("modulus" : Str) = some (vn m) := by
  unfold hfs
  rw [lookup_putF, if_neg (by decide +kernel), lookup_putF, if_neg (by decide +kernel), lookup_putF, if_neg (by decide +kernel), lookup_putF, if_neg (by decide +kernel), lookup_putF, if_pos rfl]
/-- a hall at h, its numbers of calls at lp -/
structure HallAt (C : Addr) (H : Hp) (h : Addr) (m : Nat) (tk cl : List Nat) (lt : Nat) (lp : Addr) : Prop where
  ex : ∃ dx tp cp, H h = some (.ins C dx (hfs m tp cp lt lp)) ∧ H tp = some (.tup (tk.map vn)) ∧ H cp = some (.tup (cl.map vn))
  lst : H lp = some (.lst (calV tk cl (2 * per tk cl)))
  ok : Parts m tk cl lt
theorem HallAt.but {C d h lp : Addr} {H H' : Hp} {m lt : Nat} {tk cl : List Nat} {cs : List V} (p : HallAt C H h m tk cl lt lp) (b : But d H H') (hd : H d = some (.lst cs)) (n : lp ≠ d) : HallAt C H' h m tk cl lt lp := by
  obtain ⟨dx, tp, cp, h1, h2, h3⟩ := p.ex
  exact ⟨⟨dx, tp, cp, b _ _ (ne_of h1 hd (fun q => by cases q)) h1, b _ _ (ne_of h2 hd (fun q => by cases q)) h2, b _ _ (ne_of h3 hd (fun q => by cases q)) h3⟩, b _ _ n p.lst, p.ok⟩
theorem HallAt.same {C h lp : Addr} {H H' : Hp} {m lt : Nat} {tk cl : List Nat} (p : HallAt C H h m tk cl lt lp) (b : Same H H') : HallAt C H' h m tk cl lt lp := by
  obtain ⟨dx, tp, cp, h1, h2, h3⟩ := p.ex
  exact ⟨⟨dx, tp, cp, b _ _ h1, b _ _ h2, b _ _ h3⟩, b _ _ p.lst, p.ok⟩
def spCount : Sp := fun vs H Q _ => ∃ (tp cp : Addr) (tk cl : List Nat) (n : Nat), vs = [.ref tp, .ref cp, vn n] ∧ H tp = some (.tup (tk.map vn)) ∧ H cp = some (.tup (cl.map vn)) ∧ Pat tk ∧ Pat cl ∧ n ≤ 1000 ∧
  ∀ l H', H l = none → Same H H' → H' l = some (.lst (calV tk cl n)) → Q (.ref l) H'
def spPeriod (C : Addr) : Sp := fun vs H Q _ => ∃ (h dx tp cp : Addr) (fs : List (Str × V)) (tk cl : List Nat), vs = [.ref h] ∧ H h = some (.ins C dx fs) ∧ fs.lookup ("takes" : Str) = some (.ref tp) ∧ fs.lookup ("calls" : Str) = some (.ref cp) ∧
  H tp = some (.tup (tk.map vn)) ∧ H cp = some (.tup (cl.map vn)) ∧ Pat tk ∧ Pat cl ∧ Q (vn (per tk cl)) H
def spInit (C : Addr) : Sp := fun vs H Q _ => ∃ (x dx tp cp : Addr) (m lt : Nat) (tk cl : List Nat), vs = [.ref x, vn m, .ref tp, .ref cp, vn lt] ∧ H x = some (.ins C dx []) ∧ H tp = some (.tup (tk.map vn)) ∧ H cp = some (.tup (cl.map vn)) ∧ Parts m tk cl lt ∧
  ∀ H' lp, But x H H' → H lp = none → HallAt C H' x m tk cl lt lp → Q .non H'
theorem per_144 {tk cl : List Nat} (h1 : Pat tk) (h2 : Pat cl) : per tk cl ≤ 144 := by
  have := per_le (tk := tk) (cl := cl)
  have a := Nat.mul_le_mul h1.len h2.len
  omega
theorem vn_int {z : Int} {n : Nat} (h : z = (n : Int)) : V.int z = vn n := by rw [h]
section
variable {P : Program} {w : World} {K : PySem.W.Frag} {mg : Str → Option Value} {base : Heap}
theorem ok_count_calls (T : Txt K mg) : OkF P w K mg base 1 (He.ga K "count_calls") ["takes", "calls", "ticks"] spCount := by
  refine FnP.okF T.f_count_calls sc_count_calls (fun _ _ _ _ _ _ us hl => match us, hl with | [_, _, _], _ => rfl) (fun vs H Q E h => ?_) (fun cdv A outer s H vs Q E hr h => ?_)
  · obtain ⟨tp, cp, tk, cl, n, rfl, _⟩ := h
    rfl
  obtain ⟨tp, cp, tk, cl, n, rfl, htp, hcp, hT, hC, hn, k⟩ := h
  refine ⟨_, (pss_cons (ps_set (i := 3) sc_count_calls.nd rfl (Or.inl rfl) (pe_lst (pa_cons pe_int pa_nil)))
    (pss_cons (ps_set (i := 4) sc_count_calls.nd rfl (Or.inl rfl) pe_int)
    (pss_cons (ps_for own_cx rfl (pi_range1 (by rfl) T.g_range (pa_cons (pv 2) pa_nil)) (pg_name (i := 5) sc_count_calls.nd rfl (Or.inl rfl))
      (pss_cons (ps_aug (i := 4) sc_count_calls.nd rfl (Or.inl rfl) (pe_ix (ixTK (K := K)) (pv 0) (pe_op op_mod (pv 5) (pe_callB (lenK (K := K)) (by rfl) T.g_len (by decide +kernel) (pa_cons (pv 0) pa_nil))) (fun _ _ => rfl)) ip_add)
    (pss_cons (ps_set (i := 6) sc_count_calls.nd rfl (Or.inl rfl) (pe_callB (show CallR _ (.builtin "min") Rd.rMin2 from call_min2 (by rfl)) (by rfl) T.g_min (by decide +kernel) (pa_cons (pv 4) (pa_cons (pe_ix (ixTK (K := K)) (pv 1) (pe_op op_mod (pv 5) (pe_callB (lenK (K := K)) (by rfl) T.g_len (by decide +kernel) (pa_cons (pv 1) pa_nil))) (fun _ _ => rfl)) pa_nil))))
    (pss_cons (ps_aug (i := 4) sc_count_calls.nd rfl (Or.inl rfl) (pv 6) ip_sub)
    (pss_one (ps_expr (pe_bm PySem.F.plainAttrs_list PySem.F.slot_list_append PySem.F.type_list_append mt_append (pv 3) (pa_cons (pe_op op_add (pe_ix (ixLK (K := K)) (pv 3) (pv 5) (fun _ _ => rfl)) (pv 6)) pa_nil))))))))
    (pss_one (ps_ret (pv 3)))))), ?_⟩
  refine ⟨(by show 1 ≤ sizeLine; decide), fun l hl => ?_⟩
  have nl : ∀ {q : Addr} {o : HO}, H q = some o → q ≠ l := fun e => ne_of_none e hl
  refine ⟨_, rfl, (n : Int), rfl, by omega, by omega, for_range (lo := 0) (n := ((n : Int)).toNat) (fun i σ H2 => ∃ a b, σ = [some (.ref tp), some (.ref cp), some (vn n), some (.ref l), some (vn (wt tk cl i)), a, b] ∧ H2 = upd H l (.lst (calV tk cl i)))
    ⟨_, _, rfl, rfl⟩ ?_ ?_⟩
  · rintro i σ H2 hi ⟨a, b, rfl, rfl⟩
    have hi2 : i < n := by simpa using hi
    have t1 : upd H l (.lst (calV tk cl i)) tp = some (.tup (tk.map vn)) := by rw [upd_ne (nl htp)]; exact htp
    have t2 : upd H l (.lst (calV tk cl i)) cp = some (.tup (cl.map vn)) := by rw [upd_ne (nl hcp)]; exact hcp
    have L1 := hT.pos
    have L2 := hC.pos
    -- waiting += takes[tick % len(takes)]
    refine ⟨_, rfl, _, rfl, _, rfl, _, rfl, tp, _, rfl, .inr (SqT.of t1), _, _, rfl, rfl, (by show (0 : Int) < ((tk.map vn).length : Int); rw [List.length_map]; omega), tp, _, _, _, rfl, rfl, SqT.of t1, pat_at L1 (Int.zero_add _), _, _, rfl, rfl, ?_⟩
    -- now = min(waiting, calls[tick % len(calls)])
    refine ⟨_, rfl, _, rfl, _, rfl, _, rfl, cp, _, rfl, .inr (SqT.of t2), _, _, rfl, rfl, (by show (0 : Int) < ((cl.map vn).length : Int); rw [List.length_map]; omega), cp, _, _, _, rfl, rfl, SqT.of t2, pat_at L2 (Int.zero_add _), _, _, rfl, ?_⟩
    have em : V.int (if (atp cl i : Int) < ((wt tk cl i : Int) + (atp tk i : Int)) then (atp cl i : Int) else ((wt tk cl i : Int) + (atp tk i : Int))) = vn (min (wt tk cl i + atp tk i) (atp cl i)) := by
      refine vn_int ?_
      split <;> omega
    rw [em]
    -- waiting -= now
    refine ⟨_, rfl, _, rfl, _, _, rfl, rfl, ?_⟩
    -- called.append(called[tick] + now)
    refine ⟨_, rfl, .inl ⟨rfl, _, SqL.of upd_same⟩, _, rfl, _, rfl, l, _, _, _, rfl, rfl, SqL.of upd_same, (show atI (calV tk cl i) ((0 : Int) + (i : Int)) = some (vn (cal tk cl i)) by rw [Int.zero_add]; exact atn (calV_at (Nat.le_refl i))), _, rfl, _, _, rfl, rfl, ?_⟩
    refine ⟨l, _, _, rfl, rfl, upd_same, small1000 (by rw [calV_len]; omega), some (.int (0 + (i : Int))), some (vn (min (wt tk cl i + atp tk i) (atp cl i))), ?_, ?_⟩
    · have e1 : V.int ((wt tk cl i : Int) + (atp tk i : Int) - ((min (wt tk cl i + atp tk i) (atp cl i) : Nat) : Int)) = vn (wt tk cl (i + 1)) := vn_int (by rw [wt_succ]; omega)
      rw [← e1]
      rfl
    · rw [upd_upd, calV_succ]
      have e2 : V.int ((cal tk cl i : Int) + ((min (wt tk cl i + atp tk i) (atp cl i) : Nat) : Int)) = vn (cal tk cl (i + 1)) := vn_int (by rw [cal_succ]; omega)
      rw [← e2]
  · rintro σ H2 ⟨a, b, rfl, rfl⟩
    refine ⟨_, rfl, k l _ hl (Same.new hl) ?_⟩
    rw [upd_same]
    simp
theorem ok_period (T : Txt K mg) : OkF P w K mg base 1 (getAt K (He.ga K "Hall") "period") ["self"] (spPeriod (He.ga K "Hall")) := by
  refine FnP.okF T.f_period sc_period (fun _ _ _ _ _ _ us hl => match us, hl with | [_], _ => rfl) (fun vs H Q E h => ?_) (fun cdv A outer s H vs Q E hr h => ?_)
  · obtain ⟨h, _, _, _, _, _, _, rfl, _⟩ := h
    rfl
  obtain ⟨h, dx, tp, cp, fs, tk, cl, rfl, hh, f1, f2, htp, hcp, hT, hC, k⟩ := h
  refine ⟨_, (pss_one (ps_ret (pfun cr_lcm (by rfl) T.g_lcm (pa_cons (pe_callB (lenK (K := K)) (by rfl) T.g_len (by decide +kernel) (pa_cons (pe_fld (pv 0) rfl) pa_nil)) (pa_cons (pe_callB (lenK (K := K)) (by rfl) T.g_len (by decide +kernel) (pa_cons (pe_fld (pv 0) rfl) pa_nil)) pa_nil))))), ?_⟩
  have a1 := hT.len
  have a2 := hC.len
  refine ⟨_, rfl, h, _, dx, fs, _, rfl, hh, T.cl_Hall, T.n_takes, f1, tp, _, rfl, .inr (SqT.of htp), ?_⟩
  refine ⟨_, rfl, h, _, dx, fs, _, rfl, hh, T.cl_Hall, T.n_calls, f2, cp, _, rfl, .inr (SqT.of hcp), ?_⟩
  refine ⟨_, _, rfl, by rw [List.length_map]; omega, by rw [List.length_map]; omega, ?_⟩
  rw [List.length_map, List.length_map]
  exact k
theorem ok_init (T : Txt K mg) : OkF P w K mg base 6 (He.ma K (He.ga K "Hall") "__init__") ["self", "modulus", "takes", "calls", "lateness"] (spInit (He.ga K "Hall")) := by
  have G_check_hall : OkF P w K mg base 5 (He.ga K "check_hall") ["modulus", "takes", "calls", "lateness"] spChall := ok_check_hall T
  have G_count_calls : OkF P w K mg base 1 (He.ga K "count_calls") ["takes", "calls", "ticks"] spCount := ok_count_calls T
  have G_period : OkF P w K mg base 1 (getAt K (He.ga K "Hall") "period") ["self"] (spPeriod (He.ga K "Hall")) := ok_period T
  refine FnP.okF T.f_init sc_init (fun _ _ _ _ _ _ us hl => match us, hl with | [_, _, _, _, _], _ => rfl) (fun vs H Q E h => ?_) (fun cdv A outer s H vs Q E hr h => ?_)
  · obtain ⟨x, _, _, _, _, _, _, _, rfl, _⟩ := h
    rfl
  obtain ⟨x, dx, tp, cp, m, lt, tk, cl, rfl, hx, htp, hcp, hP, k⟩ := h
  refine ⟨_, (pss_cons (ps_expr (pe_call G_check_hall.one (hr.mono (by decide)) (by rfl) T.g_check_hall G_check_hall.kp G_check_hall.two .nil passL (pa_cons (pv 1) (pa_cons (pv 2) (pa_cons (pv 3) (pa_cons (pv 4) pa_nil))))))
    (pss_cons (ps_fld (pv 0) (pv 1) rfl)
    (pss_cons (ps_fld (pv 0) (pv 2) rfl)
    (pss_cons (ps_fld (pv 0) (pv 3) rfl)
    (pss_cons (ps_fld (pv 0) (pv 4) rfl)
    (pss_one (ps_fld (pv 0) (pe_call G_count_calls.one (hr.mono (by decide)) (by rfl) T.g_count_calls G_count_calls.kp G_count_calls.two .nil passL (pa_cons (pv 2) (pa_cons (pv 3) (pa_cons (pe_op op_mul pe_int (pe_prop (pv 0) T.cl_Hall T.p_period G_period.one (hr.mono (by decide)) G_period.two .nil passL (by rfl))) pa_nil)))) rfl))))))), ?_⟩
  refine ⟨_, rfl, _, rfl, _, rfl, _, rfl, tp, cp, m, lt, tk, cl, rfl, htp, hcp, hP, fun H1 S1 => ?_⟩
  have x1 := S1 _ _ hx
  have n1 : tp ≠ x := ne_of htp hx (fun q => by cases q)
  have n2 : cp ≠ x := ne_of hcp hx (fun q => by cases q)
  have len1 : ∀ (f : Str) (v : V) (fs : List (Str × V)) (n : Nat), fs.length ≤ n → (putF f v fs).length ≤ n + 1 := fun f v fs n h => Nat.le_trans (length_putF f v fs) (Nat.succ_le_succ h)
  refine ⟨_, rfl, _, rfl, x, _, dx, _, rfl, x1, T.cl_Hall, T.n_modulus, (by decide), ?_⟩
  refine ⟨_, rfl, _, rfl, x, _, dx, _, rfl, upd_same, T.cl_Hall, T.n_takes, Nat.lt_of_le_of_lt (len1 _ _ _ 0 (Nat.le_refl 0)) (by decide), ?_⟩
  refine ⟨_, rfl, _, rfl, x, _, dx, _, rfl, upd_same, T.cl_Hall, T.n_calls, Nat.lt_of_le_of_lt (len1 _ _ _ 1 (len1 _ _ _ 0 (Nat.le_refl 0))) (by decide), ?_⟩
  refine ⟨_, rfl, _, rfl, x, _, dx, _, rfl, upd_same, T.cl_Hall, T.n_lateness, Nat.lt_of_le_of_lt (len1 _ _ _ 2 (len1 _ _ _ 1 (len1 _ _ _ 0 (Nat.le_refl 0)))) (by decide), ?_⟩
  rw [upd_upd, upd_upd, upd_upd]
  have t1 : ∀ o, upd H1 x o tp = some (.tup (tk.map vn)) := fun o => by rw [upd_ne n1]; exact S1 _ _ htp
  have t2 : ∀ o, upd H1 x o cp = some (.tup (cl.map vn)) := fun o => by rw [upd_ne n2]; exact S1 _ _ hcp
  have p144 := per_144 hP.tkP hP.clP
  -- self._called = count_calls(takes, calls, 2 * self.period)
  refine ⟨_, rfl, _, rfl, _, rfl, x, dx, _, rfl, upd_same, x, dx, tp, cp, _, tk, cl, rfl, upd_same, ?_, ?_, t1 _, t2 _, hP.tkP, hP.clP, ?_⟩
  · rw [lookup_putF, if_neg (by decide +kernel), lookup_putF, if_neg (by decide +kernel), lookup_putF, if_pos rfl]
  · rw [lookup_putF, if_neg (by decide +kernel), lookup_putF, if_pos rfl]
  refine ⟨2, _, rfl, rfl, .inl ⟨by decide, by decide⟩, tp, cp, tk, cl, 2 * per tk cl, by simp, t1 _, t2 _, hP.tkP, hP.clP, by omega, fun lp H2 n3 S2 h2 => ?_⟩
  have nx : x ≠ lp := fun e => by rw [e, upd_same] at n3; cases n3
  have n4 : H lp = none := by
    rw [upd_ne (Ne.symm nx)] at n3
    exact S1.free n3
  refine ⟨_, rfl, x, _, dx, _, rfl, S2 _ _ upd_same, T.cl_Hall, T.n__called, Nat.lt_of_le_of_lt (len1 _ _ _ 3 (len1 _ _ _ 2 (len1 _ _ _ 1 (len1 _ _ _ 0 (Nat.le_refl 0))))) (by decide), ?_⟩
  refine k _ lp (fun b o nb e => ?_) n4 ⟨⟨dx, tp, cp, upd_same, ?_, ?_⟩, ?_, hP⟩
  · rw [upd_ne nb]
    exact S2 _ _ (by rw [upd_ne nb]; exact S1 _ _ e)
  · rw [upd_ne n1]
    exact S2 _ _ (t1 _)
  · rw [upd_ne n2]
    exact S2 _ _ (t2 _)
  · rw [upd_ne (Ne.symm nx)]
    exact h2
end
end Tk

/-! ### The hall's methods -/
namespace Tk
open PySem PySem.Spec PyProof.Rows L2 Mm
def spTaken (C : Addr) : Sp := fun vs H Q _ => ∃ (h lp : Addr) (z : Int) (m lt : Nat) (tk cl : List Nat), vs = [.ref h, .int z] ∧ HallAt C H h m tk cl lt lp ∧ ∀ H', Same H H' → Q (vn (tak tk z.toNat)) H'
def spCalled (C : Addr) : Sp := fun vs H Q _ => ∃ (h lp : Addr) (z : Int) (m lt : Nat) (tk cl : List Nat), vs = [.ref h, .int z] ∧ HallAt C H h m tk cl lt lp ∧ Q (vn (cal tk cl z.toNat)) H
def spWaiting (C : Addr) : Sp := fun vs H Q _ => ∃ (h lp : Addr) (n : Nat) (m lt : Nat) (tk cl : List Nat), vs = [.ref h, vn n] ∧ n ≤ 1000000000000000000 ∧ HallAt C H h m tk cl lt lp ∧ ∀ H', Same H H' → Q (vn (wt tk cl (n + 1))) H'
def grow (tk cl : List Nat) : Nat := wt tk cl (2 * per tk cl + 1) - wt tk cl (per tk cl + 1)
def spGrowth (C : Addr) : Sp := fun vs H Q _ => ∃ (h lp : Addr) (m lt : Nat) (tk cl : List Nat), vs = [.ref h] ∧ HallAt C H h m tk cl lt lp ∧ ∀ H', Same H H' → Q (vn (grow tk cl)) H'
theorem map_vn (tk : List Nat) : (tk.map (fun n : Nat => (n : Int))).map V.int = tk.map vn := by rw [List.map_map]; rfl
theorem sum_cast (tk : List Nat) : (tk.map (fun n : Nat => (n : Int))).sum = ((tk.sum : Nat) : Int) := by
  induction tk with
  | nil => rfl
  | cons a r ih => rw [List.map_cons, List.sum_cons, List.sum_cons, ih]; omega
theorem max0 (z : Int) : (if (0 : Int) > z then (0 : Int) else z) = ((z.toNat : Nat) : Int) := by split <;> omega
section
variable {P : Program} {w : World} {K : PySem.W.Frag} {mg : Str → Option Value} {base : Heap}
end
end Tk

/-! ### The law's own defs: hall, length, counts -/
namespace Tk
open PySem PySem.Spec PyProof.Rows L2 Mm
def fV (f : Nat → Nat) (n : Nat) : List V := (List.range (n + 1)).map fun t => vn (f t)
theorem fV_len {f : Nat → Nat} {n : Nat} : (fV f n).length = n + 1 := by unfold fV; simp
theorem fV_at {f : Nat → Nat} {n t : Nat} (h : t ≤ n) : (fV f n)[t]? = some (vn (f t)) := by
  unfold fV
  rw [List.getElem?_map, List.getElem?_range (by omega)]
  rfl
theorem fV_succ {f : Nat → Nat} {n : Nat} : fV f (n + 1) = fV f n ++ [vn (f (n + 1))] := by
  unfold fV
  rw [List.range_succ, List.map_append]
  rfl
theorem at_last {xs : List V} {n : Nat} {x : V} (hl : xs.length = n + 1) (h : xs[n]? = some x) : atI xs (-(1 : Int)) = some x := by
  unfold atI ixN
  rw [hl, if_neg (by omega), if_pos (by omega)]
  show xs[(-(1 : Int) + ((n + 1 : Nat) : Int)).toNat]? = some x
  rw [show (-(1 : Int) + ((n + 1 : Nat) : Int)).toNat = n by omega]
  exact h
def spLHall (C : Addr) : Sp := fun vs H Q _ => ∃ (t tp cp : Addr) (m lt : Nat) (tk cl : List Nat), vs = [.ref t] ∧ PartsAt H t m tp tk cp cl lt ∧
  ∀ h lp H', H h = none → H lp = none → Same H H' → HallAt C H' h m tk cl lt lp → Q (.ref h) H'
theorem small10k {n : Nat} (h : n ≤ 10000) : n + 1 ≤ sizeLine := Nat.le_trans (Nat.succ_le_succ h) (by decide)
def spLength : Sp := fun vs H Q _ => ∃ (t tp cp : Addr) (m lt : Nat) (tk cl : List Nat), vs = [.ref t] ∧ PartsAt H t m tp tk cp cl lt ∧ Q (vn (per tk cl)) H
def spCounts : Sp := fun vs H Q _ => ∃ (t tp cp : Addr) (m lt : Nat) (tk cl : List Nat) (n : Nat), vs = [.ref t, vn n] ∧ PartsAt H t m tp tk cp cl lt ∧ n ≤ 10000 ∧
  ∀ r a b H', H r = none → H a = none → H b = none → a ≠ b → Same H H' → H' r = some (.tup [.ref a, .ref b]) → H' a = some (.lst (fV (tak tk) n)) → H' b = some (.lst (fV (cal tk cl) n)) → Q (.ref r) H'
theorem at3 {a b c d : V} {j : Nat} {x : V} (h : [a, b, c, d][j]? = some x) : atI [a, b, c, d] (j : Int) = some x := atn h
/-- the least multiple of n that c divides -/
theorem least_lcm {n c k : Nat} (hk : 0 < k) (h : c ∣ k * n) (no : ∀ j, 0 < j → j < k → ¬ c ∣ j * n) (hn : 0 < n) (hc : 0 < c) : k * n = Nat.lcm n c := by
  have d1 : Nat.lcm n c ∣ k * n := Nat.lcm_dvd (Nat.dvd_mul_left n k) h
  obtain ⟨j, hj⟩ := Nat.dvd_lcm_left n c
  have hp : 0 < Nat.lcm n c := Nat.lcm_pos hn hc
  have j0 : 0 < j := by
    rcases Nat.eq_zero_or_pos j with e | e
    · rw [e] at hj
      omega
    · exact e
  have e2 : Nat.lcm n c = j * n := by rw [hj, Nat.mul_comm]
  rcases Nat.lt_or_ge j k with lt | ge
  · exact absurd (by rw [← e2]; exact Nat.dvd_lcm_right n c) (no j j0 lt)
  · have h1 := Nat.le_of_dvd (Nat.mul_pos hk hn) d1
    have h2 := Nat.mul_le_mul_right n ge
    omega
theorem below_lcm {n c k : Nat} (no : ∀ j, 0 < j → j < k → ¬ c ∣ j * n) (hn : 0 < n) (hc : 0 < c) : k * n ≤ Nat.lcm n c := by
  obtain ⟨j, hj⟩ := Nat.dvd_lcm_left n c
  have hp : 0 < Nat.lcm n c := Nat.lcm_pos hn hc
  have e2 : Nat.lcm n c = j * n := by rw [hj, Nat.mul_comm]
  have j0 : 0 < j := by
    rcases Nat.eq_zero_or_pos j with e | e
    · rw [e] at hj
      omega
    · exact e
  rcases Nat.lt_or_ge j k with lt | ge
  · exact absurd (by rw [← e2]; exact Nat.dvd_lcm_right n c) (no j j0 lt)
  · rw [e2]
    exact Nat.mul_le_mul_right n ge
section
variable {P : Program} {w : World} {K : PySem.W.Frag} {mg : Str → Option Value} {base : Heap}
theorem ok__law_hall (T : Txt K mg) : OkF P w K mg base 8 (He.ga K "_law_hall") ["_law_parts_here"] (spLHall (He.ga K "Hall")) := by
  have G_init : OkF P w K mg base 6 (He.ma K (He.ga K "Hall") "__init__") ["self", "modulus", "takes", "calls", "lateness"] (spInit (He.ga K "Hall")) := ok_init T
  refine FnP.okF T.f__law_hall sc__law_hall (fun _ _ _ _ _ _ us hl => match us, hl with | [_], _ => rfl) (fun vs H Q E h => ?_) (fun cdv A outer s H vs Q E hr h => ?_)
  · obtain ⟨t, _, _, _, _, _, _, rfl, _⟩ := h
    rfl
  obtain ⟨t, tp, cp, m, lt, tk, cl, rfl, hP, k⟩ := h
  refine ⟨_, (pss_one (ps_ret (pe_make T.mk_Hall G_init.one (hr.mono (by decide)) (by rfl) T.g_Hall G_init.two .nil passL (pa_cons (pe_ix (ixTK (K := K)) (pv 0) pe_int (fun _ _ => rfl)) (pa_cons (pe_ix (ixTK (K := K)) (pv 0) pe_int (fun _ _ => rfl)) (pa_cons (pe_ix (ixTK (K := K)) (pv 0) pe_int (fun _ _ => rfl)) (pa_cons (pe_ix (ixTK (K := K)) (pv 0) pe_int (fun _ _ => rfl)) pa_nil))))))), ?_⟩
  have S := SqT.of (K := K) hP.at_
  refine ⟨_, rfl, t, _, 0, _, rfl, rfl, S, at3 (j := 0) rfl, _, rfl, t, _, 1, _, rfl, rfl, S, at3 (j := 1) rfl, _, rfl, t, _, 2, _, rfl, rfl, S, at3 (j := 2) rfl, _, rfl, t, _, 3, _, rfl, rfl, S, at3 (j := 3) rfl, fun x dx nx ndx nex => ?_⟩
  have S1 : Same H (upd (upd H dx (.own x)) x (.ins (He.ga K "Hall") dx [])) := fun b o e => by
    rw [upd_ne (ne_of_none e nx), upd_ne (ne_of_none e ndx)]
    exact e
  refine ⟨x, dx, tp, cp, m, lt, tk, cl, rfl, upd_same, S1 _ _ hP.tkA, S1 _ _ hP.clA, hP.ok, fun H' lp B n hA => ⟨rfl, ?_⟩⟩
  refine k x lp H' nx (S1.free n) (fun b o e => ?_) hA
  exact B b o (ne_of_none e nx) (S1 b o e)
end
end Tk

/-! ### Tables of code objects along the way -/
namespace Tk
open PySem PySem.Spec PyProof.Rows L2 Mm LamX
/-- the name of a function that the def x makes -/
def qnm (x : Str) : Str := (x ++ ".<locals>.") ++ "<lambda>"
/-- the tables and the names of what they tell -/
def TT (K : PySem.W.Frag) : List (Addr × Str) := mkl.map fun p => ((ctAt K (p.1 K)).2, qnm p.2)
structure Tbs (K : PySem.W.Frag) (mg : Str → Option Value) (base : Heap) : Prop where
  all : ∀ p ∈ mkl, TabB base mg (ctAt K (p.1 K)).1 (ctAt K (p.1 K)).2
  apart : (mkl.map fun p => (ctAt K (p.1 K)).2).Nodup
theorem uniq1 : ∀ {l : List (Addr × Str)}, (l.map (·.1)).Nodup → ∀ {x : Addr × Str}, x ∈ l → ∀ p ∈ l, p.1 = x.1 → p.2 = x.2
  | [], _, _, h, _, _, _ => by cases h
  | a :: l, nd, x, hx, p, hp, e => by
    obtain ⟨n1, n2⟩ := List.nodup_cons.mp (show (a.1 :: l.map (·.1)).Nodup from nd)
    rcases List.mem_cons.mp hx with e1 | e1 <;> rcases List.mem_cons.mp hp with e2 | e2
    · rw [e1, e2]
    · subst e1
      exact absurd (List.mem_map.mpr ⟨p, e2, e⟩) n1
    · subst e2
      exact absurd (List.mem_map.mpr ⟨x, e1, e.symm⟩) n1
    · exact uniq1 n2 e1 p e2 e
theorem Tbs.x {K : PySem.W.Frag} {mg : Str → Option Value} {base : Heap} (t : Tbs K mg base) {p : Mk_ × Str} (hp : p ∈ mkl) : ∀ y ∈ TT K, y.1 = (ctAt K (p.1 K)).2 → y.2 = qnm p.2 := fun y hy e => by
  refine uniq1 (l := TT K) (x := ((ctAt K (p.1 K)).2, qnm p.2)) ?_ (List.mem_map.mpr ⟨p, hp, rfl⟩) y hy e
  show ((mkl.map fun p => ((ctAt K (p.1 K)).2, qnm p.2)).map (·.1)).Nodup
  rw [List.map_map]
  exact t.apart
theorem Tbs.tx {P : Program} {w : World} {K : PySem.W.Frag} {mg : Str → Option Value} {base : Heap} {N : List Str} {scope : Scope} {f : Addr} {A : Around} {outer : List Env} {s : Shared} {H : Hp} {E : XK} {CX : CXT} (t : Tbs K mg base) {p : Mk_ × Str} (hp : p ∈ mkl) {cdv : Value} (hc : cdv = .ref (codeAt K (p.1 K))) :
    TabX (cxOf CX P w K mg base N p.2 scope f cdv A outer s H E) (TT K) :=
  ⟨(ctAt K (p.1 K)).1, (ctAt K (p.1 K)).2, t.all p hp, hc, List.mem_map.mpr ⟨p, hp, rfl⟩, t.x hp⟩
/-- all but tables stays, the tables tell what they should -/
def Ext (K : PySem.W.Frag) (H H' : Hp) : Prop := ExtN H H' ∧ Tabs (TT K) H'
section
variable {K : PySem.W.Frag} {H H1 H2 : Hp}
theorem extn_same (a : Same H H1) : ExtN H H1 := fun b o e _ => a b o e
theorem Ext.trans (a : Ext K H H1) (b : Ext K H1 H2) : Ext K H H2 := ⟨a.1.trans b.1, b.2⟩
theorem Ext.of (t : Tabs (TT K) H) (a : Same H H1) : Ext K H H1 := ⟨extn_same a, t.ext a⟩
theorem Ext.same (a : Ext K H H1) (b : Same H1 H2) : Ext K H H2 := a.trans (.of a.2 b)
theorem Ext.lst (a : Ext K H H1) {b : Addr} {xs : List V} (e : H b = some (.lst xs)) : H1 b = some (.lst xs) := a.1 _ _ e fun _ z => by cases z
theorem Ext.tup (a : Ext K H H1) {b : Addr} {xs : List V} (e : H b = some (.tup xs)) : H1 b = some (.tup xs) := a.1 _ _ e fun _ z => by cases z
theorem Ext.ins (a : Ext K H H1) {b c d : Addr} {xs : List (Str × V)} (e : H b = some (.ins c d xs)) : H1 b = some (.ins c d xs) := a.1 _ _ e fun _ z => by cases z
theorem HallAt.ext {C h lp : Addr} {m lt : Nat} {tk cl : List Nat} (p : HallAt C H h m tk cl lt lp) (b : Ext K H H1) : HallAt C H1 h m tk cl lt lp := by
  obtain ⟨dx, tp, cp, h1, h2, h3⟩ := p.ex
  exact ⟨⟨dx, tp, cp, b.ins h1, b.tup h2, b.tup h3⟩, b.lst p.lst, p.ok⟩
theorem PartsAt.ext {t tp cp : Addr} {m lt : Nat} {tk cl : List Nat} (p : PartsAt H t m tp tk cp cl lt) (b : Ext K H H1) : PartsAt H1 t m tp tk cp cl lt :=
  ⟨b.tup p.at_, b.tup p.tkA, b.tup p.clA, p.ok⟩
/-- the tables bear a change of the list at d -/
theorem tabs_but {d : Addr} {cs : List V} {T : List (Addr × Str)} (t : Tabs T H) (hd : H d = some (.lst cs)) (b : But d H H1) : Tabs T H1 := fun p hp => by
  obtain ⟨ps, h1, h2, h3⟩ := t p hp
  refine ⟨ps, b _ _ (fun z => by rw [z, hd] at h1; cases h1) h1, h2, fun pos cv hc => ?_⟩
  obtain ⟨c, e1, e2⟩ := h3 pos cv hc
  refine ⟨c, e1, b _ _ (fun z => ?_) e2⟩
  rw [z, hd] at e2
  have := Option.some.inj e2
  unfold CodeO at this
  cases this
theorem tabs_nil {T : List (Addr × Str)} (h : ∀ p ∈ T, H p.1 = some (.tbl #[])) : Tabs T H := fun p hp => TabS.nil (h p hp)
end
end Tk

/-! ### Equal data -/
namespace Tk
open PySem PySem.Spec PyProof.Rows L2
def flat : V → Bool
  | .non => true
  | .bl _ => true
  | .int _ => true
  | .str _ => true
  | _ => false
/-- one level of data -/
def Nx (K : PySem.W.Frag) (R : Hp → V → V → Prop) (H : Hp) (v u : V) : Prop :=
  (v = u ∧ flat v = true) ∨ (∃ a b xs ys, v = .ref a ∧ u = .ref b ∧ SqL K H a xs ∧ SqL K H b ys ∧ xs.length = ys.length ∧ xs.length ≤ 100000 ∧ ∀ (i : Nat) x y, xs[i]? = some x → ys[i]? = some y → R H x y) ∨
  (∃ a b xs ys, v = .ref a ∧ u = .ref b ∧ SqT K H a xs ∧ SqT K H b ys ∧ xs.length = ys.length ∧ xs.length ≤ 100000 ∧ ∀ (i : Nat) x y, xs[i]? = some x → ys[i]? = some y → R H x y)
/-- the same data, at most n deep -/
def Sm (K : PySem.W.Frag) : Nat → Hp → V → V → Prop
  | 0 => fun _ _ _ => False
  | n + 1 => Nx K (Sm K n)
def spEqOf (R : Hp → V → V → Prop) : Sp := fun vs H Q _ => ∃ v u, vs = [v, u] ∧ R H v u ∧ ∀ H', Same H H' → Q (.bl true) H'
theorem sqt_same {K : PySem.W.Frag} {H H' : Hp} {a : Addr} {xs : List V} (e : Same H H') (h : SqT K H a xs) : SqT K H' a xs := by
  rcases h with (h | ⟨o, h⟩) | h
  · exact .inl (.inl (e _ _ h))
  · exact .inl (.inr ⟨o, e _ _ h⟩)
  · exact .inr h
theorem Sm.same {K : PySem.W.Frag} {H H' : Hp} (e : Same H H') : ∀ {n : Nat} {v u : V}, Sm K n H v u → Sm K n H' v u
  | 0, _, _, h => h
  | n + 1, _, _, h => by
    rcases h with h | ⟨a, b, xs, ys, h1, h2, h3, h4, h5, h6, h7⟩ | ⟨a, b, xs, ys, h1, h2, h3, h4, h5, h6, h7⟩
    · exact .inl h
    · exact .inr (.inl ⟨a, b, xs, ys, h1, h2, e.seq h3, e.seq h4, h5, h6, fun i x y p q => Sm.same e (h7 i x y p q)⟩)
    · exact .inr (.inr ⟨a, b, xs, ys, h1, h2, sqt_same e h3, sqt_same e h4, h5, h6, fun i x y p q => Sm.same e (h7 i x y p q)⟩)
theorem tyx_l {K : PySem.W.Frag} {H : Hp} {a : Addr} {xs : List V} (h : SqL K H a xs) : TyX K H (.ref a) (.type "list") := by
  rcases h with (h | ⟨o, h⟩) | ⟨o, its, n, h1, h2, _⟩
  · exact .base (.lst h)
  · exact .base (.frz h)
  · exact .kList h1 h2
theorem tyx_t {K : PySem.W.Frag} {H : Hp} {a : Addr} {xs : List V} (h : SqT K H a xs) : TyX K H (.ref a) (.type "tuple") := by
  rcases h with (h | ⟨o, h⟩) | ⟨o, its, n, h1, h2, _⟩
  · exact .base (.tup h)
  · exact .fTuple h
  · exact .kTuple h1 h2
theorem rix {K : PySem.W.Frag} {H : Hp} {a : Addr} {xs : List V} {i : Int} {v : V} {Q : VK} (s : SqL K H a xs ∨ SqT K H a xs) (g : atI xs i = some v) (q : Q v H) : rIx K (.ref a) (.int i) H Q := by
  rcases s with s | s
  · exact .inl ⟨a, xs, i, v, rfl, rfl, s, g, q⟩
  · exact .inr (.inl ⟨a, xs, i, v, rfl, rfl, s, g, q⟩)
section
variable {P : Program} {w : World} {K : PySem.W.Frag} {mg : Str → Option Value} {base : Heap}
end
theorem Sm.flats {K : PySem.W.Frag} {n : Nat} {H : Hp} {a b : Addr} {xs : List V} (h1 : SqL K H a xs) (h2 : SqL K H b xs) (hl : xs.length ≤ 100000) (hf : ∀ x ∈ xs, flat x = true) : Sm K (n + 2) H (.ref a) (.ref b) :=
  .inr (.inl ⟨a, b, xs, xs, rfl, rfl, h1, h2, rfl, hl, fun i x y hx hy => .inl ⟨Option.some.inj (hx.symm.trans hy), hf x (List.mem_of_getElem? hx)⟩⟩)
theorem Sm.int {K : PySem.W.Frag} {n : Nat} {H : Hp} {i j : Int} (h : i = j) : Sm K (n + 1) H (.int i) (.int j) := .inl ⟨by rw [h], rfl⟩
end Tk

namespace Tk
open PySem PySem.Spec PyProof.Rows L2 Mm
/-- what a turn of a law holds: the hall, the counts up to n, away from d -/
structure EnvN (C : Addr) (H : Hp) (d hh a1 b1 : Addr) (m : Nat) (tk cl : List Nat) (lt : Nat) (lp : Addr) (n : Nat) : Prop where
  hall : HallAt C H hh m tk cl lt lp
  one : H a1 = some (.lst (fV (tak tk) n))
  two : H b1 = some (.lst (fV (cal tk cl) n))
  nl : lp ≠ d
  n1 : a1 ≠ d
  n2 : b1 ≠ d
theorem EnvN.but {C : Addr} {H H' : Hp} {d hh a1 b1 lp : Addr} {m lt n : Nat} {tk cl : List Nat} {cs : List V} (e : EnvN C H d hh a1 b1 m tk cl lt lp n) (b : But d H H') (hd : H d = some (.lst cs)) : EnvN C H' d hh a1 b1 m tk cl lt lp n :=
  ⟨e.hall.but b hd e.nl, b _ _ e.n1 e.one, b _ _ e.n2 e.two, e.nl, e.n1, e.n2⟩
theorem EnvN.same {C : Addr} {H H' : Hp} {d hh a1 b1 lp : Addr} {m lt n : Nat} {tk cl : List Nat} (e : EnvN C H d hh a1 b1 m tk cl lt lp n) (b : Same H H') : EnvN C H' d hh a1 b1 m tk cl lt lp n :=
  ⟨e.hall.same b, b _ _ e.one, b _ _ e.two, e.nl, e.n1, e.n2⟩
theorem hfs_meth {m : Nat} {tp cp : Addr} {lt : Nat} {lp : Addr} {x : Str} (h : (["_called", "lateness", "calls", "takes", "modulus"] : List Str).contains x = false) : (hfs m tp cp lt lp).lookup x = none := by
  simp only [List.contains_cons, Bool.or_eq_false_iff, beq_eq_false_iff_ne] at h
  obtain ⟨h1, h2, h3, h4, h5, _⟩ := h
  exact hfs_no h1 h2 h3 h4 h5
theorem Sm.flatsT {K : PySem.W.Frag} {n : Nat} {H : Hp} {a b : Addr} {xs : List V} (h1 : SqT K H a xs) (h2 : SqT K H b xs) (hl : xs.length ≤ 100000) (hf : ∀ x ∈ xs, flat x = true) : Sm K (n + 2) H (.ref a) (.ref b) :=
  .inr (.inr ⟨a, b, xs, xs, rfl, rfl, h1, h2, rfl, hl, fun i x y hx hy => .inl ⟨Option.some.inj (hx.symm.trans hy), hf x (List.mem_of_getElem? hx)⟩⟩)
theorem Sm.flat1 {K : PySem.W.Frag} {n : Nat} {H : Hp} {v : V} (h : flat v = true) : Sm K (n + 1) H v v := .inl ⟨rfl, h⟩
theorem flat_vn {ps : List Nat} : ∀ x ∈ ps.map vn, flat x = true := fun x hx => by
  obtain ⟨n, _, rfl⟩ := List.mem_map.mp hx
  rfl
end Tk

/-! ### Readings of halls -/
namespace Tk
open PySem PySem.Spec PyProof.Rows L2 Mm
theorem HallAt.sm {C h lp : Addr} {H H' : Hp} {m lt : Nat} {tk cl : List Nat} (b : Same H H') (p : HallAt C H h m tk cl lt lp) : HallAt C H' h m tk cl lt lp := p.same b
theorem PartsAt.sm {t tp cp : Addr} {H H' : Hp} {m lt : Nat} {tk cl : List Nat} (b : Same H H') (p : PartsAt H t m tp tk cp cl lt) : PartsAt H' t m tp tk cp cl lt := p.same b
theorem PartsAt.sq {K : PySem.W.Frag} {t tp cp : Addr} {H : Hp} {m lt : Nat} {tk cl : List Nat} (p : PartsAt H t m tp tk cp cl lt) : SqT K H t [vn m, .ref tp, .ref cp, vn lt] := SqT.of p.at_
theorem Sm.sm {K : PySem.W.Frag} {H H' : Hp} {n : Nat} {v u : V} (e : Same H H') (h : Sm K n H v u) : Sm K n H' v u := Sm.same e h
inductive SmL (R : V → V → Prop) : List V → List V → Prop where
  | nil : SmL R [] []
  | cons {x y : V} {xs ys : List V} (h : R x y) (t : SmL R xs ys) : SmL R (x :: xs) (y :: ys)
theorem SmL.len {R : V → V → Prop} : ∀ {xs ys : List V}, SmL R xs ys → xs.length = ys.length
  | _, _, .nil => rfl
  | _, _, .cons _ t => by rw [List.length_cons, List.length_cons, t.len]
theorem SmL.at {R : V → V → Prop} : ∀ {xs ys : List V}, SmL R xs ys → ∀ (i : Nat) x y, xs[i]? = some x → ys[i]? = some y → R x y
  | _, _, .nil, i, x, y, h, _ => by cases h
  | _, _, .cons h t, 0, x, y, h1, h2 => by
    obtain rfl := Option.some.inj h1
    obtain rfl := Option.some.inj h2
    exact h
  | _, _, .cons h t, i + 1, x, y, h1, h2 => t.at i x y h1 h2
theorem Sm.lst {K : PySem.W.Frag} {n : Nat} {H : Hp} {a b : Addr} {xs ys : List V} (h1 : SqL K H a xs) (h2 : SqL K H b ys) (hz : xs.length ≤ 100000) (h : SmL (Sm K n H) xs ys) : Sm K (n + 1) H (.ref a) (.ref b) := .inr (.inl ⟨a, b, xs, ys, rfl, rfl, h1, h2, h.len, hz, h.at⟩)
theorem Sm.tpl {K : PySem.W.Frag} {n : Nat} {H : Hp} {a b : Addr} {xs ys : List V} (h1 : SqT K H a xs) (h2 : SqT K H b ys) (hz : xs.length ≤ 100000) (h : SmL (Sm K n H) xs ys) : Sm K (n + 1) H (.ref a) (.ref b) := .inr (.inr ⟨a, b, xs, ys, rfl, rfl, h1, h2, h.len, hz, h.at⟩)
theorem Sm.rfl1 {K : PySem.W.Frag} {n : Nat} {H : Hp} {v : V} (h : flat v = true := by rfl) : Sm K (n + 1) H v v := .inl ⟨rfl, h⟩
namespace Rd
variable {K : PySem.W.Frag} {mg : Str → Option Value} {σ : L2.St} {H : Hp} {Q : VK} {E : XK} {t : TA} {C h lp : Addr} {m lt : Nat} {tk cl : List Nat}
theorem rgK_ab {a b : Int} {lo n : Nat} (ea : a = (lo : Int)) (eb : b = ((lo + n : Nat) : Int)) (h1 : lo ≤ 4000000000000000000) (hn : n ≤ 100000) (k : ∀ q H', H q = none → Same H H' → H' q = some (.lst ((List.range n).map fun i => vn (lo + i))) → Q (.ref q) H') : rgK Q a b H := by
  subst ea eb
  have e : rgV (lo : Int) ((lo + n : Nat) : Int) = (List.range n).map fun i => vn (lo + i) := by
    unfold rgV
    rw [show (((lo + n : Nat) : Int) - (lo : Int)).toNat = n by omega]
    rfl
  refine ⟨⟨by omega, by omega, by omega, by omega, by omega⟩, fun q hq => ?_⟩
  · rw [e]
    exact k q _ hq (Same.nw hq (Same.refl H)) upd_same
theorem rgK_n {b : Int} {n : Nat} (eb : b = (n : Int)) (hn : n ≤ 100000) (k : ∀ q H', H q = none → Same H H' → H' q = some (.lst ((List.range n).map vn)) → Q (.ref q) H') : rgK Q 0 b H :=
  rgK_ab (lo := 0) rfl (by rw [Nat.zero_add]; exact eb) (by decide) hn fun q H' nq S hq => k q H' nq S (by rw [hq]; simp)
theorem f_modulus (T : Txt K mg) (hA : HallAt (He.ga K "Hall") H h m tk cl lt lp) (k : Q (vn m) H) : fldK K "modulus" Q (.ref h) H := by
  obtain ⟨dx, tp, cp, hh, htp, hcp⟩ := hA.ex
  exact ⟨h, _, dx, _, _, rfl, hh, T.cl_Hall, T.n_modulus, hfs_modulus, k⟩
theorem f_lateness (T : Txt K mg) (hA : HallAt (He.ga K "Hall") H h m tk cl lt lp) (k : Q (vn lt) H) : fldK K "lateness" Q (.ref h) H := by
  obtain ⟨dx, tp, cp, hh, htp, hcp⟩ := hA.ex
  exact ⟨h, _, dx, _, _, rfl, hh, T.cl_Hall, T.n_lateness, hfs_lateness, k⟩
theorem f_takes (T : Txt K mg) (hA : HallAt (He.ga K "Hall") H h m tk cl lt lp) (k : ∀ tp, H tp = some (.tup (tk.map vn)) → Q (.ref tp) H) : fldK K "takes" Q (.ref h) H := by
  obtain ⟨dx, tp, cp, hh, htp, hcp⟩ := hA.ex
  exact ⟨h, _, dx, _, _, rfl, hh, T.cl_Hall, T.n_takes, hfs_takes, k tp htp⟩
theorem f_calls (T : Txt K mg) (hA : HallAt (He.ga K "Hall") H h m tk cl lt lp) (k : ∀ cp, H cp = some (.tup (cl.map vn)) → Q (.ref cp) H) : fldK K "calls" Q (.ref h) H := by
  obtain ⟨dx, tp, cp, hh, htp, hcp⟩ := hA.ex
  exact ⟨h, _, dx, _, _, rfl, hh, T.cl_Hall, T.n_calls, hfs_calls, k cp hcp⟩
theorem h_meth {x : Str} {sp : Sp} (hA : HallAt C H h m tk cl lt lp) (hx : (["_called", "lateness", "calls", "takes", "modulus"] : List Str).contains x = false) (k : t σ H fun vs H2 => sp (.ref h :: vs) H2 Q E) : methK x sp C [] E t σ Q (.ref h) H := by
  obtain ⟨dx, tp, cp, hh, htp, hcp⟩ := hA.ex
  refine ⟨h, dx, _, rfl, hh, hfs_meth hx, ?_⟩
  simp only [List.append_nil]
  exact k
theorem h_prop {sp : Sp} {dvs : List V} (hA : HallAt C H h m tk cl lt lp) (k : sp (.ref h :: dvs) H Q E) : propK sp C dvs E Q (.ref h) H := by
  obtain ⟨dx, tp, cp, hh, htp, hcp⟩ := hA.ex
  exact ⟨h, dx, _, rfl, hh, k⟩
theorem h_taken {n : Nat} {z : Int} {r : List V} (hA : HallAt C H h m tk cl lt lp) (e : z.toNat = n) (k : ∀ H', Same H H' → Q (vn (tak tk n)) H') : spTaken C [.ref h, .int z] H Q E :=
  ⟨h, lp, z, m, lt, tk, cl, rfl, hA, by rw [e]; exact k⟩
theorem h_taken0 {n : Nat} (hA : HallAt C H h m tk cl lt lp) (k : ∀ H', Same H H' → Q (vn (tak tk n)) H') : spTaken C [.ref h, .int (n : Int)] H Q E := h_taken (r := []) hA (by omega) k
theorem h_taken1 {n : Nat} (hA : HallAt C H h m tk cl lt lp) (k : ∀ H', Same H H' → Q (vn (tak tk (n + 1))) H') : spTaken C [.ref h, .int ((n : Int) + 1)] H Q E := h_taken (r := []) hA (by omega) k
theorem h_takenL {n j : Nat} (hA : HallAt C H h m tk cl lt lp) (k : ∀ H', Same H H' → Q (vn (tak tk (n - j))) H') : spTaken C [.ref h, .int ((n : Int) - (j : Int))] H Q E := h_taken (r := []) hA (by omega) k
theorem h_called {n : Nat} {z : Int} {r : List V} (hA : HallAt C H h m tk cl lt lp) (e : z.toNat = n) (k : Q (vn (cal tk cl n)) H) : spCalled C [.ref h, .int z] H Q E :=
  ⟨h, lp, z, m, lt, tk, cl, rfl, hA, by rw [e]; exact k⟩
theorem h_called0 {n : Nat} (hA : HallAt C H h m tk cl lt lp) (k : Q (vn (cal tk cl n)) H) : spCalled C [.ref h, .int (n : Int)] H Q E := h_called (r := []) hA (by omega) k
theorem h_called1 {n : Nat} (hA : HallAt C H h m tk cl lt lp) (k : Q (vn (cal tk cl (n + 1))) H) : spCalled C [.ref h, .int ((n : Int) + 1)] H Q E := h_called (r := []) hA (by omega) k
theorem h_calledL {n j : Nat} (hA : HallAt C H h m tk cl lt lp) (k : Q (vn (cal tk cl (n - j))) H) : spCalled C [.ref h, .int ((n : Int) - (j : Int))] H Q E := h_called (r := []) hA (by omega) k
theorem h_waiting {n : Nat} (hA : HallAt C H h m tk cl lt lp) (hn : n ≤ 1000000000000000000) (k : ∀ H', Same H H' → Q (vn (wt tk cl (n + 1))) H') : spWaiting C [.ref h, .int (n : Int)] H Q E := ⟨h, lp, n, m, lt, tk, cl, rfl, hn, hA, k⟩
theorem h_growth (hA : HallAt C H h m tk cl lt lp) (k : ∀ H', Same H H' → Q (vn (grow tk cl)) H') : spGrowth C [.ref h] H Q E := ⟨h, lp, m, lt, tk, cl, rfl, hA, k⟩
theorem h_period (hA : HallAt C H h m tk cl lt lp) (k : Q (vn (per tk cl)) H) : spPeriod C [.ref h] H Q E := by
  obtain ⟨dx, tp, cp, hh, htp, hcp⟩ := hA.ex
  exact ⟨h, dx, tp, cp, _, tk, cl, rfl, hh, hfs_takes, hfs_calls, htp, hcp, hA.ok.tkP, hA.ok.clP, k⟩
theorem h_lhall {tp cp p : Addr} (hP : PartsAt H p m tp tk cp cl lt) (k : ∀ h lp H', H h = none → H lp = none → Same H H' → HallAt C H' h m tk cl lt lp → Q (.ref h) H') : spLHall C [.ref p] H Q E := ⟨p, tp, cp, m, lt, tk, cl, rfl, hP, k⟩
theorem h_length {tp cp p : Addr} (hP : PartsAt H p m tp tk cp cl lt) (k : Q (vn (per tk cl)) H) : spLength [.ref p] H Q E := ⟨p, tp, cp, m, lt, tk, cl, rfl, hP, k⟩
theorem h_counts {tp cp p : Addr} {n : Nat} (hP : PartsAt H p m tp tk cp cl lt) (hn : n ≤ 10000) (k : ∀ r a b H', H r = none → H a = none → H b = none → a ≠ b → Same H H' → H' r = some (.tup [.ref a, .ref b]) → H' a = some (.lst (fV (tak tk) n)) → H' b = some (.lst (fV (cal tk cl) n)) → Q (.ref r) H') :
    spCounts [.ref p, .int (n : Int)] H Q E := ⟨p, tp, cp, m, lt, tk, cl, n, rfl, hP, hn, k⟩
theorem h_countsL {tp cp p : Addr} {n : Nat} (hP : PartsAt H p m tp tk cp cl lt) (hn : n ≤ 10000) (k : ∀ r a b H', H r = none → H a = none → H b = none → a ≠ b → Same H H' → H' r = some (.tup [.ref a, .ref b]) → H' a = some (.lst (fV (tak tk) (OfNat.ofNat n : Nat))) → H' b = some (.lst (fV (cal tk cl) (OfNat.ofNat n : Nat))) → Q (.ref r) H') :
    spCounts [.ref p, .int (OfNat.ofNat n : Int)] H Q E := h_counts hP hn k
theorem ixF {f : Nat → Nat} {n i : Nat} {p : Addr} (hq : H p = some (.lst (fV f n))) (hi : i ≤ n) (k : Q (vn (f i)) H) : rIxL K (.ref p) (.int (i : Int)) H Q := ixL (SqL.of hq) (atn (fV_at hi)) k
theorem ixF1 {f : Nat → Nat} {n i : Nat} {p : Addr} (hq : H p = some (.lst (fV f n))) (hi : i + 1 ≤ n) (k : Q (vn (f (i + 1))) H) : rIxL K (.ref p) (.int ((i : Int) + 1)) H Q := ixL (SqL.of hq) (by rw [show ((i : Int) + 1) = ((i + 1 : Nat) : Int) by omega]; exact atn (fV_at hi)) k
theorem h_equal {n : Nat} {v u : V} (h : Sm K n H v u) (k : ∀ H', Same H H' → Q (.bl true) H') : spEqOf (Sm K n) [v, u] H Q E := ⟨v, u, rfl, h, k⟩
theorem h_make {tp cp : Addr} (hP : Parts m tk cl lt) (htp : H tp = some (.tup (tk.map vn))) (hcp : H cp = some (.tup (cl.map vn))) (k : ∀ h lp H', H h = none → H lp = none → Same H H' → HallAt C H' h m tk cl lt lp → Q (.ref h) H') :
    makeK C (spInit C) [] E Q [vn m, .ref tp, .ref cp, vn lt] H := fun x dx nx ndx nex => by
  have S1 : Same H (upd (upd H dx (.own x)) x (.ins C dx [])) := fun b o e => by
    rw [upd_ne (ne_of_none e nx), upd_ne (ne_of_none e ndx)]
    exact e
  refine ⟨x, dx, tp, cp, m, lt, tk, cl, rfl, upd_same, S1 _ _ htp, S1 _ _ hcp, hP, fun H' lp B n hA => ⟨rfl, ?_⟩⟩
  exact k x lp H' nx (S1.free n) (fun b o e => B b o (ne_of_none e nx) (S1 b o e)) hA
/-- the parts' items -/
theorem p_0 {tp cp p : Addr} (hP : PartsAt H p m tp tk cp cl lt) (k : Q (vn m) H) : rIxT K (.ref p) (.int 0) H Q := ixT (SqT.of hP.at_) (at3 (j := 0) rfl) k
theorem p_1 {tp cp p : Addr} (hP : PartsAt H p m tp tk cp cl lt) (k : H tp = some (.tup (tk.map vn)) → Q (.ref tp) H) : rIxT K (.ref p) (.int 1) H Q := ixT (SqT.of hP.at_) (at3 (j := 1) rfl) (k hP.tkA)
theorem p_2 {tp cp p : Addr} (hP : PartsAt H p m tp tk cp cl lt) (k : H cp = some (.tup (cl.map vn)) → Q (.ref cp) H) : rIxT K (.ref p) (.int 2) H Q := ixT (SqT.of hP.at_) (at3 (j := 2) rfl) (k hP.clA)
theorem p_3 {tp cp p : Addr} (hP : PartsAt H p m tp tk cp cl lt) (k : Q (vn lt) H) : rIxT K (.ref p) (.int 3) H Q := ixT (SqT.of hP.at_) (at3 (j := 3) rfl) k
end Rd
end Tk

/-! ### Data: what a value is worth -/
namespace Tk
open PySem PySem.Spec PyProof.Rows L2
abbrev dN (n : Nat) : PyData := .int (n : Int)
/-- data without dicts and bools, at most n deep, no list too long -/
def Sml : Nat → PyData → Prop
  | 0, _ => False
  | n + 1, .list xs => xs.length ≤ 100000 ∧ ∀ x ∈ xs, Sml n x
  | n + 1, .tuple xs => xs.length ≤ 100000 ∧ ∀ x ∈ xs, Sml n x
  | _ + 1, .dict _ => False
  | _ + 1, .bool _ => False
  | _ + 1, .none => True
  | _ + 1, .int _ => True
  | _ + 1, .str x => PyData.strOk x = true
theorem Sml.ints {n : Nat} {ns : List Nat} (h : ns.length ≤ 100000) : Sml (n + 2) (.list (ns.map dN)) := ⟨by rw [List.length_map]; exact h, fun x hx => by
  obtain ⟨m, _, rfl⟩ := List.mem_map.mp hx
  trivial⟩
theorem Sml.intsT {n : Nat} {ns : List Nat} (h : ns.length ≤ 100000) : Sml (n + 2) (.tuple (ns.map dN)) := ⟨by rw [List.length_map]; exact h, fun x hx => by
  obtain ⟨m, _, rfl⟩ := List.mem_map.mp hx
  trivial⟩
theorem Sml.mono : ∀ {n : Nat} {d : PyData}, Sml n d → Sml (n + 1) d
  | 0, _, h => h.elim
  | n + 1, .list xs, h => ⟨h.1, fun x hx => (h.2 x hx).mono⟩
  | n + 1, .tuple xs, h => ⟨h.1, fun x hx => (h.2 x hx).mono⟩
  | n + 1, .dict _, h => h.elim
  | n + 1, .bool _, h => h.elim
  | n + 1, .none, _ => trivial
  | n + 1, .int _, _ => trivial
  | n + 1, .str _, h => h
theorem Sml.up {n m : Nat} {d : PyData} (h : Sml n d) (l : n ≤ m) : Sml m d := by
  induction l with
  | refl => exact h
  | step _ ih => exact ih.mono
theorem canAll : ∀ {xs : List PyData}, (∀ x ∈ xs, x.canLay0 = true) → PyData.canLayAll0 xs = true
  | [], _ => rfl
  | x :: xs, h => by
    simp only [PyData.canLayAll0, h x List.mem_cons_self, canAll fun y hy => h y (List.mem_cons_of_mem _ hy), Bool.and_self]
theorem depAll {n : Nat} : ∀ {xs : List PyData}, (∀ x ∈ xs, x.depth ≤ n) → PyData.depthAll xs ≤ n
  | [], _ => Nat.zero_le _
  | x :: xs, h => by
    have a := h x List.mem_cons_self
    have b := depAll fun y hy => h y (List.mem_cons_of_mem x hy)
    show max _ _ ≤ n
    omega
theorem sml_lay : ∀ {n : Nat} {d : PyData}, Sml n d → d.canLay0 = true ∧ d.depth ≤ n
  | 0, _, h => h.elim
  | n + 1, .list xs, h => by
    have z := fun x hx => sml_lay (h.2 x hx)
    exact ⟨by simpa [PyData.canLay0] using canAll fun x hx => (z x hx).1, Nat.succ_le_succ (depAll fun x hx => (z x hx).2)⟩
  | n + 1, .tuple xs, h => by
    have z := fun x hx => sml_lay (h.2 x hx)
    exact ⟨by simpa [PyData.canLay0] using canAll fun x hx => (z x hx).1, Nat.succ_le_succ (depAll fun x hx => (z x hx).2)⟩
  | n + 1, .dict _, h => h.elim
  | n + 1, .bool _, h => h.elim
  | n + 1, .none, _ => ⟨rfl, Nat.zero_le _⟩
  | n + 1, .int _, _ => ⟨rfl, Nat.zero_le _⟩
  | n + 1, .str x, h => ⟨by have h : PyData.strOk x = true := h; simpa [PyData.canLay0] using h, Nat.zero_le _⟩
theorem sml_shaped {n : Nat} {d : PyData} (h : Sml n d) (hn : n ≤ 64) : SeqAt.shaped d = true := by
  obtain ⟨a, b⟩ := sml_lay h
  unfold SeqAt.shaped
  rw [a, decide_eq_true (Nat.le_trans b hn)]
  rfl
theorem eqvAll_iff : ∀ {xs ys : List PyData}, (∀ x ∈ xs, ∀ y ∈ ys, PyData.eqv x y = true ↔ x = y) → (PyData.eqvAll xs ys = true ↔ xs = ys)
  | [], [], _ => by simp [PyData.eqvAll]
  | [], _ :: _, _ => by simp [PyData.eqvAll]
  | _ :: _, [], _ => by simp [PyData.eqvAll]
  | x :: xs, y :: ys, h => by
    rw [PyData.eqvAll, Bool.and_eq_true, h x List.mem_cons_self y List.mem_cons_self, eqvAll_iff fun a ha b hb => h a (List.mem_cons_of_mem _ ha) b (List.mem_cons_of_mem _ hb), List.cons.injEq]
theorem eqv_iff : ∀ {n : Nat} {d e : PyData}, Sml n d → Sml n e → (PyData.eqv d e = true ↔ d = e)
  | 0, _, _, h, _ => h.elim
  | n + 1, .list xs, e, h, g => by
    cases e with
    | list ys =>
      rw [PyData.eqv, eqvAll_iff fun x hx y hy => eqv_iff (h.2 x hx) (g.2 y hy)]
      simp
    | _ => simp [PyData.eqv]
  | n + 1, .tuple xs, e, h, g => by
    cases e with
    | tuple ys =>
      rw [PyData.eqv, eqvAll_iff fun x hx y hy => eqv_iff (h.2 x hx) (g.2 y hy)]
      simp
    | _ => simp [PyData.eqv]
  | n + 1, .dict _, _, h, _ => h.elim
  | n + 1, .bool _, _, h, _ => h.elim
  | n + 1, .none, e, _, _ => by cases e <;> simp [PyData.eqv]
  | n + 1, .int i, e, _, g => by
    cases e with
    | bool _ => exact g.elim
    | _ => simp [PyData.eqv]
  | n + 1, .str _, e, _, _ => by cases e <;> simp [PyData.eqv]
section
variable {K : PySem.W.Frag} {H H' : Hp}
theorem dp_sm {v : V} {d : PyData} (S : Same H H') : L2.Dp K H v d → L2.Dp K H' v d := fun h => by
  refine L2.Dp.rec (motive_1 := fun v d _ => L2.Dp K H' v d) (motive_2 := fun vs ds _ => DpAll K H' vs ds) .non .bl .int .str (fun h1 _ ih => .lst (S.seq h1) ih) (fun h1 _ ih => .tup (sqt_sm S h1) ih) .nil (fun _ _ i1 i2 => .cons i1 i2) h
theorem dpA_sm {vs : List V} {ds : List PyData} (S : Same H H') (h : DpAll K H vs ds) : DpAll K H' vs ds := by
  induction vs generalizing ds with
  | nil => cases h; exact .nil
  | cons v vs ih =>
    cases h with
    | cons h1 h2 => exact .cons (dp_sm S h1) (ih h2)
theorem dpA_len {vs : List V} {ds : List PyData} (h : DpAll K H vs ds) : vs.length = ds.length := by
  induction vs generalizing ds with
  | nil => cases h; rfl
  | cons v vs ih =>
    cases h with
    | cons h1 h2 => rw [List.length_cons, List.length_cons, ih h2]
theorem dpA_at {vs : List V} {ds : List PyData} (h : DpAll K H vs ds) {i : Nat} {v : V} (hv : vs[i]? = some v) : ∃ d, ds[i]? = some d ∧ L2.Dp K H v d := by
  induction vs generalizing ds i with
  | nil => cases hv
  | cons v vs ih =>
    cases h with
    | cons h1 h2 =>
      cases i with
      | zero => cases hv; exact ⟨_, rfl, h1⟩
      | succ i => exact ih h2 hv
theorem dpA_app {vs us : List V} {ds es : List PyData} (h : DpAll K H vs ds) (g : DpAll K H us es) : DpAll K H (vs ++ us) (ds ++ es) := by
  induction vs generalizing ds with
  | nil => cases h; exact g
  | cons v vs ih =>
    cases h with
    | cons h1 h2 => exact .cons h1 (ih h2)
theorem dpA_map {α : Type} {l : List α} {f : α → V} {g : α → PyData} (h : ∀ x ∈ l, L2.Dp K H (f x) (g x)) : DpAll K H (l.map f) (l.map g) := by
  induction l with
  | nil => exact .nil
  | cons a l ih => exact .cons (h a List.mem_cons_self) (ih fun x hx => h x (List.mem_cons_of_mem _ hx))
theorem dp_nats (l : List Nat) : DpAll K H (l.map vn) (l.map dN) := dpA_map fun _ _ => .int _
theorem dp_int {i : Int} : L2.Dp K H (.int i) (.int i) := .int i
theorem dp_ofall {vs : List V} {n : Nat} (g : Nat → PyData) (hl : vs.length = n) (h : ∀ (i : Nat) v, vs[i]? = some v → L2.Dp K H v (g i)) : DpAll K H vs ((List.range n).map g) := by
  induction vs generalizing n g with
  | nil => subst hl; exact .nil
  | cons v vs ih =>
    subst hl
    rw [List.length_cons, List.range_succ_eq_map, List.map_cons, List.map_map]
    exact .cons (h 0 v rfl) (ih (fun i => g (i + 1)) rfl fun i v hv => h (i + 1) v hv)
/-- the same data -/
theorem Sm.dp : ∀ {n : Nat} {d : PyData} {v u : V}, L2.Dp K H v d → L2.Dp K H u d → Sml n d → Sm K n H v u
  | 0, _, _, _, _, _, h => h.elim
  | n + 1, _, _, _, .non, .non, _ => .inl ⟨rfl, rfl⟩
  | n + 1, _, _, _, .int _, .int _, _ => .inl ⟨rfl, rfl⟩
  | n + 1, _, _, _, .str _, .str _, _ => .inl ⟨rfl, rfl⟩
  | n + 1, _, _, _, .bl _, .bl _, h => h.elim
  | n + 1, _, _, _, .lst h1 a1, .lst h2 a2, h => by
    have l1 := (dpA_len a1)
    have l2 := (dpA_len a2)
    refine .inr (.inl ⟨_, _, _, _, rfl, rfl, h1, h2, by omega, by have := h.1; omega, fun i x y hx hy => ?_⟩)
    obtain ⟨d, hd, r⟩ := dpA_at a1 hx
    obtain ⟨e, he, q⟩ := dpA_at a2 hy
    obtain rfl := Option.some.inj (hd.symm.trans he)
    exact Sm.dp r q (h.2 _ (List.mem_of_getElem? hd))
  | n + 1, _, _, _, .tup h1 a1, .tup h2 a2, h => by
    have l1 := (dpA_len a1)
    have l2 := (dpA_len a2)
    refine .inr (.inr ⟨_, _, _, _, rfl, rfl, h1, h2, by omega, by have := h.1; omega, fun i x y hx hy => ?_⟩)
    obtain ⟨d, hd, r⟩ := dpA_at a1 hx
    obtain ⟨e, he, q⟩ := dpA_at a2 hy
    obtain rfl := Option.some.inj (hd.symm.trans he)
    exact Sm.dp r q (h.2 _ (List.mem_of_getElem? hd))
namespace Rd
variable {Q : VK} {E : XK}
theorem h_eqd {n : Nat} {v u : V} {d : PyData} (h1 : L2.Dp K H v d) (h2 : L2.Dp K H u d) (hd : Sml n d) (k : ∀ H', Same H H' → Q (.bl true) H') : spEqOf (Sm K n) [v, u] H Q E := ⟨v, u, rfl, Sm.dp h1 h2 hd, k⟩
open Classical in
theorem eqd {v u : V} {d e : PyData} (h1 : L2.Dp K H v d) (h2 : L2.Dp K H u e) (hd : Sml 8 d) (he : Sml 8 e) (k : Q (.bl (decide (d = e))) H) : rEqD K v u H Q := by
  refine ⟨d, e, h1, h2, sml_shaped hd (by decide), sml_shaped he (by decide), ?_⟩
  have z : PyData.eqv d e = decide (d = e) := by
    by_cases c : d = e
    · rw [(eqv_iff hd he).mpr c, decide_eq_true c]
    · rw [decide_eq_false c]
      cases q : PyData.eqv d e with
      | false => rfl
      | true => exact absurd ((eqv_iff hd he).mp q) c
  rw [z]
  exact k
open Classical in
theorem ned {v u : V} {d e : PyData} (h1 : L2.Dp K H v d) (h2 : L2.Dp K H u e) (hd : Sml 8 d) (he : Sml 8 e) (k : Q (.bl (!decide (d = e))) H) : rNeD K v u H Q := by
  refine ⟨d, e, h1, h2, sml_shaped hd (by decide), sml_shaped he (by decide), ?_⟩
  have z : PyData.eqv d e = decide (d = e) := by
    by_cases c : d = e
    · rw [(eqv_iff hd he).mpr c, decide_eq_true c]
    · rw [decide_eq_false c]
      cases q : PyData.eqv d e with
      | false => rfl
      | true => exact absurd ((eqv_iff hd he).mp q) c
  rw [z]
  exact k
end Rd
end
end Tk

/-! ### _law_error_of: the error of a call, told as data -/
namespace Tk
open PySem PySem.Spec PyProof.Rows L2
theorem boot_ty_ValueError : bootBuiltins "ValueError" = some (.type "ValueError") := PyProof.Rows.Boot.«ValueError»
namespace Ex
section
variable {X : Cx}
/-- list.count of a flat item -/
def rCntF (K : PySem.W.Frag) : V → List V → Hp → VK → Prop := fun x xs H Q => ∃ (p : Addr) (ys : List V) (y : V), x = .ref p ∧ xs = [y] ∧ SqL K H p ys ∧ flatV y = true ∧ ys.all flatV = true ∧ Q (.int (ys.countP (fun z => eqV z y) : Nat)) H
theorem count_of {y : V} {uy : Value} (ry : RelV y uy) (fy : flatV y = true) : ∀ {ys : List V} {its : List Value}, Vals ys its → ys.all flatV = true → its.countP (eqU y) = ys.countP (fun z => eqV z y)
  | _, _, .nil, _ => rfl
  | z :: zs, u :: us, .cons rz rt, f => by
    obtain ⟨f1, f2⟩ := He.ba (show (flatV z && zs.all flatV) = true from f)
    rw [List.countP_cons, List.countP_cons, count_of ry fy rt f2, eqU_of rz f1]
theorem mt_countF {K : PySem.W.Frag} (hK : X.K = K := by rfl) : MtR X "list.count" (rCntF K) := by
  subst hK
  intro pins s σ H x xs v us Q I rx rxs h
  obtain ⟨p, ys, y, rfl, rfl, hs, fy, fys, q⟩ := h
  cases rx
  cases rxs with
  | cons ry rt =>
    rename_i uy ut
    cases rt
    obtain ⟨its, rv, ⟨⟨cls, dd, data, sl⟩, n, ho, hc, hdn, hd⟩, hlen⟩ := I.list hs
    simp only at hc hd
    subst hc hd
    refine call_meets PySem.F.slot_list_count ⟨_, ho, rfl⟩ PySem.F.entry_list_count (PySem.F.args_list_count_2 _ _)
      (SeqAt.list_countAt p its.toArray n dd sl uy (eqU y)) ⟨ho, fun u' hu' => mem_eqAt ry fy rv fys u' (by simpa using hu'), ?_⟩
    have ec : its.toArray.toList.countP (eqU y) = ys.countP (fun z => eqV z y) := count_of ry fy rv fys
    refine ⟨.int (ys.countP (fun z => eqV z y) : Nat), H, I.tok _, ⟨s.toks, ?_⟩, q⟩
    show Value.int ((its.toArray.toList.countP (eqU y) : Nat) : Int) s.toks = Value.int ((ys.countP (fun z => eqV z y) : Nat) : Int) s.toks
    rw [ec]
end
theorem mt_indexK {X : Cx} {K : PySem.W.Frag} (hK : X.K = K := by rfl) : MtR X "list.index" (rIndex K) := hK ▸ mt_index
theorem pe_bmK {X : Cx} {K : PySem.W.Frag} {T : String} {name : Str} {id : String} {r : V → List V → Hp → VK → Prop} {o e : Expr} {es : List Expr} {to : TE} {t : TA} {apos cpos : Pos} (pa : PlainAttrs T) (slot : Slot T name id) (hty : typeOf (.builtin id) = pure (.type "method_descriptor")) (hm : MtR X id r) (ho : PE X o to) (ha : PA X (e :: es) t)
    (hK : X.K = K := by rfl) (hbase : attributeBase o name X.env (eval o X.env) = eval o X.env := by rfl)
    (hfew : ((backTo cpos (starEach (e :: es) X.env)).all (fun x => !x.1) && (backToKw cpos (keywordEach [] X.env)).all (fun x => x.1.isSome)
      && decide ((e :: es).length + ([] : List Keyword).length + (if ([] : List Keyword).isEmpty then 0 else 1) < 30)) = true := by rfl)
    (hline : (apos.endLine == cpos.line) = true := by rfl) (hs : starEach (e :: es) X.env = (false, eval e X.env) :: starEach es X.env := by rfl) (hplain : (backTo cpos (starEach es X.env)).any (·.1) = false := by rfl) :
    PE X (.Call (.Attribute o name apos) (e :: es) [] cpos) (tBM K T r to t) := by
  subst hK
  exact pe_bm pa slot hty hm ho ha hbase hfew hline hs hplain
/-! reading an attribute of the caught error -/
def tXfE (K : PySem.W.Frag) (a : Addr) (cls : Value) (d : Option Addr) (f : Str) (te : TE) : TE := fun σ H Q => te σ H fun x H1 => ∃ C, x = .ref a ∧ cls = .ref C ∧ IsX K C ∧ PySem.W.findIn K (.ref C) f = some none ∧ ∃ (dd : Addr) (fs : List (Str × V)) (v : V), d = some dd ∧ H1 dd = some (.xd fs) ∧ fs.lookup f = some v ∧ Q v H1
theorem pe_xfE {X : Cx} {a : Addr} {oe : Obj} {cls : Value} {d : Option Addr} {e : Expr} {te : TE} {pos : Pos} {n : Str} {K : PySem.W.Frag} (he : PE X e te)
    (hz : Zc cls d oe) (hf : ∃ vs, oe.data = .fields vs) (hK : X.K = K := by rfl) (hp : (a, oe) ∈ X.pn := by exact List.mem_cons_self) (hb : attributeBase e n X.env (eval e X.env) = eval e X.env := by rfl) :
    PE X (.Attribute e n pos) (tXfE K a cls d n te) := by
  subst hK
  refine ⟨fun pins s σ H Q I h => ?_⟩
  refine attr_of hb (thn (he.run pins s σ H _ I h) fun u s1 hh => ?_)
  obtain ⟨x, H1, I1, rx, C, ex, ec, T, hno, dd, fs, v, ed, ea, l, q⟩ := hh
  subst ex
  obtain rfl : u = Value.ref a := rx
  subst ec
  subst ed
  obtain ⟨ha, _⟩ := I1.pin (a, oe) (List.mem_append_left _ hp)
  obtain ⟨vs, hd⟩ := hf
  have hx : ObjOk X.prog X.w H1 s1.heap dd (.xd fs) := I1.hok dd _ ea
  obtain ⟨mA, hns, hr⟩ := hx
  obtain ⟨od, ho, hl⟩ := lookIn_ns hns
  obtain ⟨u, hu, ru⟩ := RelO.some_of (v := v) (o := mA n) (by rw [← l]; exact hr n)
  have J : PySem.W.InstAt s1.heap a oe C (some od) := ⟨ha, hz.1, by unfold PySem.W.notCls; rw [hd] <;> rfl, by rw [hz.2]; exact ho⟩
  exact HandSPX.exc_get I1.kIn J T.hg T.hk T.hs (PySem.W.findObj_own T.hd hno rfl (by rw [hl, hu])) (handed_of ru) ⟨v, H1, I1.tok _, ru, q⟩
/-! what error there is -/
inductive Er where
  | one (x : Str)
  | hall (y : Str) (i : Int)
  | at_ (x : Str) (i : Int)
def ones : List (Str × Str) := [("InvalidTick", "tick"), ("InvalidNumber", "number"), ("InvalidDigits", "digits"), ("TooMany", "many"), ("InvalidLimit", "limit"), ("Contradiction", "contradiction"), ("InvalidName", "name"), ("UnknownName", "unknown")]
def ats : List (Str × Str × Str) := [("TextFault", "text", "line"), ("InvalidCode", "code", "place"), ("InvalidOperation", "operation", "place")]
def Er.Is (K : PySem.W.Frag) (cls : Value) (d : Option Addr) (H : Hp) : Er → Prop
  | .one n => ∃ x, (x, n) ∈ ones ∧ cls = .ref (He.ga K x) ∧ d = none
  | .hall y i => cls = .ref (He.ga K "InvalidHall") ∧ ∃ dd, d = some dd ∧ H dd = some (.xd [("index", .int i), ("part", .str y)])
  | .at_ n i => ∃ x f, (x, n, f) ∈ ats ∧ cls = .ref (He.ga K x) ∧ ∃ dd, d = some dd ∧ H dd = some (.xd [(f, .int i)])
def Er.data : Er → PyData
  | .one n => .tuple [.str n, .int 0]
  | .hall y i => .tuple [.str "hall", .tuple [.str y, .int i]]
  | .at_ n i => .tuple [.str n, .int i]
def Er.Ok : Er → Prop
  | .one n => n ∈ ones.map (·.2)
  | .hall y _ => y ∈ (["modulus", "takes", "calls", "lateness"] : List Str)
  | .at_ n _ => n ∈ ats.map (·.2.1)
theorem Er.sml {e : Er} (h : e.Ok) {n : Nat} : Sml (n + 3) e.data := by
  have k1 : ∀ x ∈ ones.map (·.2), PyData.strOk x = true := by decide +kernel
  have k2 : ∀ x ∈ (["modulus", "takes", "calls", "lateness"] : List Str), PyData.strOk x = true := by decide +kernel
  have k3 : ∀ x ∈ ats.map (·.2.1), PyData.strOk x = true := by decide +kernel
  have k4 : PyData.strOk ("hall" : Str) = true := by decide +kernel
  cases e with
  | one x => simp [Er.data, Sml, k1 x h]
  | hall y i => simp [Er.data, Sml, k2 y h, k4]
  | at_ x i => simp [Er.data, Sml, k3 x h]
/-- what a def that makes of a call its error does -/
def TTerr (K : PySem.W.Frag) : (XK → Hp → VK → Prop) → Hp → VK → Prop := fun tl H Q =>
  tl (fun cls d H' => ∃ e : Er, e.Is K cls d H' ∧ ∀ r H'', Same H' H'' → L2.Dp K H'' (.ref r) e.data → Q (.ref r) H'') H fun _ H' => Q .non H'
/-- a wish that may count on the slots' number -/
theorem takes_len {X : Cx} {W : WX} (t : Takes X W) : Takes X (fun c d σ H => σ.length = X.N.length → W c d σ H) := fun u s' ⟨a, B, sI, pins, σ, H, cls, d, e, I, nb, up, sky, na, os, ag, w⟩ =>
  t u s' ⟨a, B, sI, pins, σ, H, cls, d, e, I, nb, up, sky, na, os, ag, w I.len⟩
/-- x(lambda: body), x a def that calls what it gets -/
theorem pe_lamE {X : Cx} {T : List (Addr × Str)} {TT : (XK → Hp → VK → Prop) → Hp → VK → Prop} {x a : Str} {g : Addr} {k : Nat} {stg : Stmt} {Ng : List Str} {params : Arguments} {body : Expr} {scope : Scope} {t : XK → TE} {p lpos pos : Pos}
    (hg : Gl X x) (hm : X.mg x = some (.ref g)) (Fg : ∃ fd, FnP X.K x x stg g fd) (Sg : FnScope Ng [a] (defScope stg))
    (hbg : ∀ (kV doc pm : Value) (an : Option Addr) (cdv ct : Value) (us : List Value), us.length = 1 → bindArgs (PySem.W.fnOf x x (defArgs stg) (defBody stg) (defScope stg) .none kV doc pm an cdv ct) ⟨us, []⟩ = pure (([a] : List Str).zip us))
    (hG : ∀ cdg : Value, LamX.GivesTo X Ng x (defScope stg) g cdg (defBody stg) a (X.env.qual ++ "<lambda>") TT)
    (tx : TabX X T) (hr : Room (k + 2) X.A) (L : LamX.LamS X.env.scope scope) (hdef : defaultsOf params X.env = ([], []))
    (hbind : ∀ (q : Str) (cl : List (Str × Addr)) (pm cv ctv : Value), bindArgs (PySem.W.kla_fn "<lambda>" q params body scope cl pm cv ctv) ⟨[], []⟩ = pure [])
    (hbody : ∀ (A : Around) (outer : List Env) (s : Shared) (H : Hp) (E : XK) (f c' : Addr), Room k (A.deeper (LamX.lamEnv X scope s.heap.objs.size f c')) → PE (LamX.lamCx X A outer s H E scope f c') body (t E))
    (hN : Ng[0]? = some a := by rfl) (hva : Vis (defScope stg) a := by first | exact .inl rfl | exact .inl (by decide +kernel)) (hdb : (x == ("__debug__" : Str)) = false := by decide) (hd : (a == ("__debug__" : Str)) = false := by decide) (hcd0 : (a == ("__classdict__" : Str)) = false := by decide) :
    PE X (.Call (.Name x p) [.Lambda params body scope lpos] [] pos) (LamX.tLam T TT t) := by
  obtain ⟨c, P, TB, hcode, hmT, hu⟩ := tx
  obtain ⟨fd, Fg⟩ := Fg
  have hB := Fg.bindsN (ps := [a]) hbg
  have kp := Fg.kp
  obtain ⟨oc, od, dV, kV, doc, pm, an, cdv, ct, osl, rfl, lk, hcd, _, _⟩ := Fg.ex
  exact LamX.pe_lamcall hg hm kp lk hcd hB Sg hN hva (hG cdv) TB hcode hmT hu hr L hdef hbind hbody hdb hd hcd0
end Ex
end Tk

section
local macro_rules | `(tactic| walk_at "hp") => `(tactic| first
  | assumption
  | with_reducible exact L2.upd_same
  | ((with_reducible refine' Tk.Same.get ?k0 ?k1); (case k0 => assumption); (case k1 => walk_at "hp"))
  | fail "hp")
local macro_rules | `(tactic| walk_at "same") => `(tactic| first
  | assumption
  | exact L2.Same.refl _
  | ((with_reducible refine' Tk.Same.nw ?k0 ?k1); (case k0 => assumption); (case k1 => walk_at "same"))
  | ((with_reducible refine' Tk.Same.tr ?k0 ?k1); (case k0 => assumption); (case k1 => walk_at "same")))
local macro_rules | `(tactic| walk_at "sql") => `(tactic| first
  | assumption
  | ((with_reducible refine' L2.SqL.of ?k0); (case k0 => walk_at "hp"))
  | ((with_reducible refine' L2.Same.seq ?k0 ?k1); (case k0 => assumption); (case k1 => walk_at "sql")))
local macro_rules | `(tactic| walk_at "sqt") => `(tactic| first
  | assumption
  | ((with_reducible refine' L2.SqT.of ?k0); (case k0 => walk_at "hp"))
  | ((with_reducible refine' Tk.sqt_sm ?k0 ?k1); (case k0 => assumption); (case k1 => walk_at "sqt")))
local macro_rules | `(tactic| walk_at "sz") => `(tactic| first
  | (show (_ : Nat) ≤ 1000; decide)
  | (simp; done)
  | (simp; omega))
local macro_rules | `(tactic| walk_at "szb") => `(tactic| first
  | assumption
  | (show (_ : Nat) ≤ 100000; decide)
  | (simp; done)
  | (simp; omega))
local macro_rules | `(tactic| walk_at "dp") => `(tactic| first
  | assumption
  | with_reducible exact L2.Dp.non
  | with_reducible exact L2.Dp.int _
  | with_reducible exact L2.Dp.str _
  | with_reducible exact L2.Dp.bl _
  | ((with_reducible refine' L2.Dp.lst ?k0 ?k1); (case k0 => walk_at "sql"); (case k1 => walk_at "dpa"))
  | ((with_reducible refine' L2.Dp.tup ?k0 ?k1); (case k0 => walk_at "sqt"); (case k1 => walk_at "dpa"))
  | ((with_reducible refine' Tk.dp_sm ?k0 ?k1); (case k0 => assumption); (case k1 => walk_at "dp"))
  | fail "dp")
local macro_rules | `(tactic| walk_at "dpa") => `(tactic| first
  | assumption
  | with_reducible exact L2.DpAll.nil
  | ((with_reducible refine' L2.DpAll.cons ?k0 ?k1); (case k0 => walk_at "dp"); (case k1 => walk_at "dpa"))
  | with_reducible exact Tk.dp_nats _
  | ((with_reducible refine' Tk.dpA_sm ?k0 ?k1); (case k0 => assumption); (case k1 => walk_at "dpa"))
  | fail "dpa")
local macro_rules | `(tactic| walk_at "ci") => `(tactic| first
  | exact .inl ⟨by decide, by decide⟩
  | exact .inr ⟨by decide, by decide⟩
  | exact .inl ⟨by omega, by omega⟩
  | exact .inr ⟨by omega, by omega⟩
  | exact ⟨by decide, by decide⟩
  | exact ⟨by omega, by omega⟩
  | (show (0 : Int) < _; decide)
  | (show (0 : Int) < _; omega))
local macro_rules | `(tactic| walk_at "rd1") => `(tactic| first
  | with_reducible refine Tk.Rd.seq ?_
  | with_reducible refine Tk.Rd.star ?_
  | with_reducible refine Tk.Rd.int1_i ?_
  | with_reducible refine Tk.Rd.int1_b ?_
  | with_reducible refine Tk.Rd.tlc2 ?_
  | with_reducible refine Tk.Rd.lrg3 ?_
  | with_reducible refine Tk.Rd.lrg ?_
  | with_reducible refine Tk.Rd.rg1 ?_
  | with_reducible refine Tk.Rd.rg1K_i ?_
  | with_reducible refine Tk.Rd.rg2 ?_
  | with_reducible refine Tk.Rd.rg2K_i ?_
  | ((with_reducible refine' Tk.Rd.catL ?k0 ?k1 ?k2 fun p H' np S hp => ?_); (case k0 => walk_at "hp"); (case k1 => walk_at "hp"); (case k2 => walk_at "szb"))
  | ((with_reducible refine' Tk.Rd.starK_t ?k0 ?_); (case k0 => walk_at "sqt"))
  | ((with_reducible refine' Tk.Rd.starK_l ?k0 ?_); (case k0 => walk_at "sql"))
  | ((with_reducible refine' Tk.Rd.var ?k0 ?_); (case k0 => exact rfl))
  | with_reducible refine Tk.Rd.c ?_
  | with_reducible refine Tk.Rd.op ?_
  | with_reducible refine Tk.Rd.i0 ?_
  | with_reducible refine Tk.Rd.asg ?_
  | with_reducible refine Tk.Rd.name ?_
  | with_reducible refine Tk.Rd.cons ?_
  | with_reducible refine Tk.Rd.nil ?_
  | with_reducible refine Tk.Rd.call ?_
  | with_reducible refine Tk.Rd.callK_i ?_
  | with_reducible refine Tk.Rd.tst ?_
  | with_reducible refine Tk.Rd.bv ?_
  | with_reducible refine Tk.Rd.toB_i ?_
  | with_reducible refine Tk.Rd.ift ?_
  | with_reducible refine Tk.Rd.iff ?_
  | with_reducible refine Tk.Rd.ifnt ?_
  | with_reducible refine Tk.Rd.ifnf ?_
  | with_reducible refine Tk.Rd.not ?_
  | with_reducible refine Tk.Rd.and ?_
  | with_reducible refine Tk.Rd.or ?_
  | with_reducible refine Tk.Rd.andV ?_
  | with_reducible refine Tk.Rd.andK_i ?_
  | with_reducible refine Tk.Rd.orV ?_
  | with_reducible refine Tk.Rd.orK_i ?_
  | with_reducible refine Tk.Rd.notV ?_
  | with_reducible refine Tk.Rd.notK_i ?_
  | with_reducible refine Tk.Rd.tif ?_
  | with_reducible refine Tk.Rd.yes ?_
  | with_reducible refine Tk.Rd.tfor ?_
  | with_reducible refine Tk.Rd.tlc ?_
  | with_reducible refine Tk.Rd.rng ?_
  | ((with_reducible refine' Tk.Rd.rngK_n ?k0 ?_); (case k0 => first | decide | omega))
  | ((with_reducible refine' Tk.Rd.rngK_lit ?k0 ?_); (case k0 => decide))
  | with_reducible refine Tk.Rd.rng2 ?_
  | with_reducible refine Tk.Rd.rng3 ?_
  | with_reducible refine Tk.Rd.ilist ?_
  | with_reducible refine Tk.Rd.zip ?_
  | with_reducible refine Tk.Rd.itup ?_
  | ((with_reducible refine' Tk.Rd.listK_i ?k0 ?_); (case k0 => walk_at "sql"))
  | ((with_reducible refine' Tk.Rd.ituK_i ?k0 ?_); (case k0 => walk_at "sqt"))
  | with_reducible refine Tk.Rd.chain ?_
  | with_reducible refine Tk.Rd.chainL_i ?_
  | with_reducible refine Tk.Rd.un ?_
  | with_reducible refine Tk.Rd.u1 ?_
  | ((with_reducible refine' Tk.Rd.i1 ?k0 ?_); (case k0 => walk_at "ci"))
  | ((with_reducible refine' Tk.Rd.eq ?k0 ?_); (case k0 => exact rfl))
  | ((with_reducible refine' Tk.Rd.ne ?k0 ?_); (case k0 => exact rfl))
  | with_reducible refine Tk.Rd.isN ?_
  | with_reducible refine Tk.Rd.notN ?_
  | with_reducible refine Tk.Rd.fld ?_
  | with_reducible refine Tk.Rd.meth ?_
  | with_reducible refine Tk.Rd.prop ?_
  | with_reducible refine Tk.Rd.cb ?_
  | with_reducible refine Tk.Rd.bm ?_
  | with_reducible refine Tk.Rd.m0 ?_
  | with_reducible refine Tk.Rd.m0K_i ?_
  | with_reducible refine Tk.Rd.m1 ?_
  | with_reducible refine Tk.Rd.m1K_i ?_
  | with_reducible refine Tk.Rd.tup ?_
  | ((with_reducible refine' Tk.Rd.tupK_i ?k0 fun p H' np S hp => ?_); (case k0 => walk_at "sz"))
  | with_reducible refine Tk.Rd.lst ?_
  | ((with_reducible refine' Tk.Rd.lstK_i ?k0 fun p H' np S hp => ?_); (case k0 => walk_at "sz"))
  | ((with_reducible refine' Tk.Rd.ixF ?k0 ?k1 ?_); (case k0 => walk_at "hp"); (case k1 => omega))
  | ((with_reducible refine' Tk.Rd.ixF1 ?k0 ?k1 ?_); (case k0 => walk_at "hp"); (case k1 => omega))
  | ((with_reducible refine' Tk.Rd.ixT ?k0 ?k1 ?_); (case k0 => walk_at "sqt"); (case k1 => exact rfl))
  | ((with_reducible refine' Tk.Rd.ixL ?k0 ?k1 ?_); (case k0 => walk_at "sql"); (case k1 => exact rfl))
  | ((with_reducible refine' Tk.Rd.lenL ?k0 ?_); (case k0 => walk_at "sql"))
  | ((with_reducible refine' Tk.Rd.lenT ?k0 ?_); (case k0 => walk_at "sqt"))
  | ((with_reducible refine' Tk.Rd.lenS ?k0 ?_); (case k0 => first | assumption | omega | (simp; omega)))
  | ((with_reducible refine' Tk.Rd.slTr ?k0 fun p H' S hp => ?_); (case k0 => walk_at "hp"))
  | ((with_reducible refine' Tk.Rd.slT ?k0 fun p H' S hq => ?_); (case k0 => walk_at "sqt"))
  | ((with_reducible refine' Tk.Rd.catTr ?k0 ?k1 ?k2 fun p H' S hp => ?_); (case k0 => walk_at "hp"); (case k1 => walk_at "hp"); (case k2 => walk_at "sz"))
  | ((with_reducible refine' Tk.Rd.catA ?k0 ?k1 ?k2 ?k3 ?k4 fun p H' np S hp => ?_); (case k0 => walk_at "sqt"); (case k1 => walk_at "sqt"); (case k2 => simp); (case k3 => simp); (case k4 => first | (simp; done) | (simp; omega)))
  | with_reducible refine Tk.Rd.make ?_
  | ((with_reducible refine' Tk.Rd.tplL ?k0 fun q H' nq S hq => ?_); (case k0 => walk_at "sql"))
  | ((with_reducible refine' Tk.Rd.lstL ?k0 fun q H' nq S hq => ?_); (case k0 => walk_at "sql"))
  | ((with_reducible refine' Tk.Rd.lstT ?k0 fun q H' nq S hq => ?_); (case k0 => walk_at "sqt"))
  | ((with_reducible refine' Tk.Rd.join ?k0 ?k1 ?_); (case k0 => walk_at "sql"); (case k1 => first | assumption | omega))
  | with_reducible refine Tk.Rd.mx ?_
  | with_reducible refine Tk.Rd.mn ?_
  | with_reducible refine Tk.Rd.noPart ?_
  | with_reducible refine Tk.Rd.part ?_
  | with_reducible refine Tk.Rd.partK_i ?_
  | with_reducible refine Tk.Rd.slc ?_
  | ((with_reducible refine' Tk.Rd.gtup ?k0 ?k1 ?_); (case k0 => walk_at "sqt"); (case k1 => exact rfl))
  | ((with_reducible refine' Tk.Rd.glst ?k0 ?k1 ?_); (case k0 => walk_at "sql"); (case k1 => exact rfl))
  | with_reducible refine Tk.Rd.gcons ?_
  | with_reducible refine Tk.Rd.gnil ?_
  | with_reducible refine Tk.Rd.next ?_
  | with_reducible refine Tk.Rd.drop ?_
  | with_reducible refine Tk.Rd.ret ?_
  | with_reducible refine Tk.Rd.retN ?_
  | with_reducible refine Tk.Rd.par ?_
  | with_reducible refine Tk.Rd.parK_i ?_
  | with_reducible refine Tk.Rd.par3 ?_
  | with_reducible refine Tk.Rd.par3K_i ?_
  | ((with_reducible refine' Tk.Rd.aug ?k0 ?_); (case k0 => exact rfl))
  | with_reducible refine Tk.Rd.ip ?_
  | ((with_reducible refine' Tk.Rd.bmK_l ?k0 ?_); (case k0 => walk_at "sql"))
  | ((with_reducible refine' Tk.Rd.addS ?k0 ?_); (case k0 => walk_at "sz"))
  | fail "rd1")
local macro_rules | `(tactic| walk_at "rd1i") => `(tactic| first
  | walk_at "rd1"
  | with_reducible refine Tk.Rd.ifS ?_
  | fail "rd1i")
local macro_rules | `(tactic| walk_at "rd") => `(tactic| (repeat' walk_at "rd1i"))
local macro_rules | `(tactic| walk_at "rs") => `(tactic| ((repeat' walk_at "rd1"); (try dsimp only)))
local macro_rules | `(tactic| walk_at "hall") => `(tactic| first
  | assumption
  | ((with_reducible refine' Tk.HallAt.sm ?k0 ?k1); (case k0 => assumption); (case k1 => walk_at "hall"))
  | fail "hall")
local macro_rules | `(tactic| walk_at "parts") => `(tactic| first
  | assumption
  | ((with_reducible refine' Tk.PartsAt.sm ?k0 ?k1); (case k0 => assumption); (case k1 => walk_at "parts"))
  | fail "parts")
local macro_rules | `(tactic| walk_at "sm") => `(tactic| first
  | assumption
  | exact Tk.Sm.int rfl
  | exact Tk.Sm.flat1 rfl
  | ((with_reducible refine' Tk.Sm.sm ?k0 ?k1); (case k0 => assumption); (case k1 => walk_at "sm"))
  | fail "sm")
local macro_rules | `(tactic| walk_at "rd1") => `(tactic| first
  | ((with_reducible refine' Tk.Rd.f_modulus ?k0 ?k1 ?_); (case k0 => assumption); (case k1 => walk_at "hall"))
  | ((with_reducible refine' Tk.Rd.f_lateness ?k0 ?k1 ?_); (case k0 => assumption); (case k1 => walk_at "hall"))
  | ((with_reducible refine' Tk.Rd.f_takes ?k0 ?k1 fun tp htp => ?_); (case k0 => assumption); (case k1 => walk_at "hall"))
  | ((with_reducible refine' Tk.Rd.f_calls ?k0 ?k1 fun cp hcp => ?_); (case k0 => assumption); (case k1 => walk_at "hall"))
  | ((with_reducible refine' Tk.Rd.h_meth ?k0 ?k1 ?_); (case k0 => walk_at "hall"); (case k1 => decide +kernel))
  | ((with_reducible refine' Tk.Rd.h_prop ?k0 ?_); (case k0 => walk_at "hall"))
  | ((with_reducible refine' Tk.Rd.h_taken0 ?k0 fun H' S => ?_); (case k0 => walk_at "hall"))
  | ((with_reducible refine' Tk.Rd.h_taken1 ?k0 fun H' S => ?_); (case k0 => walk_at "hall"))
  | ((with_reducible refine' Tk.Rd.h_takenL ?k0 fun H' S => ?_); (case k0 => walk_at "hall"))
  | ((with_reducible refine' Tk.Rd.h_called0 ?k0 ?_); (case k0 => walk_at "hall"))
  | ((with_reducible refine' Tk.Rd.h_called1 ?k0 ?_); (case k0 => walk_at "hall"))
  | ((with_reducible refine' Tk.Rd.h_calledL ?k0 ?_); (case k0 => walk_at "hall"))
  | ((with_reducible refine' Tk.Rd.h_waiting ?k0 ?k1 fun H' S => ?_); (case k0 => walk_at "hall"); (case k1 => omega))
  | ((with_reducible refine' Tk.Rd.h_growth ?k0 fun H' S => ?_); (case k0 => walk_at "hall"))
  | ((with_reducible refine' Tk.Rd.h_period ?k0 ?_); (case k0 => walk_at "hall"))
  | ((with_reducible refine' Tk.Rd.h_lhall ?k0 fun h lp H' nh nl S hA => ?_); (case k0 => walk_at "parts"))
  | ((with_reducible refine' Tk.Rd.h_length ?k0 ?_); (case k0 => walk_at "parts"))
  | ((with_reducible refine' Tk.Rd.h_counts ?k0 ?k1 fun r a b H' nr na nb nab S hr ha hb => ?_); (case k0 => walk_at "parts"); (case k1 => omega))
  | ((with_reducible refine' Tk.Rd.h_countsL ?k0 ?k1 fun r a b H' nr na nb nab S hr ha hb => ?_); (case k0 => walk_at "parts"); (case k1 => decide))
  | ((with_reducible refine' Tk.Rd.h_make ?k0 ?k1 ?k2 fun h lp H' nh nl S hA => ?_); (case k0 => assumption); (case k1 => walk_at "hp"); (case k2 => walk_at "hp"))
  | ((with_reducible refine' Tk.Rd.p_0 ?k0 ?_); (case k0 => walk_at "parts"))
  | ((with_reducible refine' Tk.Rd.p_1 ?k0 fun htp => ?_); (case k0 => walk_at "parts"))
  | ((with_reducible refine' Tk.Rd.p_2 ?k0 fun hcp => ?_); (case k0 => walk_at "parts"))
  | ((with_reducible refine' Tk.Rd.p_3 ?k0 ?_); (case k0 => walk_at "parts"))
  | fail "rd1")
local macro_rules | `(tactic| walk_at "sqt") => `(tactic| first | ((with_reducible refine' Tk.PartsAt.sq ?k0); (case k0 => walk_at "parts")) | fail "sqt")
local macro_rules | `(tactic| walk_at "free") => `(tactic| first
  | assumption
  | ((with_reducible refine' Tk.Same.fr ?k0 ?k1); (case k0 => assumption); (case k1 => walk_at "free")))
local macro_rules | `(tactic| walk_at "hp") => `(tactic| first
  | ((with_reducible refine' Tk.But.gt ?k0 ?k1 ?k2); (case k0 => assumption); (case k1 => assumption); (case k2 => walk_at "hp"))
  | ((with_reducible refine' Tk.But.gl ?k0 ?k1 ?k2); (case k0 => assumption); (case k1 => assumption); (case k2 => walk_at "hp"))
  | fail "hp")
local macro_rules | `(tactic| walk_at "hall") => `(tactic| first | ((with_reducible refine' Tk.HallAt.bt ?k0 ?k1 ?k2 ?k3); (case k0 => assumption); (case k1 => assumption); (case k2 => assumption); (case k3 => walk_at "hall")) | fail "hall")
local macro_rules | `(tactic| walk_at "parts") => `(tactic| first | ((with_reducible refine' Tk.PartsAt.bt ?k0 ?k1 ?k2); (case k0 => assumption); (case k1 => assumption); (case k2 => walk_at "parts")) | fail "parts")
local macro_rules | `(tactic| walk_at "rd1") => `(tactic| first
  | ((with_reducible refine' Tk.Rd.h_below ?k0 ?k1 ?k2 ?k3 fun r H' cs hr B hd hcs => ?_); (case k0 => walk_at "hp"); (case k1 => assumption); (case k2 => first | decide | omega); (case k3 => first | decide | omega))
  | ((with_reducible refine' Tk.Rd.h_parts ?k0 ?k1 ?k2 ?k3 fun t tp cp m lt tk cl H' cs nt B hd hcs hP l1 l2 => ?_); (case k0 => walk_at "hp"); (case k1 => assumption); (case k2 => first | decide | omega); (case k3 => first | decide | omega))
  | ((with_reducible refine' Tk.Rd.h_partsL ?k0 ?k1 ?k2 ?k3 fun t tp cp m lt tk cl H' cs nt B hd hcs hP l1 l2 => ?_); (case k0 => walk_at "hp"); (case k1 => assumption); (case k2 => first | decide | omega); (case k3 => first | decide | omega))
  | ((with_reducible refine' Tk.Rd.h_small ?k0 ?k1 fun t tp cp m lt tk cl H' cs nt B hd hcs hP m1 l1 l2 l3 => ?_); (case k0 => walk_at "hp"); (case k1 => assumption))
  | ((with_reducible refine' Tk.Rd.h_tick ?k0 ?k1 fun t H' cs ht B hd hcs => ?_); (case k0 => walk_at "hp"); (case k1 => assumption))
  | ((with_reducible refine' Tk.Rd.h_mo ?k0 fun v H' S hv => ?_); (case k0 => walk_at "hall"))
  | ((with_reducible refine' Tk.Rd.h_lc ?k0 fun v H' S hv => ?_); (case k0 => walk_at "hall"))
  | ((with_reducible refine' Tk.Rd.h_lm ?k0 fun v H' S hv => ?_); (case k0 => walk_at "hall"))
  | ((with_reducible refine' Tk.Rd.h_gl ?k0 fun v H' S hv => ?_); (case k0 => walk_at "hall"))
  | ((with_reducible refine' Tk.Rd.h_ot ?k0 ?k1 fun r H' nr S hr => ?_); (case k0 => walk_at "hall"); (case k1 => first | assumption | omega))
  | ((with_reducible refine' Tk.Rd.h_most2 ?k0 fun v H' S hv => ?_); (case k0 => walk_at "parts"))
  | ((with_reducible refine' Tk.Rd.h_opens2L ?k0 ?k1 fun l ys H' nl S hl hlen hR => ?_); (case k0 => walk_at "parts"); (case k1 => decide))
  | ((with_reducible refine' Tk.Rd.h_opens2 ?k0 ?k1 fun l ys H' nl S hl hlen hR => ?_); (case k0 => walk_at "parts"); (case k1 => first | decide | omega))
  | fail "rd1")
local macro_rules | `(tactic| walk_at "ok") => `(tactic| first
  | assumption
  | ((with_reducible refine' Tk.HallAt.ok ?k0); (case k0 => walk_at "hall"))
  | ((with_reducible refine' Tk.PartsAt.ok ?k0); (case k0 => walk_at "parts"))
  | fail "ok")
local macro_rules | `(tactic| walk_at "sml") => `(tactic| first
  | exact Tk.Sml.ints (by walk_at "szb")
  | exact Tk.Sml.intsT (by walk_at "szb")
  | trivial
  | (simp [Tk.Sml]; done)
  | (simp [Tk.Sml]; omega)
  | fail "sml")
local macro_rules | `(tactic| walk_at "rd1") => `(tactic| first
  | ((with_reducible refine' Tk.Rd.nT ?k0 ?_); (case k0 => with_reducible exact rfl))
  | ((with_reducible refine' Tk.Rd.dT ?k0 ?_); (case k0 => with_reducible exact rfl))
  | with_reducible refine Tk.Rd.nF Tk.Rd.int_non ?_
  | with_reducible refine Tk.Rd.nF Tk.Rd.ref_non ?_
  | with_reducible refine Tk.Rd.dF Tk.Rd.int_non ?_
  | with_reducible refine Tk.Rd.dF Tk.Rd.ref_non ?_
  | ((with_reducible refine' Tk.Rd.h_disp ?k0 ?k1 ?_); (case k0 => first | assumption | omega); (case k1 => walk_at "hall"))
  | ((with_reducible refine' Tk.Rd.h_hold ?k0 ?k1 ?k2 ?k3 fun l H' nl S hl => ?_); (case k0 => walk_at "hall"); (case k1 => first | assumption | omega); (case k2 => first | assumption | omega); (case k3 => first | assumption | omega))
  | ((with_reducible refine' Tk.Rd.h_mis ?k0 ?k1 ?k2 fun l ys H' nl S hl hd => ?_); (case k0 => walk_at "hall"); (case k1 => first | assumption | omega); (case k2 => first | assumption | omega))
  | ((with_reducible refine' Tk.Rd.h_enc ?k0 fun l H' nl S hl => ?_); (case k0 => walk_at "hall"))
  | ((with_reducible refine' Tk.Rd.h_dec ?k0 ?k1 fun h lp H' nh nl S hA => ?_); (case k0 => walk_at "hp"); (case k1 => walk_at "ok"))
  | ((with_reducible refine' Tk.Rd.h_text ?k0 fun H' S => ?_); (case k0 => walk_at "hall"))
  | ((with_reducible refine' Tk.Rd.h_eqd ?k0 ?k1 ?k2 fun H' S => ?_); (case k0 => walk_at "dp"); (case k1 => walk_at "dp"); (case k2 => walk_at "sml"))
  | ((with_reducible refine' Tk.Rd.eqd ?k0 ?k1 ?k2 ?k3 ?_); (case k0 => walk_at "dp"); (case k1 => walk_at "dp"); (case k2 => walk_at "sml"); (case k3 => walk_at "sml"))
  | ((with_reducible refine' Tk.Rd.ned ?k0 ?k1 ?k2 ?k3 ?_); (case k0 => walk_at "dp"); (case k1 => walk_at "dp"); (case k2 => walk_at "sml"); (case k3 => walk_at "sml"))
  | fail "rd1")
/-! ### What _law_error_of makes of a call -/
namespace Tk
open PySem PySem.Spec PyProof.Rows L2
namespace Rd
variable {K : PySem.W.Frag} {σ : L2.St} {H : Hp} {Q : VK}
theorem isXt {xs : List Str} {x : Str} {d : Option Addr} {a : Addr} (kt : Ex.KitX xs K) (hx : x ∈ xs) (is : Ex.IsX K (He.ga K x)) (hd : Ex.HasD H d) (k : Q (.bl true) H) : Ex.rIsX K (.ref (He.ga K x)) d a [.ref a, .ref (He.ga K x)] H Q :=
  ⟨_, _, .ref (He.ga K x), true, rfl, is, rfl, fun _ r => r, by rw [kt.two x hx x hx, decide_eq_true rfl], hd, k⟩
theorem isXf {xs : List Str} {x y : Str} {d : Option Addr} {a : Addr} (kt : Ex.KitX xs K) (hx : x ∈ xs) (hy : y ∈ xs) (is : Ex.IsX K (He.ga K x)) (hd : Ex.HasD H d) (ne : x ≠ y) (k : Q (.bl false) H) : Ex.rIsX K (.ref (He.ga K x)) d a [.ref a, .ref (He.ga K y)] H Q :=
  ⟨_, _, .ref (He.ga K y), false, rfl, is, rfl, fun _ r => r, by rw [kt.two x hx y hy, decide_eq_false ne], hd, k⟩
theorem isXv {xs : List Str} {x : Str} {d : Option Addr} {a : Addr} (kt : Ex.KitX xs K) (hx : x ∈ xs) (is : Ex.IsX K (He.ga K x)) (hd : Ex.HasD H d) (k : Q (.bl true) H) : Ex.rIsX K (.ref (He.ga K x)) d a [.ref a, .ty "ValueError"] H Q :=
  ⟨_, _, .type "ValueError", true, rfl, is, rfl, fun _ r => r, kt.ve x hx, hd, k⟩
theorem cntF {p : Addr} {ys : List V} {y : V} {n : Nat} (h : SqL K H p ys) (fy : flatV y = true) (fs : ys.all flatV = true) (hn : ys.countP (fun z => eqV z y) = n) (k : Q (.int n) H) : Ex.rCntF K (.ref p) [y] H Q :=
  ⟨p, ys, y, rfl, rfl, h, fy, fs, by rw [hn]; exact k⟩
theorem idxF {p : Addr} {ys : List V} {y z : V} {j : Nat} (h : SqL K H p ys) (fy : flatV y = true) (fs : ys.all flatV = true) (hz : ys[j]? = some z) (he : eqV z y = true) (hno : (ys.take j).all (fun z => !eqV z y) = true) (k : Q (.int j) H) : rIndex K (.ref p) [y] H Q :=
  ⟨p, ys, y, j, z, rfl, rfl, h, fy, fs, hz, he, fun m z' hm hm' => by
    have : (!eqV z' y) = true := List.all_eq_true.mp hno z' (List.mem_of_getElem? (by rw [List.getElem?_take_of_lt hm]; exact hm'))
    simpa using this, k⟩
theorem xfE {x : Str} {dd a : Addr} {fs : List (Str × V)} {f : Str} {v : V} (is : Ex.IsX K (He.ga K x)) (hno : PySem.W.findIn K (.ref (He.ga K x)) f = some none) (hd : H dd = some (.xd fs)) (hf : fs.lookup f = some v) (k : Q v H) :
    ∃ C, V.ref a = .ref a ∧ Value.ref (He.ga K x) = .ref C ∧ Ex.IsX K C ∧ PySem.W.findIn K (.ref C) f = some none ∧ ∃ (d' : Addr) (fs : List (Str × V)) (v : V), some dd = some d' ∧ H d' = some (.xd fs) ∧ fs.lookup f = some v ∧ Q v H :=
  ⟨_, rfl, rfl, is, hno, dd, fs, v, rfl, hd, hf, k⟩
end Rd
namespace Ex
def tbE (n : Nat) (f c' : Addr) (q : Str) (tl : XK → Hp → VK → Prop) : WX → TS := fun W D σ H => ∃ Ech : XK, (∀ cls d σ' H', σ'.length = n → Ech cls d H' → W cls d σ' H') ∧ σ[0]? = some (some (.ref f)) ∧ H c' = some (LamX.CodeO c' q) ∧ tl Ech H (fun _ H1 => D.nx σ H1)
end Ex
theorem Ex.HasD.sm {H H' : Hp} {d : Option Addr} (S : Same H H') (h : Ex.HasD H d) : Ex.HasD H' d := by
  cases d with
  | none => trivial
  | some dd =>
    obtain ⟨fs, e⟩ := h
    exact ⟨fs, S _ _ e⟩
local macro_rules | `(tactic| walk_at "hasd") => `(tactic| first
  | trivial
  | assumption
  | ((with_reducible refine' Tk.Ex.HasD.sm ?k0 ?k1); (case k0 => assumption); (case k1 => walk_at "hasd"))
  | fail "hasd")
theorem Rd.xfE1 {K : PySem.W.Frag} {σ : L2.St} {H : Hp} {Q : VK} {x : Str} {j : Nat} {dd a : Addr} {fs : List (Str × V)} {f : Str} {v : V} (is : Ex.IsX K (He.ga K x)) (hno : PySem.W.findIn K (.ref (He.ga K x)) f = some none) (hσ : σ[j]? = some (some (.ref a))) (hd : H dd = some (.xd fs)) (hf : fs.lookup f = some v) (k : Q v H) :
    Ex.tXfE K a (.ref (He.ga K x)) (some dd) f (tVar j) σ H Q := ⟨.ref a, hσ, Rd.xfE is hno hd hf k⟩
def XS : List Str := ["InvalidHall", "InvalidTick", "InvalidNumber", "InvalidDigits", "TooMany", "InvalidLimit", "Contradiction", "TextFault", "InvalidCode", "InvalidName", "UnknownName", "InvalidOperation"]
def XO : List Str := ["InvalidTick", "InvalidNumber", "InvalidDigits", "TooMany", "InvalidLimit", "Contradiction", "InvalidName", "UnknownName", "InvalidHall", "TextFault", "InvalidCode", "InvalidOperation"]
def LB : List Str := ["tick", "number", "digits", "many", "limit", "contradiction", "name", "unknown", "hall", "text", "code", "operation"]
namespace Ex
def kds (x : Str) : List V := [.bl (decide (x = "InvalidTick")), .bl (decide (x = "InvalidNumber")), .bl (decide (x = "InvalidDigits"))] ++ [.bl (decide (x = "TooMany")), .bl (decide (x = "InvalidLimit")), .bl (decide (x = "Contradiction"))] ++
  [.bl (decide (x = "InvalidName")), .bl (decide (x = "UnknownName")), .bl (decide (x = "InvalidHall"))] ++ [.bl (decide (x = "TextFault")), .bl (decide (x = "InvalidCode")), .bl (decide (x = "InvalidOperation"))]
def ix (x : Str) : Nat := XO.findIdx (fun y => decide (y = x))
def lbV : List V := [.str "tick", .str "number", .str "digits", .str "many", .str "limit", .str "contradiction", .str "name", .str "unknown", .str "hall", .str "text"] ++ [.str "code", .str "operation"]
theorem ones_ok : ∀ p ∈ ones, p.1 ∈ XS ∧ lbV[ix p.1]? = some (.str p.2) ∧ p.2 ≠ "hall" ∧ p.2 ≠ "text" ∧ inV (.str p.2) [.str "code", .str "operation"] = false := by decide +kernel
theorem ats_ok : ∀ p ∈ ats, p.1 ∈ XS ∧ lbV[ix p.1]? = some (.str p.2.1) ∧ p.2.1 ≠ "hall" := by decide +kernel
theorem hall_ok : ("InvalidHall" : Str) ∈ XS ∧ lbV[ix "InvalidHall"]? = some (.str "hall") := by decide +kernel
theorem kds_one : ∀ x ∈ XS, (kds x).countP (fun z => eqV z (.bl true)) = 1 ∧ (kds x).all flatV = true ∧ ((kds x)[ix x]? = some (.bl true)) ∧ ((kds x).take (ix x)).all (fun z => !eqV z (.bl true)) = true ∧ ix x < 12 := by decide +kernel
end Ex
namespace Rd
theorem isX {K : PySem.W.Frag} {H : Hp} {Q : VK} {x y : Str} {d : Option Addr} {a : Addr} (kt : Ex.KitX XS K) (hx : x ∈ XS) (is : Ex.IsX K (He.ga K x)) (hy : y ∈ XS) (hd : Ex.HasD H d) (k : Q (.bl (decide (x = y))) H) : Ex.rIsX K (.ref (He.ga K x)) d a [.ref a, .ref (He.ga K y)] H Q :=
  ⟨_, _, .ref (He.ga K y), _, rfl, is, rfl, fun _ r => r, kt.two x hx y hy, hd, k⟩
theorem is3 {K : PySem.W.Frag} {σ : L2.St} {H : Hp} {Q : VK} {x y1 y2 y3 : Str} {d : Option Addr} {a : Addr} (kt : Ex.KitX XS K) (hx : x ∈ XS) (is : Ex.IsX K (He.ga K x)) (h1 : y1 ∈ XS) (h2 : y2 ∈ XS) (h3 : y3 ∈ XS) (hd : Ex.HasD H d) (hσ : σ[1]? = some (some (.ref a)))
    (k : ∀ p H', H p = none → Same H H' → H' p = some (.lst [.bl (decide (x = y1)), .bl (decide (x = y2)), .bl (decide (x = y3))]) → Q (.ref p) H') :
    tLst (tCons (tCB (Ex.rIsX K (.ref (He.ga K x)) d a) (tCons (tVar 1) (tCons (tC (.ref (He.ga K y1))) tNil))) (tCons (tCB (Ex.rIsX K (.ref (He.ga K x)) d a) (tCons (tVar 1) (tCons (tC (.ref (He.ga K y2))) tNil))) (tCons (tCB (Ex.rIsX K (.ref (He.ga K x)) d a) (tCons (tVar 1) (tCons (tC (.ref (He.ga K y3))) tNil))) tNil))) σ H Q := by
  refine Rd.lst ?_
  refine Rd.cons ?_
  refine Rd.cb ?_
  refine Rd.cons ?_
  refine Rd.var hσ ?_
  refine Rd.cons ?_
  refine Rd.c ?_
  refine Rd.nil ?_
  refine isX kt hx is h1 hd ?_
  refine Rd.cons ?_
  refine Rd.cb ?_
  refine Rd.cons ?_
  refine Rd.var hσ ?_
  refine Rd.cons ?_
  refine Rd.c ?_
  refine Rd.nil ?_
  refine isX kt hx is h2 hd ?_
  refine Rd.cons ?_
  refine Rd.cb ?_
  refine Rd.cons ?_
  refine Rd.var hσ ?_
  refine Rd.cons ?_
  refine Rd.c ?_
  refine Rd.nil ?_
  refine isX kt hx is h3 hd ?_
  refine Rd.nil ?_
  exact Rd.lstK_i (by simp) k
end Rd
local macro_rules | `(tactic| walk_at "rd1") => `(tactic| first
  | ((with_reducible refine' Tk.Rd.is3 ?k0 ?k1 ?k2 ?k3 ?k4 ?k5 ?k6 ?k7 fun p H' np S hp => ?_); (case k0 => assumption); (case k1 => assumption); (case k2 => assumption); (case k3 => assumption); (case k4 => assumption); (case k5 => assumption); (case k6 => walk_at "hasd"); (case k7 => exact rfl))
  | ((with_reducible refine' Tk.Rd.isX ?k0 ?k1 ?k2 ?k3 ?k4 ?_); (case k0 => assumption); (case k1 => assumption); (case k2 => assumption); (case k3 => assumption); (case k4 => walk_at "hasd"))
  | ((with_reducible refine' Tk.Rd.isXv ?k0 ?k1 ?k2 ?k3 ?_); (case k0 => assumption); (case k1 => assumption); (case k2 => assumption); (case k3 => walk_at "hasd"))
  | fail "rd1")
theorem gv__law_error_of {X : Cx} (T : Txt X.K X.mg) {q : Str} : ∀ cdg : Value, LamX.GivesTo X N__law_error_of "_law_error_of" (defScope s__law_error_of) (He.ga X.K "_law_error_of") cdg (defBody s__law_error_of) "_law_call" q (Ex.TTerr X.K) := by
  obtain ⟨P, w, K, mg, base, A, N, s_0, H_0, env, outer, stack, ex, fn, calm, pn, xe⟩ := X
  dsimp only at T ⊢
  intro cdg f c' s H Q tl act hc h
  have bd : ∀ (W : WX) (pn : List (Addr × Obj)) (xe : Value → Shared → Prop) (p1 p2 p3 : Pos), Takes ((cxOf C8.CX0 P w K mg base N__law_error_of "_law_error_of" (defScope s__law_error_of) (He.ga K "_law_error_of") cdg A stack s H C8.E0).nox.tr pn xe) W →
      PSs ((cxOf C8.CX0 P w K mg base N__law_error_of "_law_error_of" (defScope s__law_error_of) (He.ga K "_law_error_of") cdg A stack s H C8.E0).nox.tr pn xe) [.Expr (.Call (.Name "_law_call" p1) [] [] p2) p3] (Ex.tbE 5 f c' q tl W) := fun W pn xe p1 p2 p3 tk => by
    refine ⟨fun pins s' σ H' D I h' => ?_⟩
    obtain ⟨Ech, hW, h1, h2, h3⟩ := h'
    have hp := act (fun c d σ H => σ.length = 5 → W c d σ H) pn xe Ech p1 p2 (Ex.takes_len tk) (fun cls d σ' H' e l => hW _ _ _ _ l e)
    exact (pss_one (ps_expr (pos := p3) hp)).run pins s' σ H' D I ⟨h1, h2, h3⟩
  refine ⟨_, (pss_cons (ps_try_as (tb := Ex.tbE 5 f c' q tl) (i := 1) rfl rfl sc__law_error_of.nd rfl rfl ⟨rfl, by decide, .inl T.g_HallError⟩ takes0 (fun W pn xe tk _ => bd _ _ _ _ _ _ tk) (fun a oe cls d pn hz hf => (pss_cons (ps_set (i := 2) sc__law_error_of.nd rfl (Or.inl rfl) (pe_lst (pa_cons (pe_callB (Ex.call_isX (K := K) (a := a) hz hf) (by rfl) T.g_isinstance (by decide +kernel) (pa_cons (pv 1) (pa_cons (pe_glob (v := .ref (He.ga K "InvalidTick")) (by rfl) T.g_InvalidTick rfl) pa_nil))) (pa_cons (pe_callB (Ex.call_isX (K := K) (a := a) hz hf) (by rfl) T.g_isinstance (by decide +kernel) (pa_cons (pv 1) (pa_cons (pe_glob (v := .ref (He.ga K "InvalidNumber")) (by rfl) T.g_InvalidNumber rfl) pa_nil))) (pa_cons (pe_callB (Ex.call_isX (K := K) (a := a) hz hf) (by rfl) T.g_isinstance (by decide +kernel) (pa_cons (pv 1) (pa_cons (pe_glob (v := .ref (He.ga K "InvalidDigits")) (by rfl) T.g_InvalidDigits rfl) pa_nil))) pa_nil)))))
    (pss_cons (ps_set (i := 2) sc__law_error_of.nd rfl (Or.inl rfl) (pe_op op_cat (pv 2) (pe_lst (pa_cons (pe_callB (Ex.call_isX (K := K) (a := a) hz hf) (by rfl) T.g_isinstance (by decide +kernel) (pa_cons (pv 1) (pa_cons (pe_glob (v := .ref (He.ga K "TooMany")) (by rfl) T.g_TooMany rfl) pa_nil))) (pa_cons (pe_callB (Ex.call_isX (K := K) (a := a) hz hf) (by rfl) T.g_isinstance (by decide +kernel) (pa_cons (pv 1) (pa_cons (pe_glob (v := .ref (He.ga K "InvalidLimit")) (by rfl) T.g_InvalidLimit rfl) pa_nil))) (pa_cons (pe_callB (Ex.call_isX (K := K) (a := a) hz hf) (by rfl) T.g_isinstance (by decide +kernel) (pa_cons (pv 1) (pa_cons (pe_glob (v := .ref (He.ga K "Contradiction")) (by rfl) T.g_Contradiction rfl) pa_nil))) pa_nil))))))
    (pss_cons (ps_set (i := 2) sc__law_error_of.nd rfl (Or.inl rfl) (pe_op op_cat (pv 2) (pe_lst (pa_cons (pe_callB (Ex.call_isX (K := K) (a := a) hz hf) (by rfl) T.g_isinstance (by decide +kernel) (pa_cons (pv 1) (pa_cons (pe_glob (v := .ref (He.ga K "InvalidName")) (by rfl) T.g_InvalidName rfl) pa_nil))) (pa_cons (pe_callB (Ex.call_isX (K := K) (a := a) hz hf) (by rfl) T.g_isinstance (by decide +kernel) (pa_cons (pv 1) (pa_cons (pe_glob (v := .ref (He.ga K "UnknownName")) (by rfl) T.g_UnknownName rfl) pa_nil))) (pa_cons (pe_callB (Ex.call_isX (K := K) (a := a) hz hf) (by rfl) T.g_isinstance (by decide +kernel) (pa_cons (pv 1) (pa_cons (pe_glob (v := .ref (He.ga K "InvalidHall")) (by rfl) T.g_InvalidHall rfl) pa_nil))) pa_nil))))))
    (pss_cons (ps_set (i := 2) sc__law_error_of.nd rfl (Or.inl rfl) (pe_op op_cat (pv 2) (pe_lst (pa_cons (pe_callB (Ex.call_isX (K := K) (a := a) hz hf) (by rfl) T.g_isinstance (by decide +kernel) (pa_cons (pv 1) (pa_cons (pe_glob (v := .ref (He.ga K "TextFault")) (by rfl) T.g_TextFault rfl) pa_nil))) (pa_cons (pe_callB (Ex.call_isX (K := K) (a := a) hz hf) (by rfl) T.g_isinstance (by decide +kernel) (pa_cons (pv 1) (pa_cons (pe_glob (v := .ref (He.ga K "InvalidCode")) (by rfl) T.g_InvalidCode rfl) pa_nil))) (pa_cons (pe_callB (Ex.call_isX (K := K) (a := a) hz hf) (by rfl) T.g_isinstance (by decide +kernel) (pa_cons (pv 1) (pa_cons (pe_glob (v := .ref (He.ga K "InvalidOperation")) (by rfl) T.g_InvalidOperation rfl) pa_nil))) pa_nil))))))
    (pss_cons (ps_if (PW.pt (pw_or (pt_cmpR op_ne (Ex.pe_bmK (K := K) PySem.F.plainAttrs_list PySem.F.slot_list_count PySem.F.type_list_count (Ex.mt_countF (K := K)) (pv 2) (pa_cons pe_bl pa_nil)) pe_int (nomark _)) (pw_or1 (pt_not (pt_val (pe_callB (Ex.call_isX (K := K) (a := a) hz hf) (by rfl) T.g_isinstance (by decide +kernel) (pa_cons (pv 1) (pa_cons (pe_bltn (v := .ty "ValueError") (by rfl) T.g_ValueError boot_ty_ValueError rfl) pa_nil)))))))) (pss_one (ps_ret (pe_tup (pa_cons pe_str (pa_cons pe_int pa_nil))))) pss_nil)
    (pss_cons (ps_set (i := 3) sc__law_error_of.nd rfl (Or.inl rfl) (pe_lst (pa_cons pe_str (pa_cons pe_str (pa_cons pe_str (pa_cons pe_str (pa_cons pe_str (pa_cons pe_str (pa_cons pe_str (pa_cons pe_str (pa_cons pe_str (pa_cons pe_str pa_nil))))))))))))
    (pss_cons (ps_set (i := 4) sc__law_error_of.nd rfl (Or.inl rfl) (pe_ix (ixLK (K := K)) (pe_op op_cat (pv 3) (pe_lst (pa_cons pe_str (pa_cons pe_str pa_nil)))) (Ex.pe_bmK (K := K) PySem.F.plainAttrs_list PySem.F.slot_list_index PySem.F.type_list_index (Ex.mt_indexK (K := K)) (pv 2) (pa_cons pe_bl pa_nil)) (fun _ _ => rfl)))
    (pss_cons (ps_if (pt_cmpR op_eq (pv 4) pe_str (nomark _)) (pss_one (ps_ret (pe_tup (pa_cons (pv 4) (pa_cons (pe_tup (pa_cons (Ex.pe_xfE (K := K) (a := a) (pv 1) hz hf) (pa_cons (Ex.pe_xfE (K := K) (a := a) (pv 1) hz hf) pa_nil))) pa_nil))))) pss_nil)
    (pss_cons (ps_if (pt_cmpR op_eq (pv 4) pe_str (nomark _)) (pss_one (ps_ret (pe_tup (pa_cons (pv 4) (pa_cons (Ex.pe_xfE (K := K) (a := a) (pv 1) hz hf) pa_nil))))) pss_nil)
    (pss_one (ps_ret (pe_tup (pa_cons (pv 4) (pa_cons (pe_ifExp (pt_cmpR (inK (K := K)) (pv 4) (pe_lst (pa_cons pe_str (pa_cons pe_str pa_nil))) (by rfl)) (Ex.pe_xfE (K := K) (a := a) (pv 1) hz hf) pe_int) pa_nil))))))))))))))))
    (pss_one (ps_ret pe_non))), ?_⟩
  refine ⟨_, fun cls d σ' H' hl ⟨e, he, k⟩ => ?_, rfl, hc, h⟩
  obtain ⟨v0, v1, v2, v3, v4, rfl⟩ : ∃ v0 v1 v2 v3 v4, σ' = [v0, v1, v2, v3, v4] := by
    match σ', hl with
    | [_, _, _, _, _], _ => exact ⟨_, _, _, _, _, rfl⟩
  have kt : Ex.KitX XS K := T.kit
  have facts : ∀ x ∈ XS, Ex.IsX K (He.ga K x) ∧ PySem.W.exmOne K (.ref (He.ga K x)) (.ref (He.ga K "HallError")) = some true := by
    intro x hx
    simp only [XS, List.mem_cons, List.not_mem_nil, or_false] at hx
    rcases hx with rfl | rfl | rfl | rfl | rfl | rfl | rfl | rfl | rfl | rfl | rfl | rfl
    · exact ⟨T.i_InvalidHall, T.e_InvalidHall⟩
    · exact ⟨T.i_InvalidTick, T.e_InvalidTick⟩
    · exact ⟨T.i_InvalidNumber, T.e_InvalidNumber⟩
    · exact ⟨T.i_InvalidDigits, T.e_InvalidDigits⟩
    · exact ⟨T.i_TooMany, T.e_TooMany⟩
    · exact ⟨T.i_InvalidLimit, T.e_InvalidLimit⟩
    · exact ⟨T.i_Contradiction, T.e_Contradiction⟩
    · exact ⟨T.i_TextFault, T.e_TextFault⟩
    · exact ⟨T.i_InvalidCode, T.e_InvalidCode⟩
    · exact ⟨T.i_InvalidName, T.e_InvalidName⟩
    · exact ⟨T.i_UnknownName, T.e_UnknownName⟩
    · exact ⟨T.i_InvalidOperation, T.e_InvalidOperation⟩
  obtain ⟨x, n, hx, rfl, hD, hn, kind⟩ : ∃ x n, x ∈ XS ∧ cls = .ref (He.ga K x) ∧ Ex.HasD H' d ∧ Ex.lbV[Ex.ix x]? = some (.str n) ∧
      ((e = .one n ∧ n ≠ "hall" ∧ n ≠ "text" ∧ inV (.str n) [.str "code", .str "operation"] = false) ∨ (∃ y i dd, e = .hall y i ∧ n = "hall" ∧ x = "InvalidHall" ∧ d = some dd ∧ H' dd = some (.xd [("index", .int i), ("part", .str y)])) ∨
        (∃ i dd, e = .at_ n i ∧ n = "text" ∧ x = "TextFault" ∧ d = some dd ∧ H' dd = some (.xd [("line", .int i)])) ∨
        (∃ i dd, e = .at_ n i ∧ n ≠ "hall" ∧ n ≠ "text" ∧ inV (.str n) [.str "code", .str "operation"] = true ∧ PySem.W.findIn K (.ref (He.ga K x)) "place" = some none ∧ d = some dd ∧ H' dd = some (.xd [("place", .int i)]))) := by
    cases e with
    | one n =>
      obtain ⟨x, hx, rfl, rfl⟩ := he
      obtain ⟨a1, a2, a3, a4, a5⟩ := Ex.ones_ok _ hx
      exact ⟨x, n, a1, rfl, trivial, a2, .inl ⟨rfl, a3, a4, a5⟩⟩
    | hall y i =>
      obtain ⟨rfl, dd, rfl, hdd⟩ := he
      exact ⟨_, _, Ex.hall_ok.1, rfl, ⟨_, hdd⟩, Ex.hall_ok.2, .inr (.inl ⟨y, i, dd, rfl, rfl, rfl, rfl, hdd⟩)⟩
    | at_ n i =>
      obtain ⟨x, f, hx, rfl, dd, rfl, hdd⟩ := he
      obtain ⟨a1, a2, a3⟩ := Ex.ats_ok _ hx
      refine ⟨x, n, a1, rfl, ⟨_, hdd⟩, a2, ?_⟩
      have hx : (x, n, f) ∈ Ex.ats := hx
      simp only [Ex.ats, List.mem_cons, Prod.mk.injEq, List.not_mem_nil, or_false] at hx
      rcases hx with ⟨rfl, rfl, rfl⟩ | ⟨rfl, rfl, rfl⟩ | ⟨rfl, rfl, rfl⟩
      · exact .inr (.inr (.inl ⟨i, dd, rfl, rfl, rfl, rfl, hdd⟩))
      · exact .inr (.inr (.inr ⟨i, dd, rfl, a3, by decide, by decide +kernel, T.x_InvalidCode.no "place" (by decide), rfl, hdd⟩))
      · exact .inr (.inr (.inr ⟨i, dd, rfl, a3, by decide, by decide +kernel, T.x_InvalidOperation.no "place" (by decide), rfl, hdd⟩))
  obtain ⟨is, exm⟩ := facts x hx
  have m1 : ("InvalidTick" : Str) ∈ XS := by decide +kernel
  have m2 : ("InvalidNumber" : Str) ∈ XS := by decide +kernel
  have m3 : ("InvalidDigits" : Str) ∈ XS := by decide +kernel
  have m4 : ("TooMany" : Str) ∈ XS := by decide +kernel
  have m5 : ("InvalidLimit" : Str) ∈ XS := by decide +kernel
  have m6 : ("Contradiction" : Str) ∈ XS := by decide +kernel
  have m7 : ("InvalidName" : Str) ∈ XS := by decide +kernel
  have m8 : ("UnknownName" : Str) ∈ XS := by decide +kernel
  have m9 : ("InvalidHall" : Str) ∈ XS := by decide +kernel
  have m10 : ("TextFault" : Str) ∈ XS := by decide +kernel
  have m11 : ("InvalidCode" : Str) ∈ XS := by decide +kernel
  have m12 : ("InvalidOperation" : Str) ∈ XS := by decide +kernel
  obtain ⟨c1, c2, c3, c4, c5⟩ := Ex.kds_one x hx
  refine ⟨true, exm, fun _ a ha => ?_, fun q => by cases q⟩
  walk_at "rd"
  rename_i p5 H5 n5 S5 hp5
  have hp5 : H5 p5 = some (.lst (Ex.kds x)) := hp5
  refine Rd.cntF (n := 1) (SqL.of hp5) rfl c2 c1 ?_
  walk_at "rd"
  refine Rd.nT rfl ?_
  walk_at "rd"
  refine Rd.idxF (j := Ex.ix x) (z := .bl true) (ys := Ex.kds x) ?_ rfl c2 c3 rfl c4 ?_
  · exact (by walk_at "sql")
  walk_at "rd"
  have vs : ∀ {a b : Str}, a ≠ b → ¬ V.str a = V.str b := fun h q => h (by injection q)
  refine Rd.ixL (xs := Ex.lbV) ?_ (atn hn) ?_
  · exact (by walk_at "sql")
  rcases kind with ⟨rfl, k1, k2, k3⟩ | ⟨y, i, dd, rfl, rfl, rfl, rfl, hdd⟩ | ⟨i, dd, rfl, rfl, rfl, rfl, hdd⟩ | ⟨i, dd, rfl, k1, k2, k3, hno, rfl, hdd⟩
  · walk_at "rd"
    refine Rd.dF (vs k1) ?_
    walk_at "rd"
    refine Rd.dF (vs k2) ?_
    walk_at "rd"
    refine Rd.inS (xs := [.str "code", .str "operation"]) (.inl (by walk_at "sql")) rfl rfl ?_
    rw [k3]
    refine Rd.toB_i (Rd.iff ?_)
    walk_at "rd"
    rename_i r H9 n9 S9 hr
    exact k r _ (by walk_at "same") (.tup (by walk_at "sqt") (.cons (.str _) (.cons (.int _) .nil)))
  · walk_at "rd"
    refine Rd.xfE1 (fs := [("index", .int i), ("part", .str y)]) is (T.x_InvalidHall.no "part" (by decide)) rfl ?_ rfl ?_
    · exact (by walk_at "hp")
    refine Rd.xfE1 (fs := [("index", .int i), ("part", .str y)]) is (T.x_InvalidHall.no "index" (by decide)) rfl ?_ rfl ?_
    · exact (by walk_at "hp")
    walk_at "rd"
    rename_i t H9 n9 S9 ht r H10 n10 S10 hr
    exact k r _ (by walk_at "same") (.tup (by walk_at "sqt") (.cons (.str _) (.cons (.tup (by walk_at "sqt") (.cons (.str _) (.cons (.int _) .nil))) .nil)))
  · walk_at "rd"
    refine Rd.dF (by decide) ?_
    walk_at "rd"
    refine Rd.xfE1 (fs := [("line", .int i)]) is (T.x_TextFault.no "line" (by decide)) rfl ?_ rfl ?_
    · exact (by walk_at "hp")
    walk_at "rd"
    rename_i r H10 n10 S10 hr
    exact k r _ (by walk_at "same") (.tup (by walk_at "sqt") (.cons (.str _) (.cons (.int _) .nil)))
  · walk_at "rd"
    refine Rd.dF (vs k1) ?_
    walk_at "rd"
    refine Rd.dF (vs k2) ?_
    walk_at "rd"
    refine Rd.inS (xs := [.str "code", .str "operation"]) (.inl (by walk_at "sql")) rfl rfl ?_
    rw [k3]
    refine Rd.toB_i (Rd.ift ?_)
    refine Rd.xfE1 (fs := [("place", .int i)]) is hno rfl ?_ rfl ?_
    · exact (by walk_at "hp")
    walk_at "rd"
    rename_i r H10 n10 S10 hr
    exact k r _ (by walk_at "same") (.tup (by walk_at "sqt") (.cons (.str _) (.cons (.int _) .nil)))
end Tk

end

/-! ### A law that makes functions itself -/
namespace Tk
open PySem PySem.Spec PyProof.Rows L2 LamX
theorem okLawC {P : Program} {w : World} {K : PySem.W.Frag} {mg : Str → Option Value} {base : Heap} {x qual : Str} {st : Stmt} {f : Addr} {fd : FuncData} {N ps : List Str} {k : Nat} {sp : Sp} (F : FnP K x qual st f fd) (S : FnScope N ps (defScope st)) (len : ∀ vs H Q E, sp vs H Q E → vs.length = ps.length)
    (hbody : ∀ (cdv : Value) (A : Around) (outer : List Env) (s : Shared) (H : Hp) (vs : List V) (Q : VK) (E : XK), cdv = .ref (codeAt K f) → Room k (A.deeper (envOfC qual (defScope st) s.heap.objs.size f cdv)) → sp vs H Q E →
      ∃ t, PSs (cxOf CX0 P w K mg base N qual (defScope st) f cdv A outer s H E).nox (defBody st) t ∧ t { nx := fun _ H' => Q .non H', rt := Q } (start N vs) H) : FnOk P w K mg base CX0 (k + 1) f fd ps sp := by
  obtain ⟨oc, od, dV, kV, doc, pm, an, cdv, ct, osl, rfl, lk, hcd, _, _⟩ := F.ex
  exact fn_of lk hcd S len fun A outer s H vs Q E hr hsp => by
    obtain ⟨t, h1, h2⟩ := hbody cdv A outer s H vs Q E (codeAt_eq lk rfl hcd) hr hsp
    exact ⟨t, h1.nox, h2⟩
/-- a block in a lambda: of the scope only the names count -/
theorem blkNm {N : List Str} {sc sc' scope : Scope} {own : List (Str × Nat)} (h : BlkOk N sc scope own) (e : sc'.names = sc.names) : BlkOk N sc' scope own :=
  ⟨h.kind, h.uniq, h.ix, fun y hy f => by rw [e]; exact h.free y hy f, h.own⟩
theorem bd__law_error_of : ∀ (kV doc pm : Value) (an : Option Addr) (cdv ct : Value) (us : List Value), us.length = 1 → bindArgs (PySem.W.fnOf "_law_error_of" "_law_error_of" (defArgs s__law_error_of) (defBody s__law_error_of) (defScope s__law_error_of) .none kV doc pm an cdv ct) ⟨us, []⟩ = pure ((["_law_call"] : List Str).zip us) :=
  fun _ _ _ _ _ _ us hl => match us, hl with | [_], _ => rfl
end Tk

/-! ### Errors with attributes: their __init__ -/
namespace Tk
open PySem PySem.Spec PyProof.Rows L2
namespace Ex
theorem supFn_of {P : Program} {K : PySem.W.Frag} {mg : Str → Option Value} {C a : Addr} {qual : Str} {params : Arguments} {body : List Stmt} {scope : Scope} (hP : PF P) (I : InitAt K a C qual params body scope FILE) (S : SupC K C) (hm : mg "super" = none) : SupFn P K mg C a qual params body scope := by
  obtain ⟨kp, od, doc, pm, ctv, an, osl, c, cc, oc, ocl, vs, tf, h1, h2, h3, h4, h5, h6, h7⟩ := I
  exact ⟨⟨od, doc, pm, ctv, an, osl, c, cc, oc, ocl, vs, tf, h1, h2, h3, h4, by rw [hP.file]; exact h5, h6, h7⟩, kp, S, hm, hP.top⟩
end Ex
section
variable {P : Program} {w : World} {K : PySem.W.Frag} {mg : Str → Option Value} {base : Heap}
theorem ok_xi_InvalidCode (T : Txt K mg) (hP : Ex.PF P) : OkF P w K mg base 2 (He.ma K (He.ga K "InvalidCode") "__init__") ["self", "place"] (Ex.spIni1 (He.ga K "InvalidCode") "place") := by
  refine Ex.ok_sup (n := 1) (Ex.supFn_of hP T.f_xi_InvalidCode T.x_InvalidCode.sup T.g_super) sc_xi_InvalidCode rfl rfl rfl (by decide +kernel) (by decide +kernel) rfl rfl rfl (fun doc pm ctv an c cc us hl => ?_) (fun vs H Q E h => ?_) (fun c cc A outer s H vs Q E hr h => ?_) (fun c cc A outer s H E => ⟨_, rfl⟩) (fun _ => rfl)
  · match us, hl with
    | [_, _], _ => rfl
  · obtain ⟨x, i, rfl, _⟩ := h
    rfl
  obtain ⟨x, i, rfl, hx, hi, hl, k⟩ := h
  refine ⟨x, [.int i], _, _, rfl, hx, (pe_joined (.cons pe_str (.cons (pe_fmt (pv 1)) .nil))), (pss_cons (ps_ost (pv 0) (pv 1)) pss_nil), ?_⟩
  refine ⟨_, rfl, Nat.le_trans (m := 1000) (by decide +kernel) (by decide), .int i, rfl, .inr ⟨i, rfl, hi, ?_⟩⟩
  refine ⟨_, rfl, ?_, ?_⟩
  · rw [PySem.Str.length_append]
    have : (Str.empty ++ ("invalid byte at " : Str)).length ≤ 1000 := by decide +kernel
    rw [sizeLine_eq]
    omega
  refine ⟨by show 1 ≤ 1000; decide, hx, ?_⟩
  exact ⟨.int i, rfl, .ref x, rfl, x, _, rfl, T.x_InvalidCode.sup.oex, T.x_InvalidCode.no "place" (by decide), .inl ⟨hx, fun dx n ne => k dx n ne⟩⟩
theorem ok_xi_InvalidHall (T : Txt K mg) (hP : Ex.PF P) : OkF P w K mg base 2 (He.ma K (He.ga K "InvalidHall") "__init__") ["self", "part", "index"] (Ex.spIni2 (He.ga K "InvalidHall") "part" "index") := by
  refine Ex.ok_sup (n := 2) (Ex.supFn_of hP T.f_xi_InvalidHall T.x_InvalidHall.sup T.g_super) sc_xi_InvalidHall rfl rfl rfl (by decide +kernel) (by decide +kernel) rfl rfl rfl (fun doc pm ctv an c cc us hl => ?_) (fun vs H Q E h => ?_) (fun c cc A outer s H vs Q E hr h => ?_) (fun c cc A outer s H E => ⟨_, rfl⟩) (fun _ => rfl)
  · match us, hl with
    | [_, _, _], _ => rfl
  · obtain ⟨x, y, i, rfl, _⟩ := h
    rfl
  obtain ⟨x, y, i, rfl, hx, hy, hi, hl, k⟩ := h
  refine ⟨x, [.str y, .int i], _, _, rfl, hx, (pe_joined (.cons pe_str (.cons (pe_fmt (pv 1)) (.cons pe_str (.cons (pe_fmt (pv 2)) .nil))))), (pss_cons (ps_ost (pv 0) (pv 1)) (pss_cons (ps_ost (pv 0) (pv 2)) pss_nil)), ?_⟩
  have l1 : (Str.empty ++ ("invalid " : Str)).length ≤ 1000 := by decide +kernel
  have l2 : (", at item " : Str).length ≤ 1000 := by decide +kernel
  refine ⟨_, rfl, Nat.le_trans l1 (by decide), .str y, rfl, .inl ⟨y, rfl, Nat.le_trans hy (by decide), ?_⟩⟩
  refine ⟨_, rfl, ?_, ?_⟩
  · rw [PySem.Str.length_append, sizeLine_eq]
    omega
  refine ⟨_, rfl, ?_, .int i, rfl, .inr ⟨i, rfl, hi, ?_⟩⟩
  · rw [PySem.Str.length_append, PySem.Str.length_append, sizeLine_eq]
    omega
  refine ⟨_, rfl, ?_, ?_⟩
  · rw [PySem.Str.length_append, PySem.Str.length_append, PySem.Str.length_append, sizeLine_eq]
    omega
  refine ⟨by show 1 ≤ 1000; decide, hx, ?_⟩
  refine ⟨.str y, rfl, .ref x, rfl, x, _, rfl, T.x_InvalidHall.sup.oex, T.x_InvalidHall.no "part" (by decide), .inl ⟨hx, fun dx n ne => ?_⟩⟩
  exact ⟨.int i, rfl, .ref x, rfl, x, _, rfl, T.x_InvalidHall.sup.oex, T.x_InvalidHall.no "index" (by decide), .inr ⟨dx, [("part", .str y)], upd_same, by rw [upd_ne ne, upd_same], by show 1 ≤ 900; decide, k dx n ne⟩⟩
end
end Tk

/-! ### Texts of numbers -/
namespace Tx
open PySem PySem.Spec PyProof.Rows L2 TL
/-- a number's text -/
abbrev nS (n : Nat) : Str := Str.ofString (toString ((n : Nat) : Int))
theorem digit_c : ∀ c : Nat, 48 ≤ c → c ≤ 57 → Unicode.isDigit c = true := by
  intro c h1 h2
  have : c = 48 ∨ c = 49 ∨ c = 50 ∨ c = 51 ∨ c = 52 ∨ c = 53 ∨ c = 54 ∨ c = 55 ∨ c = 56 ∨ c = 57 := by omega
  rcases this with h | h | h | h | h | h | h | h | h | h <;> subst h <;> decide +kernel
theorem num_digit (n : Nat) : Txt.isdigit (nS n) = true := by
  unfold Txt.isdigit
  have l : (nS n).length > 0 := by
    rw [len_tl, tl_num]
    exact List.length_pos_iff.mpr (numL_ne n)
  rw [Bool.and_eq_true]
  refine ⟨decide_eq_true l, ?_⟩
  rw [← Array.all_toList]
  refine List.all_eq_true.mpr fun c hc => ?_
  have r := numL_digits n c (by rw [← tl_num]; exact hc)
  exact digit_c c r.1 r.2
theorem num_ascii (n : Nat) : Txt.isascii (nS n) = true := by
  unfold Txt.isascii
  rw [← Array.all_toList]
  refine List.all_eq_true.mpr fun c hc => ?_
  have r := numL_digits n c (by rw [← tl_num]; exact hc)
  exact decide_eq_true (by omega)
theorem num_len {n : Nat} (h : n ≤ 10000) : (nS n).length ≤ 5 := by
  rw [len_tl, tl_num]
  exact numL_len (by omega) (by omega)
/-- the first sign of a number that is not 0 -/
theorem head_num : ∀ {n : Nat}, 0 < n → ∃ c r, numL n = c :: r ∧ c ≠ 48 := by
  intro n
  induction n using Nat.strongRecOn with
  | _ n ih =>
    intro h
    by_cases q : n < 10
    · exact ⟨48 + n, [], numL_lt q, by omega⟩
    · obtain ⟨c, r, e, hc⟩ := ih (n / 10) (by omega) (by omega)
      rw [numL_step (by omega), e]
      exact ⟨c, _, rfl, hc⟩
theorem num_zero {n : Nat} : nS n = "0" ↔ n = 0 := by
  constructor
  · intro e
    have z := congrArg tl e
    rw [tl_num] at z
    have z2 : numL n = numL 0 := z.trans (by rw [numL_lt (by omega)]; rfl)
    exact numL_inj z2
  · intro e
    rw [e]
    rfl
theorem not_starts {n : Nat} (h : 0 < n) : Txt.startswith (nS n) "0" = false := by
  obtain ⟨c, r, e, hc⟩ := head_num h
  have e2 : nS n = SX.S (c :: r) := by
    show Str.ofString (toString ((n : Nat) : Int)) = _
    rw [SX.num_S, e]
  rw [e2]
  unfold Txt.startswith
  have : PySem.Builtin.Str.subAt (SX.S (c :: r)) "0" 0 = false := by
    unfold PySem.Builtin.Str.subAt
    refine beq_eq_false_iff_ne.mpr fun q => ?_
    have q2 := congrArg Array.toList q
    have q3 : ((c :: r).toArray.extract 0 (0 + 1)).toList = [48] := q2
    simp at q3
    exact hc q3
  rw [this, Bool.and_false]
/-- a line of a word and numbers -/
def ln (w : Str) (ns : List Nat) : Str := Txt.join " " (w :: ns.map nS)
theorem tl_sp : tl " " = [32] := by decide +kernel
theorem tl_lf : tl "\n" = [10] := by decide +kernel
theorem ln_split {w : Str} {ns : List Nat} (hw : 32 ∉ tl w) : Txt.split (ln w ns) " " = w :: ns.map nS :=
  split_join (s := 32) (S := []) tl_sp (by decide +kernel) (by simp) fun p hp => by
    rcases List.mem_cons.mp hp with e | e
    · rw [e]
      exact hw
    · obtain ⟨n, _, rfl⟩ := List.mem_map.mp e
      rw [tl_num]
      exact numL_free (.inl (by omega))
theorem mem_joinL {S : List Nat} : ∀ {ps : List (List Nat)} {c : Nat}, c ∈ joinL S ps → c ∈ S ∨ ∃ p ∈ ps, c ∈ p
  | [], c, h => by cases h
  | [p], c, h => .inr ⟨p, List.mem_singleton.mpr rfl, h⟩
  | p :: q :: r, c, h => by
    rcases List.mem_append.mp (show c ∈ p ++ (S ++ joinL S (q :: r)) from h) with h | h
    · exact .inr ⟨p, List.mem_cons_self, h⟩
    · rcases List.mem_append.mp h with h | h
      · exact .inl h
      · rcases mem_joinL h with h | ⟨z, hz, h⟩
        · exact .inl h
        · exact .inr ⟨z, List.mem_cons_of_mem _ hz, h⟩
theorem tl_ln (w : Str) (ns : List Nat) : tl (ln w ns) = joinL [32] (tl w :: ns.map numL) := by
  unfold ln
  rw [join_eq, tl_join, tl_sp, List.map_cons, List.map_map]
  congr 2
  exact List.map_congr_left fun n _ => tl_num n
theorem ln_free {w : Str} {ns : List Nat} (hw : 10 ∉ tl w) : 10 ∉ tl (ln w ns) := fun h => by
  rw [tl_ln] at h
  rcases mem_joinL h with h | ⟨p, hp, h⟩
  · simp at h
  · rcases List.mem_cons.mp hp with e | e
    · exact hw (e ▸ h)
    · obtain ⟨n, _, rfl⟩ := List.mem_map.mp e
      exact numL_free (.inl (by omega)) h
theorem joinL_len {S : List Nat} : ∀ {ps : List (List Nat)}, (joinL S ps).length ≤ (ps.map List.length).sum + ps.length * S.length
  | [] => by simp [joinL]
  | [p] => by simp [joinL]
  | p :: q :: r => by
    have ih := @joinL_len S (q :: r)
    have e : (joinL S (p :: q :: r)).length = p.length + (S.length + (joinL S (q :: r)).length) := by
      show (p ++ (S ++ joinL S (q :: r))).length = _
      rw [List.length_append, List.length_append]
    rw [e, List.map_cons, List.sum_cons, List.length_cons (a := p), Nat.succ_mul]
    omega
theorem sum_len {ns : List Nat} (h : ∀ n ∈ ns, n ≤ 10000) : ((ns.map numL).map List.length).sum ≤ 5 * ns.length := by
  induction ns with
  | nil => exact Nat.le_refl _
  | cons a r ih =>
    have h1 := ih fun n hn => h n (List.mem_cons_of_mem _ hn)
    have h2 : (numL a).length ≤ 5 := numL_len (by omega) (by have := h a List.mem_cons_self; omega)
    rw [List.map_cons, List.map_cons, List.sum_cons, List.length_cons]
    omega
theorem ln_len {w : Str} {ns : List Nat} (h1 : w.length ≤ 8) (h2 : ns.length ≤ 12) (h3 : ∀ n ∈ ns, n ≤ 10000) : (ln w ns).length ≤ 81 := by
  rw [len_tl, tl_ln]
  have a := @joinL_len [32] (tl w :: ns.map numL)
  have b := sum_len h3
  have c := len_tl w
  rw [List.map_cons, List.sum_cons, List.length_cons, List.length_map] at a
  have d : [32].length = 1 := rfl
  rw [d] at a
  omega
/-- the parts' lengths, joined by a space -/
theorem ln_size {w : Str} {ns : List Nat} (h1 : w.length ≤ 8) (h2 : ns.length ≤ 12) (h3 : ∀ n ∈ ns, n ≤ 10000) : ((w :: ns.map nS).map (·.length)).sum + (w :: ns.map nS).length * (" " : Str).length ≤ 16777216 := by
  have b := sum_len h3
  have e : (ns.map nS).map (·.length) = (ns.map numL).map List.length := by
    rw [List.map_map, List.map_map]
    refine List.map_congr_left fun n _ => ?_
    show (nS n).length = (numL n).length
    rw [len_tl, tl_num]
  have d : (" " : Str).length = 1 := by decide +kernel
  rw [List.map_cons, List.sum_cons, List.length_cons, List.length_map, e, d]
  omega
theorem ns_size {ns : List Nat} (h2 : ns.length ≤ 12) (h3 : ∀ n ∈ ns, n ≤ 10000) : ((ns.map nS).map (·.length)).sum + (ns.map nS).length * (" " : Str).length ≤ 16777216 := by
  have z := ln_size (w := "") (by decide +kernel) h2 h3
  rw [List.map_cons, List.sum_cons, List.length_cons, Nat.succ_mul] at z
  omega
theorem ln_glue {w : Str} {ns : List Nat} (h : ns ≠ []) : w ++ " " ++ Txt.join " " (ns.map nS) = ln w ns := by
  refine ext_tl ?_
  unfold ln
  rw [tl_append, tl_append, join_eq, join_eq, tl_join, tl_join, tl_sp]
  cases ns with
  | nil => exact absurd rfl h
  | cons a r =>
    show tl w ++ [32] ++ joinL [32] (((a :: r).map nS).map tl) = tl w ++ ([32] ++ joinL [32] (((a :: r).map nS).map tl))
    rw [List.append_assoc]
theorem ns_len {ns : List Nat} (h2 : ns.length ≤ 12) (h3 : ∀ n ∈ ns, n ≤ 10000) : (Txt.join " " (ns.map nS)).length ≤ 81 := by
  rw [len_tl, join_eq, tl_join, tl_sp]
  have a := @joinL_len [32] ((ns.map nS).map tl)
  have b := sum_len h3
  have e : (ns.map nS).map tl = ns.map numL := by
    rw [List.map_map]
    exact List.map_congr_left fun n _ => tl_num n
  rw [e, List.length_map] at a
  rw [e]
  have d : [32].length = 1 := rfl
  rw [d] at a
  omega
/-- the lines of a hall, its text -/
def lns (m : Nat) (tk cl : List Nat) (lt : Nat) : List Str := [ln "modulus" [m], ln "takes" tk, ln "calls" cl, ln "lateness" [lt]]
def txt (m : Nat) (tk cl : List Nat) (lt : Nat) : Str := Txt.join "\n" (lns m tk cl lt)
theorem txt_split {m : Nat} {tk cl : List Nat} {lt : Nat} : Txt.split (txt m tk cl lt) "\n" = lns m tk cl lt :=
  split_join (s := 10) (S := []) tl_lf (by decide +kernel) (by simp [lns]) fun p hp => by
    simp only [lns, List.mem_cons, List.not_mem_nil, or_false] at hp
    rcases hp with rfl | rfl | rfl | rfl <;> exact ln_free (by decide +kernel)
theorem lns_size {m : Nat} {tk cl : List Nat} {lt : Nat} (h1 : m ≤ 10000) (h2 : tk.length ≤ 12) (h3 : ∀ n ∈ tk, n ≤ 10000) (h4 : cl.length ≤ 12) (h5 : ∀ n ∈ cl, n ≤ 10000) (h6 : lt ≤ 10000) :
    ((lns m tk cl lt).map (·.length)).sum + (lns m tk cl lt).length * ("\n" : Str).length ≤ 400 := by
  have a1 := ln_len (w := "modulus") (ns := [m]) (by decide +kernel) (by simp) (by simp; exact h1)
  have a2 := ln_len (w := "takes") (by decide +kernel) h2 h3
  have a3 := ln_len (w := "calls") (by decide +kernel) h4 h5
  have a4 := ln_len (w := "lateness") (ns := [lt]) (by decide +kernel) (by simp) (by simp; exact h6)
  have d : ("\n" : Str).length = 1 := by decide +kernel
  simp only [lns, List.map_cons, List.map_nil, List.sum_cons, List.sum_nil, List.length_cons, List.length_nil, d]
  omega
theorem txt_len {m : Nat} {tk cl : List Nat} {lt : Nat} (h1 : m ≤ 10000) (h2 : tk.length ≤ 12) (h3 : ∀ n ∈ tk, n ≤ 10000) (h4 : cl.length ≤ 12) (h5 : ∀ n ∈ cl, n ≤ 10000) (h6 : lt ≤ 10000) : (txt m tk cl lt).length ≤ 400 := by
  have z := lns_size h1 h2 h3 h4 h5 h6
  have a := @joinL_len [10] ((lns m tk cl lt).map tl)
  unfold txt
  rw [len_tl, join_eq, tl_join, tl_lf]
  have e : ((lns m tk cl lt).map tl).map List.length = (lns m tk cl lt).map (·.length) := by
    rw [List.map_map]
    exact List.map_congr_left fun x _ => (len_tl x).symm
  rw [e, List.length_map] at a
  have d : ("\n" : Str).length = 1 := by decide +kernel
  rw [d] at z
  have d2 : [10].length = 1 := rfl
  rw [d2] at a
  omega
end Tx

/-! ### word, *rest = a list; cls(..) by a local name -/
namespace Tk
open PySem PySem.Spec PyProof.Rows L2
section
variable {X : Cx}
theorem unpack_rest {P : Program} {w : World} {A : Around} {E : Value → Shared → Prop} {s : Shared} {l : Addr} {v0 : Value} {vr : List Value} {Q : List Value → Shared → Prop} (hl : s.heap.IsList l (v0 :: vr).toArray) (hh : A.handled = none) (hz : vr.length + 1 ≤ 16384)
    (h : ∀ D h' tk, (∀ b u, s.heap.get? b = some u → h'.get? b = some u) → s.heap.get? D = none → h'.get? D = some { cls := .type "list", data := .seq vr.toArray } → Q [v0, .ref D] { s with heap := h', toks := tk }) :
    wpAny (model P w) A (unpackItems (.ref l) 2 (some 1)) Q E s := by
  have lsz : l < s.heap.objs.size := hl.elim fun o ho => Heap.lt_size ho.1
  have lne : l ≠ s.heap.objs.size := Nat.ne_of_lt lsz
  unfold unpackItems notIterableAtAll
  refine wpAny_bind (wpAny_bind (wpAny_specialOf hl.typeIs slot_list_iter.lookup (wpAny_pure ?_)))
  simp only [Bool.false_eq_true, if_false]
  refine wpAny_bind (wpAny_holding (wpAny_pyIter_list hl (wpAny_bind (wpAny_holding (PySem.W.kun_draw lne 1 0 _ _ ⟨_, Heap.get?_push_size _ rfl, rfl, rfl⟩ (hl.push _) (by simp) fun g1 it1 sb1 => ?_)))))
  have lst1 : g1.IsList l (v0 :: vr).toArray := (hl.push _).extBut sb1.extBut lne
  have one : ((v0 :: vr).toArray.toList.drop 0).take 1 = [v0] := by simp
  rw [one]
  show wpAny _ _ (if ([v0] : List Value).length < 1 then _ else _) _ _ _
  rw [if_neg (by simp)]
  rw [Nat.zero_add] at it1
  have itlt : s.heap.objs.size < g1.objs.size := it1.elim fun o ho => Heap.lt_size ho.1
  have llt : l < g1.objs.size := lst1.elim fun o ho => Heap.lt_size ho.1
  refine wpAny_bind (wpAny_holding (wpAny_collect_iter (s := { s with heap := g1 }) (T := "list_iterator") (.inr (.inr (.inl rfl))) (PySem.W.kun_shift (k := 1) (Walks.list (A := A.in1) hh s.heap.objs.size l lne (v0 :: vr).toArray) (by simp)).toS (fun j u st => st.1.typeIs) ⟨it1, lst1⟩
    (fun b hb => by rcases List.mem_cons.mp hb with e | e; · rw [e]; exact itlt
                    · rw [List.mem_singleton.mp e]; exact llt) (List.mem_cons_self ..) (fun s2 acc mv ia => ?_) (by simp [sizeLine_eq]; omega)))
  obtain ⟨g2, n2, d2, tk, o2⟩ := s2
  obtain ⟨kp, m2, m3, m4, m5⟩ := mv
  rw [PySem.W.kun_acc (by simp) ia]
  have rest : (v0 :: vr).toArray.toList.drop 1 = vr := by simp
  rw [rest]
  show wpAny _ _ (if vr.length < 2 - 1 - 1 then _ else _) _ _ _
  rw [if_neg (by omega)]
  have e1 : vr.take (vr.length - (2 - 1 - 1)) = vr := by simp
  have e2 : vr.drop (vr.length - (2 - 1 - 1)) = [] := by simp
  show wpAny _ _ (newList (vr.take (vr.length - (2 - 1 - 1))) >>= fun D => pure ([v0] ++ [D] ++ vr.drop (vr.length - (2 - 1 - 1)))) _ _ _
  rw [e1, e2]
  have m2 : n2 = s.gens := m2
  have m3 : d2 = s.drawn := m3
  have m4 : o2 = s.os := m4
  rw [m2, m3, m4]
  have old : ∀ b u, s.heap.get? b = some u → g2.get? b = some u := fun b u e => by
    have nb : b ≠ s.heap.objs.size := Nat.ne_of_lt (Heap.lt_size e)
    exact kp b u (by simpa using nb) (sb1.extBut b u nb (Heap.get?_push_of_some _ e))
  have new : s.heap.get? g2.objs.size = none := by
    cases e : s.heap.get? g2.objs.size with
    | none => rfl
    | some o => exact absurd (Heap.lt_size (old _ o e)) (Nat.lt_irrefl _)
  exact wpAny_bind (wpAny_newList (wpAny_pure (h g2.objs.size _ tk (fun b u e => Heap.get?_push_of_some _ (old b u e)) new (Heap.get?_push_size _ rfl))))
def gStar (K : PySem.W.Frag) (t : TG) (u : TG) : TG := fun v σ H Q => ∃ l x xs, v = .ref l ∧ SqL K H l (x :: xs) ∧ xs.length + 1 ≤ 16384 ∧ ∀ D, H D = none → t x σ (upd H D (.lst xs)) fun σ1 H1 => u (.ref D) σ1 H1 Q
theorem pg_star {e1 e2 : Expr} {k : Nat} {pos sp : Pos} {t u : TG} (hc : X.calm = true) (h1 : PG X e1 t) (h2 : PG X e2 u)
    (ha : assignEach [e1, .Starred e2 sp] X.env = [(false, assign e1 X.env), (true, assign e2 X.env)] := by rfl) : PG X (.Tuple [e1, .Starred e2 sp] k pos) (gStar X.K t u) := by
  refine ⟨fun pins s σ H v w Q I r hw => ?_⟩
  obtain ⟨l, x, xs, rfl, hq, hz, hw⟩ := hw
  obtain rfl : w = Value.ref l := r
  obtain ⟨its, rv, hl, _⟩ := I.list hq
  cases rv with
  | @cons _ v0 _ vr r0 rr =>
  rw [assign_Tuple]
  refine wpAny_bind (wpAny_standAt ?_)
  unfold unpack
  rw [ha]
  have hlen := rr.length
  refine wpAny_bind (wpAny_holding (unpack_rest hl.isList (I.ok.hd hc) (by omega) fun D h' tk k new hD => ?_))
  have nD := HOk.gone I.hok new
  have I1 : Inv X pins σ (upd H D (.lst xs)) { s with heap := h', toks := tk } := I.laidN k new nD ⟨by rw [sizeLine_eq]; omega, vr, _, rr, hD⟩
  refine assignInOrder_cons (thn (h1.run pins _ σ _ x v0 _ I1 r0 (hw D nD)) fun _ s2 ⟨σ2, H2, I2, q2⟩ => ?_)
  exact assignInOrder_cons (thn (h2.run pins s2 σ2 H2 (.ref D) (.ref D) _ I2 rfl q2) fun _ s3 ⟨σ3, H3, I3, q3⟩ => assignInOrder_nil ⟨σ3, H3, I3, q3⟩)
/-- x(e, ..), the i-th slot holds the class at C -/
theorem pe_makeL {CX : CXT} {k i : Nat} {C f : Addr} {fd : FuncData} {ps : List Str} {sp : Sp} {dvs : List V} {ds : List Value} {E : XK} {x : Str} {p pos : Pos} {e : Expr} {es : List Expr} {t : TA} (M : Mk X.K C f) (F : FnOk X.prog X.w X.K X.mg X.base CX k f fd ps sp) (hr : Room (k + 1) X.A)
    (hN : X.N[i]? = some x) (hv : Vis X.env.scope x) (hb : Binds X.K fd ps ds) (hd : Vals dvs ds) (hx : Passes CX X E) (ha : PA X (e :: es) t) (hdb : (x == ("__debug__" : Str)) = false := by decide) (hcd : (x == ("__classdict__" : Str)) = false := by decide)
    (he : starEach (e :: es) X.env = (false, eval e X.env) :: starEach es X.env := by rfl) (hpl : (backTo pos (starEach es X.env)).any (·.1) = false := by rfl) :
    PE X (.Call (.Name x p) (e :: es) [] pos) (fun σ H Q => σ[i]? = some (some (.ref C)) ∧ tMake C sp dvs E t σ H Q) := by
  refine ⟨fun pins s σ H Q I h => ?_⟩
  obtain ⟨hs, h⟩ := h
  refine wpAny_Call_Name_kw (thn ((pe_var (pos := p) (i := i) hN hv hdb hcd).run pins s σ H (fun v H1 => v = .ref C ∧ H1 = H) I ⟨.ref C, hs, rfl, rfl⟩) fun u s1 ⟨v, H1, I1, r1, z1, z2⟩ => ?_)
  subst z1 z2
  obtain rfl : u = Value.ref C := r1
  refine PySem.W.callWith_K (h₀ := X.base) I1.ok.mod.kin M.kp (thn (ha.run pos pins s1 σ _ _ I1 h) fun us s2 ⟨vs, H2, I2, r, q⟩ => ⟨I2.kIn, ?_⟩) he hpl
  exact run_make M F hr hb hd hx I2 r q
end
end Tk

/-! ### The program's texts -/
namespace Tk
open PySem PySem.Spec PyProof.Rows L2 Mm
/-- a comprehension over zip of two tuples -/
theorem lc_zipT {K : PySem.W.Frag} {a b : Addr} {xs ys : List V} {g : TG} {tt : L2.TT} {te : TE} {vs : List Nat} {σ : L2.St} {H1 : Hp} {D : Addr} {Qd : Hp → Prop} (hl : xs.length = ys.length) (Pv : Nat → Hp → Prop) (h0 : Pv 0 (upd H1 D (.lst []))) (hq : ∀ i H, i ≤ xs.length → Pv i H → SqT K H a xs ∧ SqT K H b ys)
    (hs : ∀ i x y T H, xs[i]? = some x → ys[i]? = some y → Pv i H → H T = none → g (.ref T) (wipe σ vs) (upd H T (.tup [x, y])) fun σ2 H2 => wipe σ2 vs = wipe σ vs ∧ tt σ2 H2 fun b H3 =>
      if b = true then te σ2 H3 fun y H4 => ∃ acc, H4 D = some (.lst acc) ∧ acc.length < sizeLine ∧ Pv (i + 1) (upd H4 D (.lst (acc ++ [y]))) else Pv (i + 1) H3) (hd : ∀ H, Pv xs.length H → Qd H) :
    ∃ W : Nat → Nat → Hp → Prop, (∃ m, W 0 m (upd H1 D (.lst []))) ∧ ∀ i m H, W i m H →
      ((RZ.ItzT K a b).stop i H ∧ Qd H) ∨ ((RZ.ItzT K a b).go i H ∧ ∃ Nx : Hp → Prop, (∀ H', Nx H' → ∃ m', m' < m ∧ W (i + 1) m' H') ∧ ∀ x H', (RZ.ItzT K a b).yld i H x H' → g x (wipe σ vs) H' fun σ2 H2 => wipe σ2 vs = wipe σ vs ∧ tt σ2 H2 fun b H3 =>
        if b = true then te σ2 H3 fun y H4 => ∃ acc, H4 D = some (.lst acc) ∧ acc.length < sizeLine ∧ Nx (upd H4 D (.lst (acc ++ [y]))) else Nx H3) := by
  refine ⟨fun i m H => m = xs.length - i ∧ i ≤ xs.length ∧ Pv i H, ⟨xs.length, by simp, Nat.zero_le _, h0⟩, ?_⟩
  rintro i m H ⟨rfl, hi, p⟩
  obtain ⟨qx, qy⟩ := hq i H hi p
  by_cases hlt : i < xs.length
  · have hx : xs[i]? = some xs[i] := List.getElem?_eq_getElem hlt
    have hlt2 : i < ys.length := by omega
    have hy : ys[i]? = some ys[i] := List.getElem?_eq_getElem hlt2
    refine .inr ⟨⟨xs, ys, _, _, qx, qy, hx, hy⟩, Pv (i + 1), fun H' p' => ⟨xs.length - (i + 1), by omega, rfl, hlt, p'⟩, fun v H' y => ?_⟩
    obtain ⟨T, x', y', rfl, hT, rfl, f1, f2⟩ := y
    exact hs i x' y' T H (f1 xs qx) (f2 ys qy) p hT
  · have e : i = xs.length := by omega
    subst e
    exact .inl ⟨⟨xs, ys, qx, qy, Or.inl (Nat.le_refl _)⟩, hd H p⟩
theorem lc_zpT {K : PySem.W.Frag} {H : Hp} {Q : VK} {σ : L2.St} {te : TE} {a b : Addr} {xs ys : List V} {vs : List Nat} {i j : Nat} (f : Nat → V) (hl : xs.length = ys.length) (ha : SqT K H a xs) (hb : SqT K H b ys) (hn : xs.length ≤ 100000)
    (hw : ∀ x y : V, wipe (((wipe σ vs).set i (some x)).set j (some y)) vs = wipe σ vs) (hs : ∀ (n : Nat) x y, xs[n]? = some x → ys[n]? = some y → ∀ H', Same H H' → ∀ Q' : VK, (∀ H'', Same H' H'' → Q' (f n) H'') → te (((wipe σ vs).set i (some x)).set j (some y)) H' Q')
    (k : ∀ D H', H D = none → Same H H' → H' D = some (.lst ((List.range xs.length).map f)) → Q (.ref D) H') : Rd.lcK (gTup K 2 (gCons (gName i) (gCons (gName j) gNil))) tYes te vs σ Q (RZ.ItzT K a b) H := fun D hD => by
  refine lc_zipT hl (fun n H2 => Same H H2 ∧ H2 D = some (.lst ((List.range n).map f))) ⟨Same.new hD, upd_same⟩ (fun n H2 _ ⟨S2, _⟩ => ⟨sqt_sm S2 ha, sqt_sm S2 hb⟩) ?_ fun H2 ⟨S2, h2⟩ => k D H2 hD S2 h2
  rintro n x y Tp H2 hx hy ⟨S2, h2⟩ hT
  have hi : n < xs.length := (List.getElem?_eq_some_iff.mp hx).1
  have S3 : Same H2 (upd H2 Tp (.tup [x, y])) := Same.new hT
  refine ⟨Tp, _, rfl, SqT.of upd_same, rfl, _, _, rfl, _, _, rfl, rfl, hw x y, ?_⟩
  refine Rd.yes (Rd.ift (hs n x y hx hy _ (S2.trans S3) _ fun H4 S4 => ⟨_, S4 _ _ (S3 _ _ h2), Nat.lt_of_le_of_lt (m := 100000) (by simp; omega) (by decide), fun b o e => ?_, ?_⟩))
  · rw [upd_ne (ne_of_none e hD)]
    exact S4 _ _ (S3 _ _ (S2 _ _ e))
  · rw [upd_same, List.range_succ, List.map_append]
    rfl
/-- numbers of a line -/
structure Lno (w : Str) (ns : List Nat) : Prop where
  w8 : w.length ≤ 8
  fr : 32 ∉ TL.tl w
  n12 : ns.length ≤ 12
  n4 : ∀ n ∈ ns, n ≤ 10000
theorem hall_lno {m lt : Nat} {tk cl : List Nat} (h : Parts m tk cl lt) : Lno "modulus" [m] ∧ Lno "takes" tk ∧ Lno "calls" cl ∧ Lno "lateness" [lt] := by
  have a := h.m4
  have b := h.l99
  refine ⟨⟨by decide +kernel, by decide +kernel, by simp, by simp; omega⟩, ⟨by decide +kernel, by decide +kernel, h.tkP.len, fun n hn => ?_⟩, ⟨by decide +kernel, by decide +kernel, h.clP.len, fun n hn => ?_⟩, ⟨by decide +kernel, by decide +kernel, by simp, by simp; omega⟩⟩
  · have := h.tkP.nine n hn
    omega
  · have := h.clP.nine n hn
    omega
theorem hall_txt {m lt : Nat} {tk cl : List Nat} (h : Parts m tk cl lt) : ((Tx.lns m tk cl lt).map (·.length)).sum + (Tx.lns m tk cl lt).length * ("\n" : Str).length ≤ 400 ∧ (Tx.txt m tk cl lt).length ≤ 400 := by
  obtain ⟨a1, a2, a3, a4⟩ := hall_lno h
  have a := h.m4
  have b := h.l99
  exact ⟨Tx.lns_size a a2.n12 a2.n4 a3.n12 a3.n4 (by omega), Tx.txt_len a a2.n12 a2.n4 a3.n12 a3.n4 (by omega)⟩
def spWl : Sp := fun vs H Q _ => ∃ (w : Str) (p : Addr) (ns : List Nat), vs = [.str w, .ref p] ∧ H p = some (.tup (ns.map vn)) ∧ Lno w ns ∧ ∀ H', Same H H' → Q (.str (Tx.ln w ns)) H'
def spIsn : Sp := fun vs H Q _ => ∃ n : Nat, vs = [.str (Tx.nS n)] ∧ n ≤ 10000 ∧ Q (.bl true) H
def spRl : Sp := fun vs H Q _ => ∃ (w : Str) (ns : List Nat), vs = [.str (Tx.ln w ns)] ∧ Lno w ns ∧ ((w = "modulus" ∨ w = "lateness") → ns.length = 1) ∧ ((w = "undo" ∨ w = "redo") → ns.length = 0) ∧
  ∀ t l H', Same H H' → H' t = some (.tup [.str w, .ref l]) → H' l = some (.lst (ns.map vn)) → Q (.ref t) H'
def spRhl : Sp := fun vs H Q _ => ∃ (p : Addr) (m lt : Nat) (tk cl : List Nat), vs = [.ref p] ∧ H p = some (.lst ((Tx.lns m tk cl lt).map V.str)) ∧ Parts m tk cl lt ∧
  ∀ f a b c d H', Same H H' → H' f = some (.lst [.ref a, .ref b, .ref c, .ref d]) → H' a = some (.lst [vn m]) → H' b = some (.lst (tk.map vn)) → H' c = some (.lst (cl.map vn)) → H' d = some (.lst [vn lt]) → Q (.ref f) H'
def spText (C : Addr) : Sp := fun vs H Q _ => ∃ (h lp : Addr) (m lt : Nat) (tk cl : List Nat), vs = [.ref h] ∧ HallAt C H h m tk cl lt lp ∧ ∀ H', Same H H' → Q (.str (Tx.txt m tk cl lt)) H'
def spParse (C : Addr) : Sp := fun vs H Q _ => ∃ (m lt : Nat) (tk cl : List Nat), vs = [.ref C, .str (Tx.txt m tk cl lt)] ∧ Parts m tk cl lt ∧
  ∀ h lp H', H h = none → H lp = none → Same H H' → HallAt C H' h m tk cl lt lp → Q (.ref h) H'
section
variable {P : Program} {w : World} {K : PySem.W.Frag} {mg : Str → Option Value} {base : Heap}
theorem take_succ_of {α : Type} {l : List α} {i : Nat} {x : α} (e : l[i]? = some x) : l.take (i + 1) = l.take i ++ [x] := by
  rw [List.take_succ, e]
  rfl
theorem vn_at {ns : List Nat} {i : Nat} {x : V} (h : (ns.map vn)[i]? = some x) : ∃ n, x = vn n ∧ ns[i]? = some n := by
  rw [List.getElem?_map] at h
  cases e : ns[i]? with
  | none => rw [e] at h; cases h
  | some n =>
    rw [e] at h
    exact ⟨n, (Option.some.inj h).symm, rfl⟩
theorem str_at {ns : List Str} {i : Nat} {x : V} (h : (ns.map V.str)[i]? = some x) : ∃ n, x = .str n ∧ ns[i]? = some n := by
  rw [List.getElem?_map] at h
  cases e : ns[i]? with
  | none => rw [e] at h; cases h
  | some n =>
    rw [e] at h
    exact ⟨n, (Option.some.inj h).symm, rfl⟩
/-- the words and the numbers of the lines -/
def nms : List Str := ["modulus", "takes", "calls", "lateness"]
def nss (m : Nat) (tk cl : List Nat) (lt : Nat) : List (List Nat) := [[m], tk, cl, [lt]]
theorem line_at {m lt : Nat} {tk cl : List Nat} (h : Parts m tk cl lt) {i : Nat} (hi : i < 4) {w : Str} (hw : nms[i]? = some w) :
    ∃ ns, (nss m tk cl lt)[i]? = some ns ∧ (Tx.lns m tk cl lt)[i]? = some (Tx.ln w ns) ∧ Lno w ns ∧ ((w = "modulus" ∨ w = "lateness") → ns.length = 1) := by
  obtain ⟨L1, L2, L3, L4⟩ := hall_lno h
  have : i = 0 ∨ i = 1 ∨ i = 2 ∨ i = 3 := by omega
  rcases this with rfl | rfl | rfl | rfl <;> (obtain rfl := Option.some.inj hw)
  · exact ⟨_, rfl, rfl, L1, fun _ => rfl⟩
  · exact ⟨_, rfl, rfl, L2, fun q => by rcases q with q | q <;> exact absurd q (by decide +kernel)⟩
  · exact ⟨_, rfl, rfl, L3, fun q => by rcases q with q | q <;> exact absurd q (by decide +kernel)⟩
  · exact ⟨_, rfl, rfl, L4, fun _ => rfl⟩
theorem log_small {n : Nat} (h : n ≤ 10000) : ((n : Int)).natAbs.log2 < 1920 := by
  have e : ((n : Int)).natAbs = n := Int.natAbs_natCast n
  rw [e]
  rcases Nat.eq_zero_or_pos n with z | z
  · rw [z]
    decide
  · exact (Nat.log2_lt (by omega)).mpr (Nat.lt_of_le_of_lt h (by decide))
end
namespace Rd
theorem h_text {H : Hp} {Q : VK} {E : XK} {C h lp : Addr} {m lt : Nat} {tk cl : List Nat} (hA : HallAt C H h m tk cl lt lp) (k : ∀ H', Same H H' → Q (.str (Tx.txt m tk cl lt)) H') : spText C [.ref h] H Q E := ⟨h, lp, m, lt, tk, cl, rfl, hA, k⟩
end Rd
end Tk

/-! ### Slices -/
namespace Tk
open PySem PySem.Spec PyProof.Rows L2
theorem cut_pre (xs : List V) (n : Nat) : cutV xs none (some (n : Int)) = xs.take n := by
  unfold cutV
  rw [HT.sIx_none, HT.sIx_nat, List.drop_zero, Nat.sub_zero]
  rcases Nat.le_total n xs.length with h | h
  · rw [Nat.min_eq_left h]
  · rw [Nat.min_eq_right h, List.take_of_length_le h, List.take_length]
theorem cut_preI (xs : List V) {z : Int} {n : Nat} (e : z = (n : Int)) : cutV xs none (some z) = xs.take n := by
  rw [e]
  exact cut_pre xs n
theorem cut_suf (xs : List V) (n : Nat) : cutV xs (some (n : Int)) none = xs.drop n := by
  unfold cutV
  rw [HT.sIx_none, HT.sIx_nat]
  rcases Nat.le_total n xs.length with h | h
  · rw [Nat.min_eq_left h, List.take_of_length_le (by simp)]
  · rw [Nat.min_eq_right h, List.drop_of_length_le h]
    simp
theorem cut_sufI (xs : List V) {z : Int} {n : Nat} (e : z = (n : Int)) : cutV xs (some z) none = xs.drop n := by
  rw [e]
  exact cut_suf xs n
theorem cut_mid (xs : List V) (a b : Nat) : cutV xs (some (a : Int)) (some (b : Int)) = (xs.drop a).take (b - a) := by
  unfold cutV
  rw [HT.sIx_nat, HT.sIx_nat]
  refine List.ext_getElem? fun i => ?_
  rw [List.getElem?_take, List.getElem?_take, List.getElem?_drop, List.getElem?_drop]
  rcases Nat.le_total a xs.length with h | h
  · rw [Nat.min_eq_left h]
    by_cases c : i < b - a
    · by_cases c2 : i < min b xs.length - a
      · rw [if_pos c, if_pos c2]
      · rw [if_pos c, if_neg c2, List.getElem?_eq_none (by omega)]
    · rw [if_neg c, if_neg (by omega)]
  · rw [Nat.min_eq_right h, if_neg (by omega)]
    split
    · rw [List.getElem?_eq_none (by omega)]
    · rfl
/-- without the last item -/
theorem cut_init (xs : List V) : cutV xs none (some (-1)) = xs.dropLast := by
  unfold cutV
  rw [HT.sIx_none]
  have e : HT.sIx xs.length xs.length (some (-1)) = xs.length - 1 := by
    show (if (-1 : Int) < 0 then ((-1 : Int) + (xs.length : Int)).toNat else min (-1 : Int).toNat xs.length) = _
    rw [if_pos (by decide)]
    omega
  rw [e, List.drop_zero, List.dropLast_eq_take]
  rfl
end Tk

section
local macro_rules | `(tactic| walk_at "hp") => `(tactic| first
  | assumption
  | with_reducible exact L2.upd_same
  | ((with_reducible refine' Tk.Same.get ?k0 ?k1); (case k0 => assumption); (case k1 => walk_at "hp"))
  | fail "hp")
local macro_rules | `(tactic| walk_at "same") => `(tactic| first
  | assumption
  | exact L2.Same.refl _
  | ((with_reducible refine' Tk.Same.nw ?k0 ?k1); (case k0 => assumption); (case k1 => walk_at "same"))
  | ((with_reducible refine' Tk.Same.tr ?k0 ?k1); (case k0 => assumption); (case k1 => walk_at "same")))
local macro_rules | `(tactic| walk_at "sql") => `(tactic| first
  | assumption
  | ((with_reducible refine' L2.SqL.of ?k0); (case k0 => walk_at "hp"))
  | ((with_reducible refine' L2.Same.seq ?k0 ?k1); (case k0 => assumption); (case k1 => walk_at "sql")))
local macro_rules | `(tactic| walk_at "sqt") => `(tactic| first
  | assumption
  | ((with_reducible refine' L2.SqT.of ?k0); (case k0 => walk_at "hp"))
  | ((with_reducible refine' Tk.sqt_sm ?k0 ?k1); (case k0 => assumption); (case k1 => walk_at "sqt")))
local macro_rules | `(tactic| walk_at "sz") => `(tactic| first
  | (show (_ : Nat) ≤ 1000; decide)
  | (simp; done)
  | (simp; omega))
local macro_rules | `(tactic| walk_at "szb") => `(tactic| first
  | assumption
  | (show (_ : Nat) ≤ 100000; decide)
  | (simp; done)
  | (simp; omega))
local macro_rules | `(tactic| walk_at "dp") => `(tactic| first
  | assumption
  | with_reducible exact L2.Dp.non
  | with_reducible exact L2.Dp.int _
  | with_reducible exact L2.Dp.str _
  | with_reducible exact L2.Dp.bl _
  | ((with_reducible refine' L2.Dp.lst ?k0 ?k1); (case k0 => walk_at "sql"); (case k1 => walk_at "dpa"))
  | ((with_reducible refine' L2.Dp.tup ?k0 ?k1); (case k0 => walk_at "sqt"); (case k1 => walk_at "dpa"))
  | ((with_reducible refine' Tk.dp_sm ?k0 ?k1); (case k0 => assumption); (case k1 => walk_at "dp"))
  | fail "dp")
local macro_rules | `(tactic| walk_at "dpa") => `(tactic| first
  | assumption
  | with_reducible exact L2.DpAll.nil
  | ((with_reducible refine' L2.DpAll.cons ?k0 ?k1); (case k0 => walk_at "dp"); (case k1 => walk_at "dpa"))
  | with_reducible exact Tk.dp_nats _
  | ((with_reducible refine' Tk.dpA_sm ?k0 ?k1); (case k0 => assumption); (case k1 => walk_at "dpa"))
  | fail "dpa")
local macro_rules | `(tactic| walk_at "ci") => `(tactic| first
  | exact .inl ⟨by decide, by decide⟩
  | exact .inr ⟨by decide, by decide⟩
  | exact .inl ⟨by omega, by omega⟩
  | exact .inr ⟨by omega, by omega⟩
  | exact ⟨by decide, by decide⟩
  | exact ⟨by omega, by omega⟩
  | (show (0 : Int) < _; decide)
  | (show (0 : Int) < _; omega))
local macro_rules | `(tactic| walk_at "rd1") => `(tactic| first
  | with_reducible refine Tk.Rd.seq ?_
  | with_reducible refine Tk.Rd.star ?_
  | with_reducible refine Tk.Rd.int1_i ?_
  | with_reducible refine Tk.Rd.int1_b ?_
  | with_reducible refine Tk.Rd.tlc2 ?_
  | with_reducible refine Tk.Rd.lrg3 ?_
  | with_reducible refine Tk.Rd.lrg ?_
  | with_reducible refine Tk.Rd.rg1 ?_
  | with_reducible refine Tk.Rd.rg1K_i ?_
  | with_reducible refine Tk.Rd.rg2 ?_
  | with_reducible refine Tk.Rd.rg2K_i ?_
  | ((with_reducible refine' Tk.Rd.catL ?k0 ?k1 ?k2 fun p H' np S hp => ?_); (case k0 => walk_at "hp"); (case k1 => walk_at "hp"); (case k2 => walk_at "szb"))
  | ((with_reducible refine' Tk.Rd.starK_t ?k0 ?_); (case k0 => walk_at "sqt"))
  | ((with_reducible refine' Tk.Rd.starK_l ?k0 ?_); (case k0 => walk_at "sql"))
  | ((with_reducible refine' Tk.Rd.var ?k0 ?_); (case k0 => exact rfl))
  | with_reducible refine Tk.Rd.c ?_
  | with_reducible refine Tk.Rd.op ?_
  | with_reducible refine Tk.Rd.i0 ?_
  | with_reducible refine Tk.Rd.asg ?_
  | with_reducible refine Tk.Rd.name ?_
  | with_reducible refine Tk.Rd.cons ?_
  | with_reducible refine Tk.Rd.nil ?_
  | with_reducible refine Tk.Rd.call ?_
  | with_reducible refine Tk.Rd.callK_i ?_
  | with_reducible refine Tk.Rd.tst ?_
  | with_reducible refine Tk.Rd.bv ?_
  | with_reducible refine Tk.Rd.toB_i ?_
  | with_reducible refine Tk.Rd.ift ?_
  | with_reducible refine Tk.Rd.iff ?_
  | with_reducible refine Tk.Rd.ifnt ?_
  | with_reducible refine Tk.Rd.ifnf ?_
  | with_reducible refine Tk.Rd.not ?_
  | with_reducible refine Tk.Rd.and ?_
  | with_reducible refine Tk.Rd.or ?_
  | with_reducible refine Tk.Rd.andV ?_
  | with_reducible refine Tk.Rd.andK_i ?_
  | with_reducible refine Tk.Rd.orV ?_
  | with_reducible refine Tk.Rd.orK_i ?_
  | with_reducible refine Tk.Rd.notV ?_
  | with_reducible refine Tk.Rd.notK_i ?_
  | with_reducible refine Tk.Rd.tif ?_
  | with_reducible refine Tk.Rd.yes ?_
  | with_reducible refine Tk.Rd.tfor ?_
  | with_reducible refine Tk.Rd.tlc ?_
  | with_reducible refine Tk.Rd.rng ?_
  | ((with_reducible refine' Tk.Rd.rngK_n ?k0 ?_); (case k0 => first | decide | omega))
  | ((with_reducible refine' Tk.Rd.rngK_lit ?k0 ?_); (case k0 => decide))
  | with_reducible refine Tk.Rd.rng2 ?_
  | with_reducible refine Tk.Rd.rng3 ?_
  | with_reducible refine Tk.Rd.ilist ?_
  | with_reducible refine Tk.Rd.zip ?_
  | with_reducible refine Tk.Rd.itup ?_
  | ((with_reducible refine' Tk.Rd.listK_i ?k0 ?_); (case k0 => walk_at "sql"))
  | ((with_reducible refine' Tk.Rd.ituK_i ?k0 ?_); (case k0 => walk_at "sqt"))
  | with_reducible refine Tk.Rd.chain ?_
  | with_reducible refine Tk.Rd.chainL_i ?_
  | with_reducible refine Tk.Rd.un ?_
  | with_reducible refine Tk.Rd.u1 ?_
  | ((with_reducible refine' Tk.Rd.i1 ?k0 ?_); (case k0 => walk_at "ci"))
  | ((with_reducible refine' Tk.Rd.eq ?k0 ?_); (case k0 => exact rfl))
  | ((with_reducible refine' Tk.Rd.ne ?k0 ?_); (case k0 => exact rfl))
  | with_reducible refine Tk.Rd.isN ?_
  | with_reducible refine Tk.Rd.notN ?_
  | with_reducible refine Tk.Rd.fld ?_
  | with_reducible refine Tk.Rd.meth ?_
  | with_reducible refine Tk.Rd.prop ?_
  | with_reducible refine Tk.Rd.cb ?_
  | with_reducible refine Tk.Rd.bm ?_
  | with_reducible refine Tk.Rd.m0 ?_
  | with_reducible refine Tk.Rd.m0K_i ?_
  | with_reducible refine Tk.Rd.m1 ?_
  | with_reducible refine Tk.Rd.m1K_i ?_
  | with_reducible refine Tk.Rd.tup ?_
  | ((with_reducible refine' Tk.Rd.tupK_i ?k0 fun p H' np S hp => ?_); (case k0 => walk_at "sz"))
  | with_reducible refine Tk.Rd.lst ?_
  | ((with_reducible refine' Tk.Rd.lstK_i ?k0 fun p H' np S hp => ?_); (case k0 => walk_at "sz"))
  | ((with_reducible refine' Tk.Rd.ixF ?k0 ?k1 ?_); (case k0 => walk_at "hp"); (case k1 => omega))
  | ((with_reducible refine' Tk.Rd.ixF1 ?k0 ?k1 ?_); (case k0 => walk_at "hp"); (case k1 => omega))
  | ((with_reducible refine' Tk.Rd.ixT ?k0 ?k1 ?_); (case k0 => walk_at "sqt"); (case k1 => exact rfl))
  | ((with_reducible refine' Tk.Rd.ixL ?k0 ?k1 ?_); (case k0 => walk_at "sql"); (case k1 => exact rfl))
  | ((with_reducible refine' Tk.Rd.lenL ?k0 ?_); (case k0 => walk_at "sql"))
  | ((with_reducible refine' Tk.Rd.lenT ?k0 ?_); (case k0 => walk_at "sqt"))
  | ((with_reducible refine' Tk.Rd.lenS ?k0 ?_); (case k0 => first | assumption | omega | (simp; omega)))
  | ((with_reducible refine' Tk.Rd.slTr ?k0 fun p H' S hp => ?_); (case k0 => walk_at "hp"))
  | ((with_reducible refine' Tk.Rd.slT ?k0 fun p H' S hq => ?_); (case k0 => walk_at "sqt"))
  | ((with_reducible refine' Tk.Rd.catTr ?k0 ?k1 ?k2 fun p H' S hp => ?_); (case k0 => walk_at "hp"); (case k1 => walk_at "hp"); (case k2 => walk_at "sz"))
  | ((with_reducible refine' Tk.Rd.catA ?k0 ?k1 ?k2 ?k3 ?k4 fun p H' np S hp => ?_); (case k0 => walk_at "sqt"); (case k1 => walk_at "sqt"); (case k2 => simp); (case k3 => simp); (case k4 => first | (simp; done) | (simp; omega)))
  | with_reducible refine Tk.Rd.make ?_
  | ((with_reducible refine' Tk.Rd.tplL ?k0 fun q H' nq S hq => ?_); (case k0 => walk_at "sql"))
  | ((with_reducible refine' Tk.Rd.lstL ?k0 fun q H' nq S hq => ?_); (case k0 => walk_at "sql"))
  | ((with_reducible refine' Tk.Rd.lstT ?k0 fun q H' nq S hq => ?_); (case k0 => walk_at "sqt"))
  | ((with_reducible refine' Tk.Rd.join ?k0 ?k1 ?_); (case k0 => walk_at "sql"); (case k1 => first | assumption | omega))
  | with_reducible refine Tk.Rd.mx ?_
  | with_reducible refine Tk.Rd.mn ?_
  | with_reducible refine Tk.Rd.noPart ?_
  | with_reducible refine Tk.Rd.part ?_
  | with_reducible refine Tk.Rd.partK_i ?_
  | with_reducible refine Tk.Rd.slc ?_
  | ((with_reducible refine' Tk.Rd.gtup ?k0 ?k1 ?_); (case k0 => walk_at "sqt"); (case k1 => exact rfl))
  | ((with_reducible refine' Tk.Rd.glst ?k0 ?k1 ?_); (case k0 => walk_at "sql"); (case k1 => exact rfl))
  | with_reducible refine Tk.Rd.gcons ?_
  | with_reducible refine Tk.Rd.gnil ?_
  | with_reducible refine Tk.Rd.next ?_
  | with_reducible refine Tk.Rd.drop ?_
  | with_reducible refine Tk.Rd.ret ?_
  | with_reducible refine Tk.Rd.retN ?_
  | with_reducible refine Tk.Rd.par ?_
  | with_reducible refine Tk.Rd.parK_i ?_
  | with_reducible refine Tk.Rd.par3 ?_
  | with_reducible refine Tk.Rd.par3K_i ?_
  | ((with_reducible refine' Tk.Rd.aug ?k0 ?_); (case k0 => exact rfl))
  | with_reducible refine Tk.Rd.ip ?_
  | ((with_reducible refine' Tk.Rd.bmK_l ?k0 ?_); (case k0 => walk_at "sql"))
  | ((with_reducible refine' Tk.Rd.addS ?k0 ?_); (case k0 => walk_at "sz"))
  | fail "rd1")
local macro_rules | `(tactic| walk_at "rd1i") => `(tactic| first
  | walk_at "rd1"
  | with_reducible refine Tk.Rd.ifS ?_
  | fail "rd1i")
local macro_rules | `(tactic| walk_at "rd") => `(tactic| (repeat' walk_at "rd1i"))
local macro_rules | `(tactic| walk_at "rs") => `(tactic| ((repeat' walk_at "rd1"); (try dsimp only)))
local macro_rules | `(tactic| walk_at "hall") => `(tactic| first
  | assumption
  | ((with_reducible refine' Tk.HallAt.sm ?k0 ?k1); (case k0 => assumption); (case k1 => walk_at "hall"))
  | fail "hall")
local macro_rules | `(tactic| walk_at "parts") => `(tactic| first
  | assumption
  | ((with_reducible refine' Tk.PartsAt.sm ?k0 ?k1); (case k0 => assumption); (case k1 => walk_at "parts"))
  | fail "parts")
local macro_rules | `(tactic| walk_at "sm") => `(tactic| first
  | assumption
  | exact Tk.Sm.int rfl
  | exact Tk.Sm.flat1 rfl
  | ((with_reducible refine' Tk.Sm.sm ?k0 ?k1); (case k0 => assumption); (case k1 => walk_at "sm"))
  | fail "sm")
local macro_rules | `(tactic| walk_at "rd1") => `(tactic| first
  | ((with_reducible refine' Tk.Rd.f_modulus ?k0 ?k1 ?_); (case k0 => assumption); (case k1 => walk_at "hall"))
  | ((with_reducible refine' Tk.Rd.f_lateness ?k0 ?k1 ?_); (case k0 => assumption); (case k1 => walk_at "hall"))
  | ((with_reducible refine' Tk.Rd.f_takes ?k0 ?k1 fun tp htp => ?_); (case k0 => assumption); (case k1 => walk_at "hall"))
  | ((with_reducible refine' Tk.Rd.f_calls ?k0 ?k1 fun cp hcp => ?_); (case k0 => assumption); (case k1 => walk_at "hall"))
  | ((with_reducible refine' Tk.Rd.h_meth ?k0 ?k1 ?_); (case k0 => walk_at "hall"); (case k1 => decide +kernel))
  | ((with_reducible refine' Tk.Rd.h_prop ?k0 ?_); (case k0 => walk_at "hall"))
  | ((with_reducible refine' Tk.Rd.h_taken0 ?k0 fun H' S => ?_); (case k0 => walk_at "hall"))
  | ((with_reducible refine' Tk.Rd.h_taken1 ?k0 fun H' S => ?_); (case k0 => walk_at "hall"))
  | ((with_reducible refine' Tk.Rd.h_takenL ?k0 fun H' S => ?_); (case k0 => walk_at "hall"))
  | ((with_reducible refine' Tk.Rd.h_called0 ?k0 ?_); (case k0 => walk_at "hall"))
  | ((with_reducible refine' Tk.Rd.h_called1 ?k0 ?_); (case k0 => walk_at "hall"))
  | ((with_reducible refine' Tk.Rd.h_calledL ?k0 ?_); (case k0 => walk_at "hall"))
  | ((with_reducible refine' Tk.Rd.h_waiting ?k0 ?k1 fun H' S => ?_); (case k0 => walk_at "hall"); (case k1 => omega))
  | ((with_reducible refine' Tk.Rd.h_growth ?k0 fun H' S => ?_); (case k0 => walk_at "hall"))
  | ((with_reducible refine' Tk.Rd.h_period ?k0 ?_); (case k0 => walk_at "hall"))
  | ((with_reducible refine' Tk.Rd.h_lhall ?k0 fun h lp H' nh nl S hA => ?_); (case k0 => walk_at "parts"))
  | ((with_reducible refine' Tk.Rd.h_length ?k0 ?_); (case k0 => walk_at "parts"))
  | ((with_reducible refine' Tk.Rd.h_counts ?k0 ?k1 fun r a b H' nr na nb nab S hr ha hb => ?_); (case k0 => walk_at "parts"); (case k1 => omega))
  | ((with_reducible refine' Tk.Rd.h_countsL ?k0 ?k1 fun r a b H' nr na nb nab S hr ha hb => ?_); (case k0 => walk_at "parts"); (case k1 => decide))
  | ((with_reducible refine' Tk.Rd.h_make ?k0 ?k1 ?k2 fun h lp H' nh nl S hA => ?_); (case k0 => assumption); (case k1 => walk_at "hp"); (case k2 => walk_at "hp"))
  | ((with_reducible refine' Tk.Rd.p_0 ?k0 ?_); (case k0 => walk_at "parts"))
  | ((with_reducible refine' Tk.Rd.p_1 ?k0 fun htp => ?_); (case k0 => walk_at "parts"))
  | ((with_reducible refine' Tk.Rd.p_2 ?k0 fun hcp => ?_); (case k0 => walk_at "parts"))
  | ((with_reducible refine' Tk.Rd.p_3 ?k0 ?_); (case k0 => walk_at "parts"))
  | fail "rd1")
local macro_rules | `(tactic| walk_at "sqt") => `(tactic| first | ((with_reducible refine' Tk.PartsAt.sq ?k0); (case k0 => walk_at "parts")) | fail "sqt")
local macro_rules | `(tactic| walk_at "free") => `(tactic| first
  | assumption
  | ((with_reducible refine' Tk.Same.fr ?k0 ?k1); (case k0 => assumption); (case k1 => walk_at "free")))
local macro_rules | `(tactic| walk_at "hp") => `(tactic| first
  | ((with_reducible refine' Tk.But.gt ?k0 ?k1 ?k2); (case k0 => assumption); (case k1 => assumption); (case k2 => walk_at "hp"))
  | ((with_reducible refine' Tk.But.gl ?k0 ?k1 ?k2); (case k0 => assumption); (case k1 => assumption); (case k2 => walk_at "hp"))
  | fail "hp")
local macro_rules | `(tactic| walk_at "hall") => `(tactic| first | ((with_reducible refine' Tk.HallAt.bt ?k0 ?k1 ?k2 ?k3); (case k0 => assumption); (case k1 => assumption); (case k2 => assumption); (case k3 => walk_at "hall")) | fail "hall")
local macro_rules | `(tactic| walk_at "parts") => `(tactic| first | ((with_reducible refine' Tk.PartsAt.bt ?k0 ?k1 ?k2); (case k0 => assumption); (case k1 => assumption); (case k2 => walk_at "parts")) | fail "parts")
local macro_rules | `(tactic| walk_at "rd1") => `(tactic| first
  | ((with_reducible refine' Tk.Rd.h_below ?k0 ?k1 ?k2 ?k3 fun r H' cs hr B hd hcs => ?_); (case k0 => walk_at "hp"); (case k1 => assumption); (case k2 => first | decide | omega); (case k3 => first | decide | omega))
  | ((with_reducible refine' Tk.Rd.h_parts ?k0 ?k1 ?k2 ?k3 fun t tp cp m lt tk cl H' cs nt B hd hcs hP l1 l2 => ?_); (case k0 => walk_at "hp"); (case k1 => assumption); (case k2 => first | decide | omega); (case k3 => first | decide | omega))
  | ((with_reducible refine' Tk.Rd.h_partsL ?k0 ?k1 ?k2 ?k3 fun t tp cp m lt tk cl H' cs nt B hd hcs hP l1 l2 => ?_); (case k0 => walk_at "hp"); (case k1 => assumption); (case k2 => first | decide | omega); (case k3 => first | decide | omega))
  | ((with_reducible refine' Tk.Rd.h_small ?k0 ?k1 fun t tp cp m lt tk cl H' cs nt B hd hcs hP m1 l1 l2 l3 => ?_); (case k0 => walk_at "hp"); (case k1 => assumption))
  | ((with_reducible refine' Tk.Rd.h_tick ?k0 ?k1 fun t H' cs ht B hd hcs => ?_); (case k0 => walk_at "hp"); (case k1 => assumption))
  | ((with_reducible refine' Tk.Rd.h_mo ?k0 fun v H' S hv => ?_); (case k0 => walk_at "hall"))
  | ((with_reducible refine' Tk.Rd.h_lc ?k0 fun v H' S hv => ?_); (case k0 => walk_at "hall"))
  | ((with_reducible refine' Tk.Rd.h_lm ?k0 fun v H' S hv => ?_); (case k0 => walk_at "hall"))
  | ((with_reducible refine' Tk.Rd.h_gl ?k0 fun v H' S hv => ?_); (case k0 => walk_at "hall"))
  | ((with_reducible refine' Tk.Rd.h_ot ?k0 ?k1 fun r H' nr S hr => ?_); (case k0 => walk_at "hall"); (case k1 => first | assumption | omega))
  | ((with_reducible refine' Tk.Rd.h_most2 ?k0 fun v H' S hv => ?_); (case k0 => walk_at "parts"))
  | ((with_reducible refine' Tk.Rd.h_opens2L ?k0 ?k1 fun l ys H' nl S hl hlen hR => ?_); (case k0 => walk_at "parts"); (case k1 => decide))
  | ((with_reducible refine' Tk.Rd.h_opens2 ?k0 ?k1 fun l ys H' nl S hl hlen hR => ?_); (case k0 => walk_at "parts"); (case k1 => first | decide | omega))
  | fail "rd1")
local macro_rules | `(tactic| walk_at "ok") => `(tactic| first
  | assumption
  | ((with_reducible refine' Tk.HallAt.ok ?k0); (case k0 => walk_at "hall"))
  | ((with_reducible refine' Tk.PartsAt.ok ?k0); (case k0 => walk_at "parts"))
  | fail "ok")
local macro_rules | `(tactic| walk_at "sml") => `(tactic| first
  | exact Tk.Sml.ints (by walk_at "szb")
  | exact Tk.Sml.intsT (by walk_at "szb")
  | trivial
  | (simp [Tk.Sml]; done)
  | (simp [Tk.Sml]; omega)
  | fail "sml")
local macro_rules | `(tactic| walk_at "rd1") => `(tactic| first
  | ((with_reducible refine' Tk.Rd.nT ?k0 ?_); (case k0 => with_reducible exact rfl))
  | ((with_reducible refine' Tk.Rd.dT ?k0 ?_); (case k0 => with_reducible exact rfl))
  | with_reducible refine Tk.Rd.nF Tk.Rd.int_non ?_
  | with_reducible refine Tk.Rd.nF Tk.Rd.ref_non ?_
  | with_reducible refine Tk.Rd.dF Tk.Rd.int_non ?_
  | with_reducible refine Tk.Rd.dF Tk.Rd.ref_non ?_
  | ((with_reducible refine' Tk.Rd.h_disp ?k0 ?k1 ?_); (case k0 => first | assumption | omega); (case k1 => walk_at "hall"))
  | ((with_reducible refine' Tk.Rd.h_hold ?k0 ?k1 ?k2 ?k3 fun l H' nl S hl => ?_); (case k0 => walk_at "hall"); (case k1 => first | assumption | omega); (case k2 => first | assumption | omega); (case k3 => first | assumption | omega))
  | ((with_reducible refine' Tk.Rd.h_mis ?k0 ?k1 ?k2 fun l ys H' nl S hl hd => ?_); (case k0 => walk_at "hall"); (case k1 => first | assumption | omega); (case k2 => first | assumption | omega))
  | ((with_reducible refine' Tk.Rd.h_enc ?k0 fun l H' nl S hl => ?_); (case k0 => walk_at "hall"))
  | ((with_reducible refine' Tk.Rd.h_dec ?k0 ?k1 fun h lp H' nh nl S hA => ?_); (case k0 => walk_at "hp"); (case k1 => walk_at "ok"))
  | ((with_reducible refine' Tk.Rd.h_text ?k0 fun H' S => ?_); (case k0 => walk_at "hall"))
  | ((with_reducible refine' Tk.Rd.h_eqd ?k0 ?k1 ?k2 fun H' S => ?_); (case k0 => walk_at "dp"); (case k1 => walk_at "dp"); (case k2 => walk_at "sml"))
  | ((with_reducible refine' Tk.Rd.eqd ?k0 ?k1 ?k2 ?k3 ?_); (case k0 => walk_at "dp"); (case k1 => walk_at "dp"); (case k2 => walk_at "sml"); (case k3 => walk_at "sml"))
  | ((with_reducible refine' Tk.Rd.ned ?k0 ?k1 ?k2 ?k3 ?_); (case k0 => walk_at "dp"); (case k1 => walk_at "dp"); (case k2 => walk_at "sml"); (case k3 => walk_at "sml"))
  | fail "rd1")
/-! ### Bytes -/
namespace Tk
open PySem PySem.Spec PyProof.Rows L2 Mm
def encH (m : Nat) (tk cl : List Nat) (lt : Nat) : List Nat := 84 :: m / 256 :: m % 256 :: tk.length :: (tk ++ (cl.length :: (cl ++ [lt])))
def encN (m : Nat) (tk cl : List Nat) (lt : Nat) : List Nat := encH m tk cl lt ++ [(encH m tk cl lt).sum % 256]
theorem encH_len {m lt : Nat} {tk cl : List Nat} : (encH m tk cl lt).length = tk.length + cl.length + 6 := by unfold encH; simp; omega
theorem encN_len {m lt : Nat} {tk cl : List Nat} : (encN m tk cl lt).length = tk.length + cl.length + 7 := by unfold encN; simp [encH_len]
section
variable {m lt : Nat} {tk cl : List Nat}
theorem encN_at {i x : Nat} (h : (encH m tk cl lt)[i]? = some x) : (encN m tk cl lt)[i]? = some x := by
  unfold encN
  rw [List.getElem?_append_left (List.getElem?_eq_some_iff.mp h).1]
  exact h
theorem enc_tk {i x : Nat} (h : tk[i]? = some x) : (encH m tk cl lt)[4 + i]? = some x := by
  unfold encH
  rw [show 4 + i = i + 1 + 1 + 1 + 1 by omega]
  simp only [List.getElem?_cons_succ]
  rw [List.getElem?_append_left (List.getElem?_eq_some_iff.mp h).1]
  exact h
theorem enc_cn : (encH m tk cl lt)[4 + tk.length]? = some cl.length := by
  unfold encH
  rw [show 4 + tk.length = tk.length + 1 + 1 + 1 + 1 by omega]
  simp only [List.getElem?_cons_succ]
  rw [List.getElem?_append_right (Nat.le_refl _)]
  simp
theorem enc_cl {i x : Nat} (h : cl[i]? = some x) : (encH m tk cl lt)[4 + tk.length + 1 + i]? = some x := by
  unfold encH
  rw [show 4 + tk.length + 1 + i = tk.length + i + 1 + 1 + 1 + 1 + 1 by omega]
  simp only [List.getElem?_cons_succ]
  rw [List.getElem?_append_right (by omega), show tk.length + i + 1 - tk.length = i + 1 by omega, List.getElem?_cons_succ, List.getElem?_append_left (List.getElem?_eq_some_iff.mp h).1]
  exact h
theorem enc_lt : (encH m tk cl lt)[4 + tk.length + 1 + cl.length]? = some lt := by
  unfold encH
  rw [show 4 + tk.length + 1 + cl.length = tk.length + cl.length + 1 + 1 + 1 + 1 + 1 by omega]
  simp only [List.getElem?_cons_succ]
  rw [List.getElem?_append_right (by omega), show tk.length + cl.length + 1 - tk.length = cl.length + 1 by omega, List.getElem?_cons_succ, List.getElem?_append_right (Nat.le_refl _)]
  simp
end
namespace Rd
variable {K : PySem.W.Frag} {σ : L2.St} {H : Hp} {Q : VK} {E : XK} {QA : List V → Hp → Prop} {te : TE} {t : TA}
theorem h_within {v : V} {lo hi : Int} (hv : Arg H v) (k : Q (.bl (inB lo hi v)) H) : spWithin [v, .int lo, .int hi] H Q E := ⟨v, lo, hi, rfl, hv, k⟩
end Rd
def spCks (K : PySem.W.Frag) : Sp := fun vs H Q _ => ∃ (c : Addr) (ns : List Nat), vs = [.ref c] ∧ SqL K H c (ns.map vn) ∧ Q (vn (ns.sum % 256)) H
def spEnc (C : Addr) : Sp := fun vs H Q _ => ∃ (h lp : Addr) (m lt : Nat) (tk cl : List Nat), vs = [.ref h] ∧ HallAt C H h m tk cl lt lp ∧ ∀ l H', H l = none → Same H H' → H' l = some (.lst ((encN m tk cl lt).map vn)) → Q (.ref l) H'
def spRb (K : PySem.W.Frag) : Sp := fun vs H Q _ => ∃ (c : Addr) (ns : List Nat) (p x : Nat) (lo hi : Int), vs = [.ref c, vn p, .int lo, .int hi] ∧ SqL K H c (ns.map vn) ∧ ns[p]? = some x ∧ lo ≤ (x : Int) ∧ (x : Int) ≤ hi ∧ Q (vn x) H
def spRm (K : PySem.W.Frag) : Sp := fun vs H Q _ => ∃ (c : Addr) (ns : List Nat) (p m : Nat), vs = [.ref c, vn p] ∧ SqL K H c (ns.map vn) ∧ ns[p]? = some (m / 256) ∧ ns[p + 1]? = some (m % 256) ∧ 2 ≤ m ∧ m ≤ 10000 ∧ Q (vn m) H
def spRp (K : PySem.W.Frag) : Sp := fun vs H Q _ => ∃ (c : Addr) (ns : List Nat) (p : Nat) (tk : List Nat), vs = [.ref c, vn p] ∧ SqL K H c (ns.map vn) ∧ ns[p]? = some tk.length ∧ Pat tk ∧ (∀ (i x : Nat), tk[i]? = some x → ns[p + 1 + i]? = some x) ∧
  ∀ q H', H q = none → Same H H' → H' q = some (.tup (tk.map vn)) → Q (.ref q) H'
def spDec (K : PySem.W.Frag) (C : Addr) : Sp := fun vs H Q _ => ∃ (c : Addr) (m lt : Nat) (tk cl : List Nat), vs = [.ref c] ∧ H c = some (.lst ((encN m tk cl lt).map vn)) ∧ Parts m tk cl lt ∧
  ∀ h lp H', H h = none → H lp = none → Same H H' → HallAt C H' h m tk cl lt lp → Q (.ref h) H'
section
variable {P : Program} {w : World} {K : PySem.W.Frag} {mg : Str → Option Value} {base : Heap}
theorem sum_castN (ns : List Nat) : (ns.map fun n : Nat => (n : Int)).sum = ((ns.sum : Nat) : Int) := by
  induction ns with
  | nil => rfl
  | cons x r ih => simp [ih]
theorem map_vnN (ns : List Nat) : (ns.map fun n : Nat => (n : Int)).map V.int = ns.map vn := by rw [List.map_map]; rfl
theorem ok_checksum (T : Txt K mg) : OkF P w K mg base 1 (He.ga K "checksum") ["code"] (spCks K) := by
  refine FnP.okF T.f_checksum sc_checksum (fun _ _ _ _ _ _ us hl => match us, hl with | [_], _ => rfl) (fun vs H Q E h => ?_) (fun cdv A outer s H vs Q E hr h => ?_)
  · obtain ⟨c, ns, rfl, _⟩ := h
    rfl
  obtain ⟨c, ns, rfl, hc, k⟩ := h
  refine ⟨_, (pss_one (ps_ret (pe_op op_mod (pe_callB (sumLK (K := K)) (by rfl) T.g_sum (by decide +kernel) (pa_cons (pv 0) pa_nil)) (pe_gint (by rfl) T.c_BYTES)))), ?_⟩
  walk_at "rd"
  refine ⟨c, ns.map fun n : Nat => (n : Int), rfl, by rw [map_vnN]; exact hc, ?_⟩
  rw [sum_castN]
  walk_at "rd"
  exact k
theorem ok_encode (T : Txt K mg) : OkF P w K mg base 2 (He.ga K "encode") ["hall"] (spEnc (He.ga K "Hall")) := by
  have G_checksum : OkF P w K mg base 1 (He.ga K "checksum") ["code"] (spCks K) := ok_checksum T
  refine FnP.okF T.f_encode sc_encode (fun _ _ _ _ _ _ us hl => match us, hl with | [_], _ => rfl) (fun vs H Q E h => ?_) (fun cdv A outer s H vs Q E hr h => ?_)
  · obtain ⟨h, lp, m, lt, tk, cl, rfl, _⟩ := h
    rfl
  obtain ⟨h, lp, m, lt, tk, cl, rfl, hA, k⟩ := h
  have t1 := hA.ok.tkP.len
  have t2 := hA.ok.clP.len
  refine ⟨_, (pss_cons (ps_set (i := 1) sc_encode.nd rfl (Or.inl rfl) (pe_lst (pa_cons (pe_op op_fdiv (pe_fld (pv 0) rfl) (pe_gint (by rfl) T.c_BYTES)) (pa_cons (pe_op op_mod (pe_fld (pv 0) rfl) (pe_gint (by rfl) T.c_BYTES)) pa_nil))))
    (pss_cons (ps_set (i := 2) sc_encode.nd rfl (Or.inl rfl) (pe_lst (pa_cons (pe_gint (by rfl) T.c_FIRST_BYTE) (starAK (K := K) (pv 1) (pa_cons (pe_callB (lenK (K := K)) (by rfl) T.g_len (by decide +kernel) (pa_cons (pe_fld (pv 0) rfl) pa_nil)) (starAK (K := K) (pe_fld (pv 0) rfl) (pa_cons (pe_callB (lenK (K := K)) (by rfl) T.g_len (by decide +kernel) (pa_cons (pe_fld (pv 0) rfl) pa_nil)) (starAK (K := K) (pe_fld (pv 0) rfl) (pa_cons (pe_fld (pv 0) rfl) pa_nil)))))))))
    (pss_one (ps_ret (pe_op op_cat (pv 2) (pe_lst (pa_cons (pe_call G_checksum.one (hr.mono (by decide)) (by rfl) T.g_checksum G_checksum.kp G_checksum.two .nil passL (pa_cons (pv 2) pa_nil)) pa_nil))))))), ?_⟩
  walk_at "rd"
  rename_i p1 H1 n1 S1 h1 q1 hq1 q2 hq2 q3 hq3 q4 hq4 p2 H2 n2 S2 h2
  have e : (V.int 84 :: ([V.int ((m : Int) / 256), V.int ((m : Int) % 256)] ++ V.int (((tk.map vn).length : Nat) : Int) :: (tk.map vn ++ V.int (((cl.map vn).length : Nat) : Int) :: (cl.map vn ++ [vn lt])))) = (encH m tk cl lt).map vn := by
    unfold encH
    simp
  rw [e] at h2
  refine ⟨p2, _, rfl, SqL.of h2, ?_⟩
  walk_at "rd"
  rename_i p3 H3 n3 S3 h3
  refine ⟨p2, p3, _, _, rfl, rfl, S3 _ _ h2, h3, Nat.le_trans (m := 1000) (by simp [encH_len]; omega) (by decide), fun q hq => ?_⟩
  refine k q _ (Same.fr ((S1.trans S2).trans S3) hq) (Same.nw hq ((S1.trans S2).trans S3)) ?_
  rw [upd_same]
  unfold encN
  rw [List.map_append]
  rfl
theorem ok_read_byte (T : Txt K mg) : OkF P w K mg base 4 (He.ga K "read_byte") ["code", "place", "least", "greatest"] (spRb K) := by
  have G_is_integer_within : OkF P w K mg base 1 (He.ga K "is_integer_within") ["value", "low", "high"] spWithin := ok_is_integer_within T
  refine FnP.okF T.f_read_byte sc_read_byte (fun _ _ _ _ _ _ us hl => match us, hl with | [_, _, _, _], _ => rfl) (fun vs H Q E h => ?_) (fun cdv A outer s H vs Q E hr h => ?_)
  · obtain ⟨c, ns, p, x, lo, hi, rfl, _⟩ := h
    rfl
  obtain ⟨c, ns, p, x, lo, hi, rfl, hc, hx, h1, h2, k⟩ := h
  have hp := (List.getElem?_eq_some_iff.mp hx).1
  have hv : (ns.map vn)[p]? = some (vn x) := by rw [List.getElem?_map, hx]; rfl
  have hb : inB lo hi (vn x) = true := by
    show (decide (lo ≤ (x : Int)) && decide ((x : Int) ≤ hi)) = true
    simp [h1, h2]
  refine ⟨_, (pss_cons (ps_if (PW.pt (pw_or (pt_cmpR op_ge (pv 1) (pe_callB (lenK (K := K)) (by rfl) T.g_len (by decide +kernel) (pa_cons (pv 0) pa_nil)) (nomark _)) (pw_or1 (pt_not (pt_val (pe_call G_is_integer_within.one (hr.mono (by decide)) (by rfl) T.g_is_integer_within G_is_integer_within.kp G_is_integer_within.two .nil passL (pa_cons (pe_ix (ixLK (K := K)) (pv 0) (pv 1) (fun _ _ => rfl)) (pa_cons (pv 2) (pa_cons (pv 3) pa_nil))))))))) (pss_one ps_never) pss_nil)
    (pss_one (ps_ret (pe_ix (ixLK (K := K)) (pv 0) (pv 1) (fun _ _ => rfl))))), ?_⟩
  walk_at "rd"
  refine Rd.dF (by rw [List.length_map]; omega) ?_
  walk_at "rd"
  refine Rd.ixL hc (atn hv) ?_
  walk_at "rd"
  refine ⟨_, _, _, rfl, .int _, ?_⟩
  rw [hb]
  walk_at "rd"
  refine Rd.ixL hc (atn hv) ?_
  exact k
theorem ok_read_modulus (T : Txt K mg) : OkF P w K mg base 5 (He.ga K "read_modulus") ["code", "place"] (spRm K) := by
  have G_read_byte : OkF P w K mg base 4 (He.ga K "read_byte") ["code", "place", "least", "greatest"] (spRb K) := ok_read_byte T
  refine FnP.okF T.f_read_modulus sc_read_modulus (fun _ _ _ _ _ _ us hl => match us, hl with | [_, _], _ => rfl) (fun vs H Q E h => ?_) (fun cdv A outer s H vs Q E hr h => ?_)
  · obtain ⟨c, ns, p, m, rfl, _⟩ := h
    rfl
  obtain ⟨c, ns, p, m, rfl, hc, e1, e2, m2, m4, k⟩ := h
  refine ⟨_, (pss_cons (ps_set (i := 2) sc_read_modulus.nd rfl (Or.inl rfl) (pe_op op_mul (pe_call G_read_byte.one (hr.mono (by decide)) (by rfl) T.g_read_byte G_read_byte.kp G_read_byte.two .nil passL (pa_cons (pv 0) (pa_cons (pv 1) (pa_cons (pe_op op_fdiv (pe_gint (by rfl) T.c_LEAST_MODULUS) (pe_gint (by rfl) T.c_BYTES)) (pa_cons (pe_op op_fdiv (pe_gint (by rfl) T.c_GREATEST_MODULUS) (pe_gint (by rfl) T.c_BYTES)) pa_nil))))) (pe_gint (by rfl) T.c_BYTES)))
    (pss_cons (ps_set (i := 3) sc_read_modulus.nd rfl (Or.inl rfl) (pe_callB (show CallR _ (.builtin "max") Rd.rMax2 from call_max2 (by rfl)) (by rfl) T.g_max (by decide +kernel) (pa_cons (pe_op op_sub (pe_gint (by rfl) T.c_LEAST_MODULUS) (pv 2)) (pa_cons pe_int pa_nil))))
    (pss_cons (ps_set (i := 4) sc_read_modulus.nd rfl (Or.inl rfl) (pe_callB (show CallR _ (.builtin "min") Rd.rMin2 from call_min2 (by rfl)) (by rfl) T.g_min (by decide +kernel) (pa_cons (pe_op op_sub (pe_gint (by rfl) T.c_GREATEST_MODULUS) (pv 2)) (pa_cons (pe_op op_sub (pe_gint (by rfl) T.c_BYTES) pe_int) pa_nil))))
    (pss_one (ps_ret (pe_op op_add (pv 2) (pe_call G_read_byte.one (hr.mono (by decide)) (by rfl) T.g_read_byte G_read_byte.kp G_read_byte.two .nil passL (pa_cons (pv 0) (pa_cons (pe_op op_add (pv 1) pe_int) (pa_cons (pv 3) (pa_cons (pv 4) pa_nil))))))))))), ?_⟩
  walk_at "rd"
  refine ⟨c, ns, p, m / 256, _, _, rfl, hc, e1, ?_, ?_, ?_⟩
  · show (2 : Int) / 256 ≤ _
    omega
  · show _ ≤ (10000 : Int) / 256
    omega
  walk_at "rd"
  refine ⟨c, ns, p + 1, m % 256, _, _, rfl, hc, e2, by omega, by omega, ?_⟩
  walk_at "rd"
  have e : V.int (((m / 256 : Nat) : Int) * 256 + ((m % 256 : Nat) : Int)) = vn m := vn_int (by omega)
  rw [e]
  exact k
theorem ok_read_pattern (T : Txt K mg) : OkF P w K mg base 5 (He.ga K "read_pattern") ["code", "place"] (spRp K) := by
  have G_read_byte : OkF P w K mg base 4 (He.ga K "read_byte") ["code", "place", "least", "greatest"] (spRb K) := ok_read_byte T
  refine FnP.okF T.f_read_pattern sc_read_pattern (fun _ _ _ _ _ _ us hl => match us, hl with | [_, _], _ => rfl) (fun vs H Q E h => ?_) (fun cdv A outer s H vs Q E hr h => ?_)
  · obtain ⟨c, ns, p, tk, rfl, _⟩ := h
    rfl
  obtain ⟨c, ns, p, tk, rfl, hc, e1, hP, e2, k⟩ := h
  have l12 := hP.len
  have l0 := hP.pos
  refine ⟨_, (pss_cons (ps_set (i := 2) sc_read_pattern.nd rfl (Or.inl rfl) (pe_call G_read_byte.one (hr.mono (by decide)) (by rfl) T.g_read_byte G_read_byte.kp G_read_byte.two .nil passL (pa_cons (pv 0) (pa_cons (pv 1) (pa_cons pe_int (pa_cons (pe_gint (by rfl) T.c_MOST_ITEMS) pa_nil))))))
    (pss_one (ps_ret (pe_callTy (tplK (K := K)) (by rfl) T.g_tuple (by decide +kernel) (pa_cons (pe_lc (own := [("index", 3)]) (g := gName 3) (tt := tYes) (by rfl) sc_read_pattern.nd (pi_range1 (by rfl) T.g_range (pa_cons (pv 2) pa_nil)) (blkOk_by (own := [("index", 3)]) (N := N_read_pattern) (sc := (defScope s_read_pattern)) (by decide +kernel)) (fun _ _ _ _ _ => pg_name (i := 3) sc_read_pattern.nd rfl (Or.inl rfl)) (fun _ _ _ _ _ => pts_nil) (fun _ _ _ _ _ => (pe_call G_read_byte.one (hr.mono (by decide)) (by rfl) T.g_read_byte G_read_byte.kp G_read_byte.two .nil passL (pa_cons (pv 0) (pa_cons (pe_op op_add (pe_op op_add (pv 1) pe_int) (pv 3)) (pa_cons pe_int (pa_cons (pe_gint (by rfl) T.c_GREATEST_ITEM) pa_nil))))))) pa_nil))))), ?_⟩
  walk_at "rd"
  refine ⟨c, ns, p, tk.length, _, _, rfl, hc, e1, by omega, by omega, ?_⟩
  walk_at "rd"
  refine Rd.lc_rng (fun i => vn (tk.getD i 0)) (by omega) (fun i hi => Rd.turn1 rfl fun H' S Q' q => ?_) fun D H2 nD S2 h2 => ?_
  · have hx : tk[i]? = some (tk.getD i 0) := by rw [List.getD_eq_getElem?_getD, List.getElem?_eq_getElem hi]; rfl
    have h9 := hP.nine _ (List.mem_of_getElem? hx)
    walk_at "rd"
    refine ⟨c, ns, p + 1 + i, tk.getD i 0, _, _, rfl, Same.seq S hc, e2 i _ hx, by omega, by omega, ?_⟩
    exact q _ (Same.refl _)
  · have e : (List.range tk.length).map (fun i => vn (tk.getD i 0)) = tk.map vn := Rd.range_get tk 0 vn
    rw [e] at h2
    walk_at "rd"
    rename_i q H3 nq S3 h3
    exact k q _ (Same.fr S2 nq) (S2.trans S3) h3
theorem ok_decode (T : Txt K mg) : OkF P w K mg base 8 (He.ga K "decode") ["code"] (spDec K (He.ga K "Hall")) := by
  have G_checksum : OkF P w K mg base 1 (He.ga K "checksum") ["code"] (spCks K) := ok_checksum T
  have G_read_byte : OkF P w K mg base 4 (He.ga K "read_byte") ["code", "place", "least", "greatest"] (spRb K) := ok_read_byte T
  have G_read_modulus : OkF P w K mg base 5 (He.ga K "read_modulus") ["code", "place"] (spRm K) := ok_read_modulus T
  have G_read_pattern : OkF P w K mg base 5 (He.ga K "read_pattern") ["code", "place"] (spRp K) := ok_read_pattern T
  have G_init : OkF P w K mg base 6 (He.ma K (He.ga K "Hall") "__init__") ["self", "modulus", "takes", "calls", "lateness"] (spInit (He.ga K "Hall")) := ok_init T
  refine FnP.okF T.f_decode sc_decode (fun _ _ _ _ _ _ us hl => match us, hl with | [_], _ => rfl) (fun vs H Q E h => ?_) (fun cdv A outer s H vs Q E hr h => ?_)
  · obtain ⟨c, m, lt, tk, cl, rfl, _⟩ := h
    rfl
  obtain ⟨c, m, lt, tk, cl, rfl, hc, hP, k⟩ := h
  refine ⟨_, (pss_cons (ps_if (pt_not (pt_val (pe_callB (isiK (K := K)) (by rfl) T.g_isinstance (by decide +kernel) (pa_cons (pv 0) (pa_cons (pe_bltn (v := .ty "list") (by rfl) T.g_list boot_ty_list rfl) pa_nil))))) (pss_one ps_never) pss_nil)
    (pss_cons (ps_expr (pe_call G_read_byte.one (hr.mono (by decide)) (by rfl) T.g_read_byte G_read_byte.kp G_read_byte.two .nil passL (pa_cons (pv 0) (pa_cons pe_int (pa_cons (pe_gint (by rfl) T.c_FIRST_BYTE) (pa_cons (pe_gint (by rfl) T.c_FIRST_BYTE) pa_nil))))))
    (pss_cons (ps_set (i := 1) sc_decode.nd rfl (Or.inl rfl) (pe_call G_read_modulus.one (hr.mono (by decide)) (by rfl) T.g_read_modulus G_read_modulus.kp G_read_modulus.two .nil passL (pa_cons (pv 0) (pa_cons pe_int pa_nil))))
    (pss_cons (ps_set (i := 2) sc_decode.nd rfl (Or.inl rfl) (pe_call G_read_pattern.one (hr.mono (by decide)) (by rfl) T.g_read_pattern G_read_pattern.kp G_read_pattern.two .nil passL (pa_cons (pv 0) (pa_cons pe_int pa_nil))))
    (pss_cons (ps_set (i := 3) sc_decode.nd rfl (Or.inl rfl) (pe_op op_add pe_int (pe_callB (lenK (K := K)) (by rfl) T.g_len (by decide +kernel) (pa_cons (pv 2) pa_nil))))
    (pss_cons (ps_set (i := 4) sc_decode.nd rfl (Or.inl rfl) (pe_call G_read_pattern.one (hr.mono (by decide)) (by rfl) T.g_read_pattern G_read_pattern.kp G_read_pattern.two .nil passL (pa_cons (pv 0) (pa_cons (pv 3) pa_nil))))
    (pss_cons (ps_set (i := 5) sc_decode.nd rfl (Or.inl rfl) (pe_op op_add (pe_op op_add (pv 3) pe_int) (pe_callB (lenK (K := K)) (by rfl) T.g_len (by decide +kernel) (pa_cons (pv 4) pa_nil))))
    (pss_cons (ps_set (i := 6) sc_decode.nd rfl (Or.inl rfl) (pe_call G_read_byte.one (hr.mono (by decide)) (by rfl) T.g_read_byte G_read_byte.kp G_read_byte.two .nil passL (pa_cons (pv 0) (pa_cons (pv 5) (pa_cons pe_int (pa_cons (pe_gint (by rfl) T.c_GREATEST_LATENESS) pa_nil))))))
    (pss_cons (ps_set (i := 7) sc_decode.nd rfl (Or.inl rfl) (pe_op op_add (pv 5) pe_int))
    (pss_cons (ps_set (i := 8) sc_decode.nd rfl (Or.inl rfl) (pe_call G_checksum.one (hr.mono (by decide)) (by rfl) T.g_checksum G_checksum.kp G_checksum.two .nil passL (pa_cons (pe_slice (slLK (K := K)) (pv 0) po_none (po_some (pv 7))) pa_nil)))
    (pss_cons (ps_expr (pe_call G_read_byte.one (hr.mono (by decide)) (by rfl) T.g_read_byte G_read_byte.kp G_read_byte.two .nil passL (pa_cons (pv 0) (pa_cons (pv 7) (pa_cons (pv 8) (pa_cons (pv 8) pa_nil))))))
    (pss_cons (ps_if (pt_cmpR op_gt (pe_callB (lenK (K := K)) (by rfl) T.g_len (by decide +kernel) (pa_cons (pv 0) pa_nil)) (pe_op op_add (pv 7) pe_int) (nomark _)) (pss_one ps_never) pss_nil)
    (pss_one (ps_ret (pe_make T.mk_Hall G_init.one (hr.mono (by decide)) (by rfl) T.g_Hall G_init.two .nil passL (pa_cons (pv 1) (pa_cons (pv 2) (pa_cons (pv 4) (pa_cons (pv 6) pa_nil))))))))))))))))))), ?_⟩
  walk_at "rd"
  have m2 := hP.m2
  have m4 := hP.m4
  have l99 := hP.l99
  refine ⟨_, .ty "list", _, _, true, rfl, .ty "list", .base (.lst hc), kit_at (by decide +kernel), ?_⟩
  walk_at "rd"
  refine ⟨c, _, 0, 84, _, _, rfl, SqL.of hc, encN_at rfl, by decide, by decide, ?_⟩
  walk_at "rd"
  refine ⟨c, _, 1, m, rfl, SqL.of hc, encN_at rfl, encN_at rfl, m2, m4, ?_⟩
  walk_at "rd"
  refine ⟨c, _, 3, tk, rfl, SqL.of hc, encN_at rfl, hP.tkP, fun i x hx => encN_at (by rw [show 3 + 1 + i = 4 + i by omega]; exact enc_tk hx), fun tp H1 n1 S1 h1 => ?_⟩
  walk_at "rd"
  have e1 : V.int (4 + (((tk.map vn).length : Nat) : Int)) = vn (4 + tk.length) := vn_int (by rw [List.length_map]; omega)
  rw [e1]
  refine ⟨c, _, 4 + tk.length, cl, rfl, SqL.of (S1 _ _ hc), encN_at enc_cn, hP.clP, fun i x hx => encN_at (enc_cl hx), fun cp H2 n2 S2 h2 => ?_⟩
  walk_at "rd"
  have e2 : V.int (((4 + tk.length : Nat) : Int) + 1 + (((cl.map vn).length : Nat) : Int)) = vn (4 + tk.length + 1 + cl.length) := vn_int (by rw [List.length_map]; omega)
  rw [e2]
  have hc2 := S2 _ _ (S1 _ _ hc)
  refine ⟨c, _, 4 + tk.length + 1 + cl.length, lt, _, _, rfl, SqL.of hc2, encN_at enc_lt, by omega, by omega, ?_⟩
  walk_at "rd"
  refine Rd.slL (SqL.of hc2) fun p3 H3 n3 S3 h3 => ?_
  rw [cut_preI _ (n := (encH m tk cl lt).length) (by rw [encH_len]; omega)] at h3
  have e3 : ((encN m tk cl lt).map vn).take (encH m tk cl lt).length = (encH m tk cl lt).map vn := by
    unfold encN
    rw [List.map_append, List.take_left' (by simp)]
  rw [e3] at h3
  walk_at "rd"
  refine ⟨p3, _, rfl, SqL.of h3, ?_⟩
  walk_at "rd"
  have lenH : (encH m tk cl lt).length = tk.length + cl.length + 6 := encH_len
  have e4 : V.int (((4 + tk.length + 1 + cl.length : Nat) : Int) + 1) = vn (encH m tk cl lt).length := vn_int (by omega)
  rw [e4]
  refine ⟨c, _, (encH m tk cl lt).length, (encH m tk cl lt).sum % 256, _, _, rfl, SqL.of (S3 _ _ hc2), ?_, Int.le_refl _, Int.le_refl _, ?_⟩
  · unfold encN
    rw [List.getElem?_append_right (Nat.le_refl _)]
    simp
  walk_at "rd"
  refine Rd.dF (by rw [List.length_map, encN_len]; omega) ?_
  walk_at "rd"
  rename_i h lp H4 nh nl S4 hA
  exact k h lp H4 (Same.fr S1 (Same.fr S2 (Same.fr S3 nh))) (Same.fr S1 (Same.fr S2 (Same.fr S3 nl))) (((S1.trans S2).trans S3).trans S4) hA
end
namespace Rd
variable {K : PySem.W.Frag} {H : Hp} {Q : VK} {E : XK} {C h lp : Addr} {m lt : Nat} {tk cl : List Nat}
theorem h_enc (hA : HallAt C H h m tk cl lt lp) (k : ∀ l H', H l = none → Same H H' → H' l = some (.lst ((encN m tk cl lt).map vn)) → Q (.ref l) H') : spEnc C [.ref h] H Q E := ⟨h, lp, m, lt, tk, cl, rfl, hA, k⟩
theorem h_dec {c : Addr} (hc : H c = some (.lst ((encN m tk cl lt).map vn))) (hP : Parts m tk cl lt) (k : ∀ h lp H', H h = none → H lp = none → Same H H' → HallAt C H' h m tk cl lt lp → Q (.ref h) H') : spDec K C [.ref c] H Q E := ⟨c, m, lt, tk, cl, rfl, hc, hP, k⟩
end Rd
end Tk

end

section
local macro_rules | `(tactic| walk_at "hp") => `(tactic| first
  | assumption
  | with_reducible exact L2.upd_same
  | ((with_reducible refine' Tk.Same.get ?k0 ?k1); (case k0 => assumption); (case k1 => walk_at "hp"))
  | fail "hp")
local macro_rules | `(tactic| walk_at "same") => `(tactic| first
  | assumption
  | exact L2.Same.refl _
  | ((with_reducible refine' Tk.Same.nw ?k0 ?k1); (case k0 => assumption); (case k1 => walk_at "same"))
  | ((with_reducible refine' Tk.Same.tr ?k0 ?k1); (case k0 => assumption); (case k1 => walk_at "same")))
local macro_rules | `(tactic| walk_at "sql") => `(tactic| first
  | assumption
  | ((with_reducible refine' L2.SqL.of ?k0); (case k0 => walk_at "hp"))
  | ((with_reducible refine' L2.Same.seq ?k0 ?k1); (case k0 => assumption); (case k1 => walk_at "sql")))
local macro_rules | `(tactic| walk_at "sqt") => `(tactic| first
  | assumption
  | ((with_reducible refine' L2.SqT.of ?k0); (case k0 => walk_at "hp"))
  | ((with_reducible refine' Tk.sqt_sm ?k0 ?k1); (case k0 => assumption); (case k1 => walk_at "sqt")))
local macro_rules | `(tactic| walk_at "sz") => `(tactic| first
  | (show (_ : Nat) ≤ 1000; decide)
  | (simp; done)
  | (simp; omega))
local macro_rules | `(tactic| walk_at "szb") => `(tactic| first
  | assumption
  | (show (_ : Nat) ≤ 100000; decide)
  | (simp; done)
  | (simp; omega))
local macro_rules | `(tactic| walk_at "dp") => `(tactic| first
  | assumption
  | with_reducible exact L2.Dp.non
  | with_reducible exact L2.Dp.int _
  | with_reducible exact L2.Dp.str _
  | with_reducible exact L2.Dp.bl _
  | ((with_reducible refine' L2.Dp.lst ?k0 ?k1); (case k0 => walk_at "sql"); (case k1 => walk_at "dpa"))
  | ((with_reducible refine' L2.Dp.tup ?k0 ?k1); (case k0 => walk_at "sqt"); (case k1 => walk_at "dpa"))
  | ((with_reducible refine' Tk.dp_sm ?k0 ?k1); (case k0 => assumption); (case k1 => walk_at "dp"))
  | fail "dp")
local macro_rules | `(tactic| walk_at "dpa") => `(tactic| first
  | assumption
  | with_reducible exact L2.DpAll.nil
  | ((with_reducible refine' L2.DpAll.cons ?k0 ?k1); (case k0 => walk_at "dp"); (case k1 => walk_at "dpa"))
  | with_reducible exact Tk.dp_nats _
  | ((with_reducible refine' Tk.dpA_sm ?k0 ?k1); (case k0 => assumption); (case k1 => walk_at "dpa"))
  | fail "dpa")
local macro_rules | `(tactic| walk_at "ci") => `(tactic| first
  | exact .inl ⟨by decide, by decide⟩
  | exact .inr ⟨by decide, by decide⟩
  | exact .inl ⟨by omega, by omega⟩
  | exact .inr ⟨by omega, by omega⟩
  | exact ⟨by decide, by decide⟩
  | exact ⟨by omega, by omega⟩
  | (show (0 : Int) < _; decide)
  | (show (0 : Int) < _; omega))
local macro_rules | `(tactic| walk_at "rd1") => `(tactic| first
  | with_reducible refine Tk.Rd.seq ?_
  | with_reducible refine Tk.Rd.star ?_
  | with_reducible refine Tk.Rd.int1_i ?_
  | with_reducible refine Tk.Rd.int1_b ?_
  | with_reducible refine Tk.Rd.tlc2 ?_
  | with_reducible refine Tk.Rd.lrg3 ?_
  | with_reducible refine Tk.Rd.lrg ?_
  | with_reducible refine Tk.Rd.rg1 ?_
  | with_reducible refine Tk.Rd.rg1K_i ?_
  | with_reducible refine Tk.Rd.rg2 ?_
  | with_reducible refine Tk.Rd.rg2K_i ?_
  | ((with_reducible refine' Tk.Rd.catL ?k0 ?k1 ?k2 fun p H' np S hp => ?_); (case k0 => walk_at "hp"); (case k1 => walk_at "hp"); (case k2 => walk_at "szb"))
  | ((with_reducible refine' Tk.Rd.starK_t ?k0 ?_); (case k0 => walk_at "sqt"))
  | ((with_reducible refine' Tk.Rd.starK_l ?k0 ?_); (case k0 => walk_at "sql"))
  | ((with_reducible refine' Tk.Rd.var ?k0 ?_); (case k0 => exact rfl))
  | with_reducible refine Tk.Rd.c ?_
  | with_reducible refine Tk.Rd.op ?_
  | with_reducible refine Tk.Rd.i0 ?_
  | with_reducible refine Tk.Rd.asg ?_
  | with_reducible refine Tk.Rd.name ?_
  | with_reducible refine Tk.Rd.cons ?_
  | with_reducible refine Tk.Rd.nil ?_
  | with_reducible refine Tk.Rd.call ?_
  | with_reducible refine Tk.Rd.callK_i ?_
  | with_reducible refine Tk.Rd.tst ?_
  | with_reducible refine Tk.Rd.bv ?_
  | with_reducible refine Tk.Rd.toB_i ?_
  | with_reducible refine Tk.Rd.ift ?_
  | with_reducible refine Tk.Rd.iff ?_
  | with_reducible refine Tk.Rd.ifnt ?_
  | with_reducible refine Tk.Rd.ifnf ?_
  | with_reducible refine Tk.Rd.not ?_
  | with_reducible refine Tk.Rd.and ?_
  | with_reducible refine Tk.Rd.or ?_
  | with_reducible refine Tk.Rd.andV ?_
  | with_reducible refine Tk.Rd.andK_i ?_
  | with_reducible refine Tk.Rd.orV ?_
  | with_reducible refine Tk.Rd.orK_i ?_
  | with_reducible refine Tk.Rd.notV ?_
  | with_reducible refine Tk.Rd.notK_i ?_
  | with_reducible refine Tk.Rd.tif ?_
  | with_reducible refine Tk.Rd.yes ?_
  | with_reducible refine Tk.Rd.tfor ?_
  | with_reducible refine Tk.Rd.tlc ?_
  | with_reducible refine Tk.Rd.rng ?_
  | ((with_reducible refine' Tk.Rd.rngK_n ?k0 ?_); (case k0 => first | decide | omega))
  | ((with_reducible refine' Tk.Rd.rngK_lit ?k0 ?_); (case k0 => decide))
  | with_reducible refine Tk.Rd.rng2 ?_
  | with_reducible refine Tk.Rd.rng3 ?_
  | with_reducible refine Tk.Rd.ilist ?_
  | with_reducible refine Tk.Rd.zip ?_
  | with_reducible refine Tk.Rd.itup ?_
  | ((with_reducible refine' Tk.Rd.listK_i ?k0 ?_); (case k0 => walk_at "sql"))
  | ((with_reducible refine' Tk.Rd.ituK_i ?k0 ?_); (case k0 => walk_at "sqt"))
  | with_reducible refine Tk.Rd.chain ?_
  | with_reducible refine Tk.Rd.chainL_i ?_
  | with_reducible refine Tk.Rd.un ?_
  | with_reducible refine Tk.Rd.u1 ?_
  | ((with_reducible refine' Tk.Rd.i1 ?k0 ?_); (case k0 => walk_at "ci"))
  | ((with_reducible refine' Tk.Rd.eq ?k0 ?_); (case k0 => exact rfl))
  | ((with_reducible refine' Tk.Rd.ne ?k0 ?_); (case k0 => exact rfl))
  | with_reducible refine Tk.Rd.isN ?_
  | with_reducible refine Tk.Rd.notN ?_
  | with_reducible refine Tk.Rd.fld ?_
  | with_reducible refine Tk.Rd.meth ?_
  | with_reducible refine Tk.Rd.prop ?_
  | with_reducible refine Tk.Rd.cb ?_
  | with_reducible refine Tk.Rd.bm ?_
  | with_reducible refine Tk.Rd.m0 ?_
  | with_reducible refine Tk.Rd.m0K_i ?_
  | with_reducible refine Tk.Rd.m1 ?_
  | with_reducible refine Tk.Rd.m1K_i ?_
  | with_reducible refine Tk.Rd.tup ?_
  | ((with_reducible refine' Tk.Rd.tupK_i ?k0 fun p H' np S hp => ?_); (case k0 => walk_at "sz"))
  | with_reducible refine Tk.Rd.lst ?_
  | ((with_reducible refine' Tk.Rd.lstK_i ?k0 fun p H' np S hp => ?_); (case k0 => walk_at "sz"))
  | ((with_reducible refine' Tk.Rd.ixF ?k0 ?k1 ?_); (case k0 => walk_at "hp"); (case k1 => omega))
  | ((with_reducible refine' Tk.Rd.ixF1 ?k0 ?k1 ?_); (case k0 => walk_at "hp"); (case k1 => omega))
  | ((with_reducible refine' Tk.Rd.ixT ?k0 ?k1 ?_); (case k0 => walk_at "sqt"); (case k1 => exact rfl))
  | ((with_reducible refine' Tk.Rd.ixL ?k0 ?k1 ?_); (case k0 => walk_at "sql"); (case k1 => exact rfl))
  | ((with_reducible refine' Tk.Rd.lenL ?k0 ?_); (case k0 => walk_at "sql"))
  | ((with_reducible refine' Tk.Rd.lenT ?k0 ?_); (case k0 => walk_at "sqt"))
  | ((with_reducible refine' Tk.Rd.lenS ?k0 ?_); (case k0 => first | assumption | omega | (simp; omega)))
  | ((with_reducible refine' Tk.Rd.slTr ?k0 fun p H' S hp => ?_); (case k0 => walk_at "hp"))
  | ((with_reducible refine' Tk.Rd.slT ?k0 fun p H' S hq => ?_); (case k0 => walk_at "sqt"))
  | ((with_reducible refine' Tk.Rd.catTr ?k0 ?k1 ?k2 fun p H' S hp => ?_); (case k0 => walk_at "hp"); (case k1 => walk_at "hp"); (case k2 => walk_at "sz"))
  | ((with_reducible refine' Tk.Rd.catA ?k0 ?k1 ?k2 ?k3 ?k4 fun p H' np S hp => ?_); (case k0 => walk_at "sqt"); (case k1 => walk_at "sqt"); (case k2 => simp); (case k3 => simp); (case k4 => first | (simp; done) | (simp; omega)))
  | with_reducible refine Tk.Rd.make ?_
  | ((with_reducible refine' Tk.Rd.tplL ?k0 fun q H' nq S hq => ?_); (case k0 => walk_at "sql"))
  | ((with_reducible refine' Tk.Rd.lstL ?k0 fun q H' nq S hq => ?_); (case k0 => walk_at "sql"))
  | ((with_reducible refine' Tk.Rd.lstT ?k0 fun q H' nq S hq => ?_); (case k0 => walk_at "sqt"))
  | ((with_reducible refine' Tk.Rd.join ?k0 ?k1 ?_); (case k0 => walk_at "sql"); (case k1 => first | assumption | omega))
  | with_reducible refine Tk.Rd.mx ?_
  | with_reducible refine Tk.Rd.mn ?_
  | with_reducible refine Tk.Rd.noPart ?_
  | with_reducible refine Tk.Rd.part ?_
  | with_reducible refine Tk.Rd.partK_i ?_
  | with_reducible refine Tk.Rd.slc ?_
  | ((with_reducible refine' Tk.Rd.gtup ?k0 ?k1 ?_); (case k0 => walk_at "sqt"); (case k1 => exact rfl))
  | ((with_reducible refine' Tk.Rd.glst ?k0 ?k1 ?_); (case k0 => walk_at "sql"); (case k1 => exact rfl))
  | with_reducible refine Tk.Rd.gcons ?_
  | with_reducible refine Tk.Rd.gnil ?_
  | with_reducible refine Tk.Rd.next ?_
  | with_reducible refine Tk.Rd.drop ?_
  | with_reducible refine Tk.Rd.ret ?_
  | with_reducible refine Tk.Rd.retN ?_
  | with_reducible refine Tk.Rd.par ?_
  | with_reducible refine Tk.Rd.parK_i ?_
  | with_reducible refine Tk.Rd.par3 ?_
  | with_reducible refine Tk.Rd.par3K_i ?_
  | ((with_reducible refine' Tk.Rd.aug ?k0 ?_); (case k0 => exact rfl))
  | with_reducible refine Tk.Rd.ip ?_
  | ((with_reducible refine' Tk.Rd.bmK_l ?k0 ?_); (case k0 => walk_at "sql"))
  | ((with_reducible refine' Tk.Rd.addS ?k0 ?_); (case k0 => walk_at "sz"))
  | fail "rd1")
local macro_rules | `(tactic| walk_at "rd1i") => `(tactic| first
  | walk_at "rd1"
  | with_reducible refine Tk.Rd.ifS ?_
  | fail "rd1i")
local macro_rules | `(tactic| walk_at "rd") => `(tactic| (repeat' walk_at "rd1i"))
local macro_rules | `(tactic| walk_at "rs") => `(tactic| ((repeat' walk_at "rd1"); (try dsimp only)))
local macro_rules | `(tactic| walk_at "hall") => `(tactic| first
  | assumption
  | ((with_reducible refine' Tk.HallAt.sm ?k0 ?k1); (case k0 => assumption); (case k1 => walk_at "hall"))
  | fail "hall")
local macro_rules | `(tactic| walk_at "parts") => `(tactic| first
  | assumption
  | ((with_reducible refine' Tk.PartsAt.sm ?k0 ?k1); (case k0 => assumption); (case k1 => walk_at "parts"))
  | fail "parts")
local macro_rules | `(tactic| walk_at "sm") => `(tactic| first
  | assumption
  | exact Tk.Sm.int rfl
  | exact Tk.Sm.flat1 rfl
  | ((with_reducible refine' Tk.Sm.sm ?k0 ?k1); (case k0 => assumption); (case k1 => walk_at "sm"))
  | fail "sm")
local macro_rules | `(tactic| walk_at "rd1") => `(tactic| first
  | ((with_reducible refine' Tk.Rd.f_modulus ?k0 ?k1 ?_); (case k0 => assumption); (case k1 => walk_at "hall"))
  | ((with_reducible refine' Tk.Rd.f_lateness ?k0 ?k1 ?_); (case k0 => assumption); (case k1 => walk_at "hall"))
  | ((with_reducible refine' Tk.Rd.f_takes ?k0 ?k1 fun tp htp => ?_); (case k0 => assumption); (case k1 => walk_at "hall"))
  | ((with_reducible refine' Tk.Rd.f_calls ?k0 ?k1 fun cp hcp => ?_); (case k0 => assumption); (case k1 => walk_at "hall"))
  | ((with_reducible refine' Tk.Rd.h_meth ?k0 ?k1 ?_); (case k0 => walk_at "hall"); (case k1 => decide +kernel))
  | ((with_reducible refine' Tk.Rd.h_prop ?k0 ?_); (case k0 => walk_at "hall"))
  | ((with_reducible refine' Tk.Rd.h_taken0 ?k0 fun H' S => ?_); (case k0 => walk_at "hall"))
  | ((with_reducible refine' Tk.Rd.h_taken1 ?k0 fun H' S => ?_); (case k0 => walk_at "hall"))
  | ((with_reducible refine' Tk.Rd.h_takenL ?k0 fun H' S => ?_); (case k0 => walk_at "hall"))
  | ((with_reducible refine' Tk.Rd.h_called0 ?k0 ?_); (case k0 => walk_at "hall"))
  | ((with_reducible refine' Tk.Rd.h_called1 ?k0 ?_); (case k0 => walk_at "hall"))
  | ((with_reducible refine' Tk.Rd.h_calledL ?k0 ?_); (case k0 => walk_at "hall"))
  | ((with_reducible refine' Tk.Rd.h_waiting ?k0 ?k1 fun H' S => ?_); (case k0 => walk_at "hall"); (case k1 => omega))
  | ((with_reducible refine' Tk.Rd.h_growth ?k0 fun H' S => ?_); (case k0 => walk_at "hall"))
  | ((with_reducible refine' Tk.Rd.h_period ?k0 ?_); (case k0 => walk_at "hall"))
  | ((with_reducible refine' Tk.Rd.h_lhall ?k0 fun h lp H' nh nl S hA => ?_); (case k0 => walk_at "parts"))
  | ((with_reducible refine' Tk.Rd.h_length ?k0 ?_); (case k0 => walk_at "parts"))
  | ((with_reducible refine' Tk.Rd.h_counts ?k0 ?k1 fun r a b H' nr na nb nab S hr ha hb => ?_); (case k0 => walk_at "parts"); (case k1 => omega))
  | ((with_reducible refine' Tk.Rd.h_countsL ?k0 ?k1 fun r a b H' nr na nb nab S hr ha hb => ?_); (case k0 => walk_at "parts"); (case k1 => decide))
  | ((with_reducible refine' Tk.Rd.h_make ?k0 ?k1 ?k2 fun h lp H' nh nl S hA => ?_); (case k0 => assumption); (case k1 => walk_at "hp"); (case k2 => walk_at "hp"))
  | ((with_reducible refine' Tk.Rd.p_0 ?k0 ?_); (case k0 => walk_at "parts"))
  | ((with_reducible refine' Tk.Rd.p_1 ?k0 fun htp => ?_); (case k0 => walk_at "parts"))
  | ((with_reducible refine' Tk.Rd.p_2 ?k0 fun hcp => ?_); (case k0 => walk_at "parts"))
  | ((with_reducible refine' Tk.Rd.p_3 ?k0 ?_); (case k0 => walk_at "parts"))
  | fail "rd1")
local macro_rules | `(tactic| walk_at "sqt") => `(tactic| first | ((with_reducible refine' Tk.PartsAt.sq ?k0); (case k0 => walk_at "parts")) | fail "sqt")
local macro_rules | `(tactic| walk_at "free") => `(tactic| first
  | assumption
  | ((with_reducible refine' Tk.Same.fr ?k0 ?k1); (case k0 => assumption); (case k1 => walk_at "free")))
local macro_rules | `(tactic| walk_at "hp") => `(tactic| first
  | ((with_reducible refine' Tk.But.gt ?k0 ?k1 ?k2); (case k0 => assumption); (case k1 => assumption); (case k2 => walk_at "hp"))
  | ((with_reducible refine' Tk.But.gl ?k0 ?k1 ?k2); (case k0 => assumption); (case k1 => assumption); (case k2 => walk_at "hp"))
  | fail "hp")
local macro_rules | `(tactic| walk_at "hall") => `(tactic| first | ((with_reducible refine' Tk.HallAt.bt ?k0 ?k1 ?k2 ?k3); (case k0 => assumption); (case k1 => assumption); (case k2 => assumption); (case k3 => walk_at "hall")) | fail "hall")
local macro_rules | `(tactic| walk_at "parts") => `(tactic| first | ((with_reducible refine' Tk.PartsAt.bt ?k0 ?k1 ?k2); (case k0 => assumption); (case k1 => assumption); (case k2 => walk_at "parts")) | fail "parts")
local macro_rules | `(tactic| walk_at "rd1") => `(tactic| first
  | ((with_reducible refine' Tk.Rd.h_below ?k0 ?k1 ?k2 ?k3 fun r H' cs hr B hd hcs => ?_); (case k0 => walk_at "hp"); (case k1 => assumption); (case k2 => first | decide | omega); (case k3 => first | decide | omega))
  | ((with_reducible refine' Tk.Rd.h_parts ?k0 ?k1 ?k2 ?k3 fun t tp cp m lt tk cl H' cs nt B hd hcs hP l1 l2 => ?_); (case k0 => walk_at "hp"); (case k1 => assumption); (case k2 => first | decide | omega); (case k3 => first | decide | omega))
  | ((with_reducible refine' Tk.Rd.h_partsL ?k0 ?k1 ?k2 ?k3 fun t tp cp m lt tk cl H' cs nt B hd hcs hP l1 l2 => ?_); (case k0 => walk_at "hp"); (case k1 => assumption); (case k2 => first | decide | omega); (case k3 => first | decide | omega))
  | ((with_reducible refine' Tk.Rd.h_small ?k0 ?k1 fun t tp cp m lt tk cl H' cs nt B hd hcs hP m1 l1 l2 l3 => ?_); (case k0 => walk_at "hp"); (case k1 => assumption))
  | ((with_reducible refine' Tk.Rd.h_tick ?k0 ?k1 fun t H' cs ht B hd hcs => ?_); (case k0 => walk_at "hp"); (case k1 => assumption))
  | ((with_reducible refine' Tk.Rd.h_mo ?k0 fun v H' S hv => ?_); (case k0 => walk_at "hall"))
  | ((with_reducible refine' Tk.Rd.h_lc ?k0 fun v H' S hv => ?_); (case k0 => walk_at "hall"))
  | ((with_reducible refine' Tk.Rd.h_lm ?k0 fun v H' S hv => ?_); (case k0 => walk_at "hall"))
  | ((with_reducible refine' Tk.Rd.h_gl ?k0 fun v H' S hv => ?_); (case k0 => walk_at "hall"))
  | ((with_reducible refine' Tk.Rd.h_ot ?k0 ?k1 fun r H' nr S hr => ?_); (case k0 => walk_at "hall"); (case k1 => first | assumption | omega))
  | ((with_reducible refine' Tk.Rd.h_most2 ?k0 fun v H' S hv => ?_); (case k0 => walk_at "parts"))
  | ((with_reducible refine' Tk.Rd.h_opens2L ?k0 ?k1 fun l ys H' nl S hl hlen hR => ?_); (case k0 => walk_at "parts"); (case k1 => decide))
  | ((with_reducible refine' Tk.Rd.h_opens2 ?k0 ?k1 fun l ys H' nl S hl hlen hR => ?_); (case k0 => walk_at "parts"); (case k1 => first | decide | omega))
  | fail "rd1")
local macro_rules | `(tactic| walk_at "ok") => `(tactic| first
  | assumption
  | ((with_reducible refine' Tk.HallAt.ok ?k0); (case k0 => walk_at "hall"))
  | ((with_reducible refine' Tk.PartsAt.ok ?k0); (case k0 => walk_at "parts"))
  | fail "ok")
local macro_rules | `(tactic| walk_at "sml") => `(tactic| first
  | exact Tk.Sml.ints (by walk_at "szb")
  | exact Tk.Sml.intsT (by walk_at "szb")
  | trivial
  | (simp [Tk.Sml]; done)
  | (simp [Tk.Sml]; omega)
  | fail "sml")
local macro_rules | `(tactic| walk_at "rd1") => `(tactic| first
  | ((with_reducible refine' Tk.Rd.nT ?k0 ?_); (case k0 => with_reducible exact rfl))
  | ((with_reducible refine' Tk.Rd.dT ?k0 ?_); (case k0 => with_reducible exact rfl))
  | with_reducible refine Tk.Rd.nF Tk.Rd.int_non ?_
  | with_reducible refine Tk.Rd.nF Tk.Rd.ref_non ?_
  | with_reducible refine Tk.Rd.dF Tk.Rd.int_non ?_
  | with_reducible refine Tk.Rd.dF Tk.Rd.ref_non ?_
  | ((with_reducible refine' Tk.Rd.h_disp ?k0 ?k1 ?_); (case k0 => first | assumption | omega); (case k1 => walk_at "hall"))
  | ((with_reducible refine' Tk.Rd.h_hold ?k0 ?k1 ?k2 ?k3 fun l H' nl S hl => ?_); (case k0 => walk_at "hall"); (case k1 => first | assumption | omega); (case k2 => first | assumption | omega); (case k3 => first | assumption | omega))
  | ((with_reducible refine' Tk.Rd.h_mis ?k0 ?k1 ?k2 fun l ys H' nl S hl hd => ?_); (case k0 => walk_at "hall"); (case k1 => first | assumption | omega); (case k2 => first | assumption | omega))
  | ((with_reducible refine' Tk.Rd.h_enc ?k0 fun l H' nl S hl => ?_); (case k0 => walk_at "hall"))
  | ((with_reducible refine' Tk.Rd.h_dec ?k0 ?k1 fun h lp H' nh nl S hA => ?_); (case k0 => walk_at "hp"); (case k1 => walk_at "ok"))
  | ((with_reducible refine' Tk.Rd.h_text ?k0 fun H' S => ?_); (case k0 => walk_at "hall"))
  | ((with_reducible refine' Tk.Rd.h_eqd ?k0 ?k1 ?k2 fun H' S => ?_); (case k0 => walk_at "dp"); (case k1 => walk_at "dp"); (case k2 => walk_at "sml"))
  | ((with_reducible refine' Tk.Rd.eqd ?k0 ?k1 ?k2 ?k3 ?_); (case k0 => walk_at "dp"); (case k1 => walk_at "dp"); (case k2 => walk_at "sml"); (case k3 => walk_at "sml"))
  | ((with_reducible refine' Tk.Rd.ned ?k0 ?k1 ?k2 ?k3 ?_); (case k0 => walk_at "dp"); (case k1 => walk_at "dp"); (case k2 => walk_at "sml"); (case k3 => walk_at "sml"))
  | fail "rd1")
/-! ### Bytes read, whatever stands there -/
namespace Tk
open PySem PySem.Spec PyProof.Rows L2 Mm
abbrev RaisesC (K : PySem.W.Frag) (E : XK) (H : Hp) (i : Nat) : Prop := ∀ d H', H d = none → Same H H' → H' d = some (.xd [("place", .int (i : Int))]) → E (.ref (He.ga K "InvalidCode")) (some d) H'
def byteAt (xs : List V) (p : Nat) (lo hi : Int) : Option V := match xs[p]? with
  | some v => if inB lo hi v = true then some v else none
  | none => none
def spRbX (K : PySem.W.Frag) : Sp := fun vs H Q E => ∃ (c : Addr) (xs : List V) (p : Nat) (lo hi : Int), vs = [.ref c, vn p, .int lo, .int hi] ∧ SqL K H c xs ∧ p ≤ 10000 ∧ (∀ v ∈ xs, Arg H v) ∧ (∀ v, byteAt xs p lo hi = some v → Q v H) ∧ (byteAt xs p lo hi = none → RaisesC K E H p)
theorem byte_int {xs : List V} {p : Nat} {lo hi : Int} {v : V} (h : byteAt xs p lo hi = some v) : ∃ i, v = .int i ∧ lo ≤ i ∧ i ≤ hi := by
  unfold byteAt at h
  cases e : xs[p]? with
  | none => rw [e] at h; cases h
  | some u =>
    rw [e] at h
    have h : (if inB lo hi u = true then some u else none) = some v := h
    cases hb : inB lo hi u with
    | false => rw [hb] at h; cases h
    | true =>
      rw [hb] at h
      cases h
      cases v with
      | int i =>
        have hb : (decide (lo ≤ i) && decide (i ≤ hi)) = true := hb
        simp only [Bool.and_eq_true, decide_eq_true_eq] at hb
        exact ⟨i, rfl, hb.1, hb.2⟩
      | _ => cases hb
/-- the second byte of a modulus, after the first one -/
abbrev mod2 (xs : List V) (p : Nat) (i : Int) : Option V := byteAt xs (p + 1) (max (2 - i * 256) 0) (min (10000 - i * 256) 255)
def spRmX (K : PySem.W.Frag) : Sp := fun vs H Q E => ∃ (c : Addr) (xs : List V) (p : Nat), vs = [.ref c, vn p] ∧ SqL K H c xs ∧ p ≤ 9000 ∧ (∀ v ∈ xs, Arg H v) ∧ (byteAt xs p 0 39 = none → RaisesC K E H p) ∧
  ∀ i, byteAt xs p 0 39 = some (.int i) → (mod2 xs p i = none → RaisesC K E H (p + 1)) ∧ ∀ j, mod2 xs p i = some (.int j) → Q (.int (i * 256 + j)) H
theorem natlen {p : Nat} (h : p ≤ 10000) : (p : Int).natAbs.log2 < 1920 ∧ (toString (p : Int) : Str).length ≤ 1000000 :=
  ⟨log_small h, Nat.le_trans (Tx.num_len h) (by decide)⟩
section
variable {P : Program} {w : World} {K : PySem.W.Frag} {mg : Str → Option Value} {base : Heap}
theorem ok_read_byteX (T : Txt K mg) (hP : Ex.PF P) : OkF P w K mg base 4 (He.ga K "read_byte") ["code", "place", "least", "greatest"] (spRbX K) := by
  have G_is_integer_within : OkF P w K mg base 1 (He.ga K "is_integer_within") ["value", "low", "high"] spWithin := ok_is_integer_within T
  have GX_InvalidCode : OkF P w K mg base 2 (He.ma K (He.ga K "InvalidCode") "__init__") ["self", "place"] (Ex.spIni1 (He.ga K "InvalidCode") "place") := ok_xi_InvalidCode T hP
  refine FnP.okF T.f_read_byte sc_read_byte (fun _ _ _ _ _ _ us hl => match us, hl with | [_, _, _, _], _ => rfl) (fun vs H Q E h => ?_) (fun cdv A outer s H vs Q E hr h => ?_)
  · obtain ⟨c, xs, p, lo, hi, rfl, _⟩ := h
    rfl
  obtain ⟨c, xs, p, lo, hi, rfl, hc, hp, ha, k1, k2⟩ := h
  refine ⟨_, (pss_cons (ps_if (PW.pt (pw_or (pt_cmpR op_ge (pv 1) (pe_callB (lenK (K := K)) (by rfl) T.g_len (by decide +kernel) (pa_cons (pv 0) pa_nil)) (nomark _)) (pw_or1 (pt_not (pt_val (pe_call G_is_integer_within.one (hr.mono (by decide)) (by rfl) T.g_is_integer_within G_is_integer_within.kp G_is_integer_within.two .nil (passes_call (takes_of rfl rfl rfl rfl) fun _ _ _ _ h => h) (pa_cons (pe_ix (ixLK (K := K)) (pv 0) (pv 1) (fun _ _ => rfl)) (pa_cons (pv 2) (pa_cons (pv 3) pa_nil))))))))) (pss_one (ps_raise rfl (takes_of rfl rfl rfl rfl) (pmk_oex T.x_InvalidCode.sup.oex T.x_InvalidCode.iC T.x_InvalidCode.tI GX_InvalidCode.one (hr.mono (by decide)) GX_InvalidCode.two .nil passL (by rfl) T.g_InvalidCode (pa_cons (pv 1) pa_nil)))) pss_nil)
    (pss_one (ps_ret (pe_ix (ixLK (K := K)) (pv 0) (pv 1) (fun _ _ => rfl))))), ?_⟩
  have raise : byteAt xs p lo hi = none → tMkO (He.ga K "InvalidCode") (Ex.spIni1 (He.ga K "InvalidCode") "place") [] (tCons (tVar 1) tNil) (L2.start N_read_byte [V.ref c, vn p, V.int lo, V.int hi]) H fun cls d H' => E cls d H' :=
    fun e => ⟨vn p, rfl, Rd.mkO1 (natlen hp).1 (natlen hp).2 fun d H' n S h => k2 e d H' n S h⟩
  walk_at "rd"
  by_cases hl : xs.length ≤ p
  · rw [if_pos (decide_eq_true (by omega)), if_pos rfl]
    exact raise (by unfold byteAt; rw [List.getElem?_eq_none hl])
  · rw [if_neg (by rw [decide_eq_false (by omega)]; decide)]
    obtain ⟨v, hv⟩ : ∃ v, xs[p]? = some v := ⟨_, List.getElem?_eq_getElem (by omega)⟩
    have ev : byteAt xs p lo hi = if inB lo hi v = true then some v else none := by
      unfold byteAt
      rw [hv]
    walk_at "rd"
    refine Rd.ixL hc (atn hv) ?_
    walk_at "rd"
    refine ⟨v, lo, hi, rfl, ha v (List.mem_of_getElem? hv), ?_⟩
    cases hb : inB lo hi v with
    | true =>
      walk_at "rd"
      refine Rd.ixL hc (atn hv) ?_
      exact k1 v (by rw [ev, if_pos hb])
    | false =>
      walk_at "rd"
      exact raise (by rw [ev, if_neg (by rw [hb]; decide)])
theorem ok_read_modulusX (T : Txt K mg) (hP : Ex.PF P) : OkF P w K mg base 5 (He.ga K "read_modulus") ["code", "place"] (spRmX K) := by
  have G_read_byte : OkF P w K mg base 4 (He.ga K "read_byte") ["code", "place", "least", "greatest"] (spRbX K) := ok_read_byteX T hP
  refine FnP.okF T.f_read_modulus sc_read_modulus (fun _ _ _ _ _ _ us hl => match us, hl with | [_, _], _ => rfl) (fun vs H Q E h => ?_) (fun cdv A outer s H vs Q E hr h => ?_)
  · obtain ⟨c, xs, p, rfl, _⟩ := h
    rfl
  obtain ⟨c, xs, p, rfl, hc, hp, ha, k1, k2⟩ := h
  refine ⟨_, (pss_cons (ps_set (i := 2) sc_read_modulus.nd rfl (Or.inl rfl) (pe_op op_mul (pe_call G_read_byte.one (hr.mono (by decide)) (by rfl) T.g_read_byte G_read_byte.kp G_read_byte.two .nil (passes_call (takes_of rfl rfl rfl rfl) fun _ _ _ _ h => h) (pa_cons (pv 0) (pa_cons (pv 1) (pa_cons (pe_op op_fdiv (pe_gint (by rfl) T.c_LEAST_MODULUS) (pe_gint (by rfl) T.c_BYTES)) (pa_cons (pe_op op_fdiv (pe_gint (by rfl) T.c_GREATEST_MODULUS) (pe_gint (by rfl) T.c_BYTES)) pa_nil))))) (pe_gint (by rfl) T.c_BYTES)))
    (pss_cons (ps_set (i := 3) sc_read_modulus.nd rfl (Or.inl rfl) (pe_callB (show CallR _ (.builtin "max") Rd.rMax2 from call_max2 (by rfl)) (by rfl) T.g_max (by decide +kernel) (pa_cons (pe_op op_sub (pe_gint (by rfl) T.c_LEAST_MODULUS) (pv 2)) (pa_cons pe_int pa_nil))))
    (pss_cons (ps_set (i := 4) sc_read_modulus.nd rfl (Or.inl rfl) (pe_callB (show CallR _ (.builtin "min") Rd.rMin2 from call_min2 (by rfl)) (by rfl) T.g_min (by decide +kernel) (pa_cons (pe_op op_sub (pe_gint (by rfl) T.c_GREATEST_MODULUS) (pv 2)) (pa_cons (pe_op op_sub (pe_gint (by rfl) T.c_BYTES) pe_int) pa_nil))))
    (pss_one (ps_ret (pe_op op_add (pv 2) (pe_call G_read_byte.one (hr.mono (by decide)) (by rfl) T.g_read_byte G_read_byte.kp G_read_byte.two .nil (passes_call (takes_of rfl rfl rfl rfl) fun _ _ _ _ h => h) (pa_cons (pv 0) (pa_cons (pe_op op_add (pv 1) pe_int) (pa_cons (pv 3) (pa_cons (pv 4) pa_nil))))))))))), ?_⟩
  walk_at "rd"
  refine ⟨c, xs, p, _, _, rfl, hc, by omega, ha, fun v hv => ?_, fun hv => k1 hv⟩
  obtain ⟨i, rfl, i0, i1⟩ := byte_int hv
  obtain ⟨k2, k3⟩ := k2 i hv
  walk_at "rd"
  refine ⟨c, xs, p + 1, _, _, rfl, hc, by omega, ha, fun v hw => ?_, fun hw => k2 hw⟩
  obtain ⟨j, rfl, _, _⟩ := byte_int hw
  walk_at "rd"
  exact k3 j hw
end
end Tk

end

/-! ### Bytes one after the other: what bounds the next one -/
namespace Tk
open PySem PySem.Spec PyProof.Rows L2 Mm
namespace Bt
def lim2 (s : Int) : List Nat → Option (Int × Int)
  | [] => some (0, 99)
  | [_] => some (s, s)
  | _ => none
def lim1 (s : Int) : List Nat → Option (Int × Int)
  | [] => some (1, 12)
  | c :: r => if r.length < c then some (0, 9) else lim2 s (r.drop c)
def lim : List Nat → Option (Int × Int)
  | [] => some (84, 84)
  | [_] => some (0, 39)
  | [_, a] => some (max (2 - (a : Int) * 256) 0, min (10000 - (a : Int) * 256) 255)
  | [_, _, _] => some (1, 12)
  | x :: a :: b :: n :: r => if r.length < n then some (0, 9) else lim1 (((x :: a :: b :: n :: r).sum % 256 : Nat) : Int) (r.drop n)
def InL (l : Option (Int × Int)) (x : Nat) : Prop := ∃ lo hi, l = some (lo, hi) ∧ lo ≤ (x : Int) ∧ (x : Int) ≤ hi
def Vld (ns : List Nat) : Prop := ∀ q x, ns[q]? = some x → InL (lim (ns.take q)) x
def Stop (xs : List V) (ns : List Nat) : Prop := match lim ns with
  | some (lo, hi) => byteAt xs ns.length lo hi = none
  | none => ns.length < xs.length
def Bad (xs : List V) (p : Nat) : Prop := ∃ ns : List Nat, ns.length = p ∧ xs.take p = ns.map vn ∧ Vld ns ∧ Stop xs ns
theorem vn_inj {a b : Nat} (h : vn a = vn b) : a = b := by
  have h : V.int (a : Int) = V.int (b : Int) := h
  injection h with h
  exact Int.ofNat.inj h
theorem map_inj : ∀ {a b : List Nat}, a.map vn = b.map vn → a = b
  | [], [], _ => rfl
  | [], _ :: _, h => nomatch h
  | _ :: _, [], h => nomatch h
  | x :: a, y :: b, h => by
    have h : vn x :: a.map vn = vn y :: b.map vn := h
    injection h with h1 h2
    rw [vn_inj h1, map_inj h2]
theorem vld_nil : Vld [] := fun q x h => by simp at h
theorem vld_snoc {ns : List Nat} {x : Nat} (h : Vld ns) (hx : InL (lim ns) x) : Vld (ns ++ [x]) := fun q y hy => by
  rcases Nat.lt_trichotomy q ns.length with hq | rfl | hq
  · rw [List.getElem?_append_left hq] at hy
    rw [List.take_append_of_le_length (Nat.le_of_lt hq)]
    exact h q y hy
  · rw [List.getElem?_append_right (Nat.le_refl _)] at hy
    simp at hy
    subst hy
    rw [List.take_append_of_le_length (Nat.le_refl _), List.take_length]
    exact hx
  · rw [List.getElem?_eq_none (by simp; omega)] at hy
    cases hy
theorem vld_pre {ns : List Nat} (h : Vld ns) (n : Nat) : Vld (ns.take n) := fun q x hx => by
  have hq : q < n := by
    have := (List.getElem?_eq_some_iff.mp hx).1
    rw [List.length_take] at this
    omega
  rw [List.take_take, Nat.min_eq_left (Nat.le_of_lt hq)]
  refine h q x ?_
  rw [List.getElem?_take_of_lt hq] at hx
  exact hx
theorem byte_eq {xs : List V} {p x : Nat} {lo hi : Int} (h : xs[p]? = some (vn x)) : byteAt xs p lo hi = if lo ≤ (x : Int) ∧ (x : Int) ≤ hi then some (vn x) else none := by
  unfold byteAt
  rw [h]
  show (if (decide (lo ≤ (x : Int)) && decide ((x : Int) ≤ hi)) = true then some (vn x) else none) = _
  by_cases c : lo ≤ (x : Int) ∧ (x : Int) ≤ hi
  · rw [if_pos c, if_pos (by simp [c.1, c.2])]
  · rw [if_neg c, if_neg (by simp only [Bool.and_eq_true, decide_eq_true_eq]; exact c)]
/-- one more byte read -/
theorem ext {xs : List V} {ns : List Nat} {lo hi : Int} {v : V} (ht : xs.take ns.length = ns.map vn) (hv : Vld ns) (hl : lim ns = some (lo, hi)) (h0 : 0 ≤ lo) (hb : byteAt xs ns.length lo hi = some v) :
    ∃ n : Nat, v = vn n ∧ lo ≤ (n : Int) ∧ (n : Int) ≤ hi ∧ Vld (ns ++ [n]) ∧ xs.take (ns ++ [n]).length = (ns ++ [n]).map vn := by
  obtain ⟨i, rfl, i0, i1⟩ := byte_int hb
  have e : xs[ns.length]? = some (.int i) := by
    unfold byteAt at hb
    cases e : xs[ns.length]? with
    | none => rw [e] at hb; cases hb
    | some u =>
      rw [e] at hb
      have hb : (if inB lo hi u = true then some u else none) = some (V.int i) := hb
      split at hb
      · exact hb
      · cases hb
  have en : V.int i = vn i.toNat := by
    show V.int i = V.int ((i.toNat : Nat) : Int)
    rw [Int.toNat_of_nonneg (by omega)]
  have c0 : ((i.toNat : Nat) : Int) = i := Int.toNat_of_nonneg (by omega)
  refine ⟨i.toNat, en, by omega, by omega, vld_snoc hv ⟨lo, hi, hl, by omega, by omega⟩, ?_⟩
  rw [List.length_append, List.map_append, ← ht]
  show xs.take (ns.length + 1) = _
  rw [List.take_add_one, e, en]
  rfl
/-- there is one place where the bytes end -/
theorem bad_at {xs : List V} {pre : List Nat} {p : Nat} (hv : Vld pre) (ht : xs.take pre.length = pre.map vn) (hs : Stop xs pre) (b : Bad xs p) : p = pre.length := by
  obtain ⟨ns, rfl, tn, vn', sn⟩ := b
  have key : ∀ (a b : List Nat), xs.take a.length = a.map vn → xs.take b.length = b.map vn → Vld b → Stop xs a → ¬ a.length < b.length := by
    intro a b ta tb vb sa hlt
    have e : b.take a.length = a := by
      refine map_inj ?_
      rw [List.map_take, ← tb, List.take_take, Nat.min_eq_left (Nat.le_of_lt hlt), ta]
    obtain ⟨x, hx⟩ : ∃ x, b[a.length]? = some x := ⟨_, List.getElem?_eq_getElem hlt⟩
    have hxs : xs[a.length]? = some (vn x) := by
      have z : (xs.take b.length)[a.length]? = some (vn x) := by rw [tb, List.getElem?_map, hx]; rfl
      rw [List.getElem?_take_of_lt hlt] at z
      exact z
    obtain ⟨lo, hi, hl, h1, h2⟩ := vb _ _ hx
    rw [e] at hl
    unfold Stop at sa
    rw [hl] at sa
    have sa : byteAt xs a.length lo hi = none := sa
    rw [byte_eq hxs, if_pos ⟨h1, h2⟩] at sa
    cases sa
  have h1 := key ns pre tn ht hv sn
  have h2 := key pre ns ht tn vn' hs
  omega
/-- whole codes -/
theorem no_bad {xs : List V} {c : List Nat} {p : Nat} (hv : Vld c) (hl : lim c = none) (e : xs = c.map vn) : ¬ Bad xs p := fun b => by
  obtain ⟨ns, rfl, tn, _, sn⟩ := b
  have le : ns.length ≤ c.length := by
    have := congrArg List.length tn
    rw [e, List.length_take, List.length_map, List.length_map] at this
    omega
  have et : c.take ns.length = ns := by
    refine map_inj ?_
    rw [List.map_take, ← e, tn]
  rcases Nat.lt_or_ge ns.length c.length with hlt | hge
  · obtain ⟨x, hx⟩ : ∃ x, c[ns.length]? = some x := ⟨_, List.getElem?_eq_getElem hlt⟩
    obtain ⟨lo, hi, hl', h1, h2⟩ := hv _ _ hx
    rw [et] at hl'
    unfold Stop at sn
    rw [hl'] at sn
    have sn : byteAt xs ns.length lo hi = none := sn
    rw [byte_eq (x := x) (by rw [e, List.getElem?_map, hx]; rfl), if_pos ⟨h1, h2⟩] at sn
    cases sn
  · have e2 : ns = c := by rw [← et, List.take_of_length_le hge]
    subst e2
    unfold Stop at sn
    rw [hl] at sn
    have sn : ns.length < xs.length := sn
    rw [e, List.length_map] at sn
    omega
/-- a whole code, and a place where other bytes stop -/
theorem not_whole {xs : List V} {c pre : List Nat} (hv : Vld c) (hl : lim c = none) (ht : xs.take pre.length = pre.map vn) (hp : Vld pre) (hs : Stop xs pre) : xs ≠ c.map vn := fun e => no_bad (p := pre.length) hv hl e ⟨pre, rfl, ht, hp, hs⟩
section
variable {x a b n c l : Nat} {tk cl r : List Nat}
theorem lim_tk (h : r.length < n) : lim (x :: a :: b :: n :: r) = some (0, 9) := by
  cases r <;> (show (if _ then _ else _) = _; rw [if_pos h])
theorem lim_r (h : n ≤ r.length) : lim (x :: a :: b :: n :: r) = lim1 (((x :: a :: b :: n :: r).sum % 256 : Nat) : Int) (r.drop n) := by
  show (if _ then _ else _) = _
  rw [if_neg (by omega)]
theorem lim_cn (h : tk.length = n) : lim (x :: a :: b :: n :: tk) = some (1, 12) := by
  rw [lim_r (by omega), List.drop_of_length_le (by omega)]
  rfl
theorem drop_tk (h : tk.length = n) : (tk ++ r).drop n = r := by rw [← h, List.drop_left]
theorem lim_cl (h : tk.length = n) (h2 : r.length < c) : lim (x :: a :: b :: n :: (tk ++ c :: r)) = some (0, 9) := by
  rw [lim_r (by simp; omega), drop_tk h]
  show (if _ then _ else _) = _
  rw [if_pos h2]
theorem lim_lt (h : tk.length = n) (h2 : cl.length = c) : lim (x :: a :: b :: n :: (tk ++ c :: cl)) = some (0, 99) := by
  rw [lim_r (by simp; omega), drop_tk h]
  show (if _ then _ else _) = _
  rw [if_neg (by omega), List.drop_of_length_le (by omega)]
  rfl
theorem lim_sum (h : tk.length = n) (h2 : cl.length = c) : lim (x :: a :: b :: n :: (tk ++ c :: (cl ++ [l]))) = some ((((x :: a :: b :: n :: (tk ++ c :: (cl ++ [l]))).sum % 256 : Nat) : Int), (((x :: a :: b :: n :: (tk ++ c :: (cl ++ [l]))).sum % 256 : Nat) : Int)) := by
  rw [lim_r (by simp; omega), drop_tk h]
  show (if _ then _ else _) = _
  rw [if_neg (by simp; omega), drop_tk h2]
  rfl
theorem lim_end {s : Nat} (h : tk.length = n) (h2 : cl.length = c) : lim (x :: a :: b :: n :: (tk ++ c :: (cl ++ [l, s]))) = none := by
  rw [lim_r (by simp; omega), drop_tk h]
  show (if _ then _ else _) = _
  rw [if_neg (by simp; omega), drop_tk h2]
  rfl
end
theorem vld_app {ns : List Nat} : ∀ {r : List Nat}, Vld ns → (∀ i y, r[i]? = some y → InL (lim (ns ++ r.take i)) y) → Vld (ns ++ r) := fun {r} h hr q x hx => by
  rcases Nat.lt_or_ge q ns.length with hq | hq
  · rw [List.getElem?_append_left hq] at hx
    rw [List.take_append_of_le_length (Nat.le_of_lt hq)]
    exact h q x hx
  · rw [List.getElem?_append_right hq] at hx
    have := hr _ _ hx
    rw [List.take_append, List.take_of_length_le hq]
    exact this
theorem vld_tk {a b n : Nat} {tk : List Nat} (h : Vld [84, a, b, n]) (hl : tk.length ≤ n) (h9 : ∀ x ∈ tk, x ≤ 9) : Vld (84 :: a :: b :: n :: tk) :=
  vld_app (ns := [84, a, b, n]) h fun i y hy => ⟨0, 9, lim_tk (r := tk.take i) (by have := (List.getElem?_eq_some_iff.mp hy).1; rw [List.length_take]; omega), by omega, by have := h9 y (List.mem_of_getElem? hy); omega⟩
theorem vld_cl {a b n c : Nat} {tk cl : List Nat} (h : Vld (84 :: a :: b :: n :: (tk ++ [c]))) (e : tk.length = n) (hl : cl.length ≤ c) (h9 : ∀ x ∈ cl, x ≤ 9) : Vld (84 :: a :: b :: n :: (tk ++ c :: cl)) := by
  have := vld_app (ns := 84 :: a :: b :: n :: (tk ++ [c])) (r := cl) h fun i y hy => ⟨0, 9, by
    have e2 : (84 :: a :: b :: n :: (tk ++ [c])) ++ cl.take i = 84 :: a :: b :: n :: (tk ++ c :: cl.take i) := by simp
    rw [e2]
    exact lim_cl e (by have := (List.getElem?_eq_some_iff.mp hy).1; rw [List.length_take]; omega), by omega, by have := h9 y (List.mem_of_getElem? hy); omega⟩
  have e2 : (84 :: a :: b :: n :: (tk ++ [c])) ++ cl = 84 :: a :: b :: n :: (tk ++ c :: cl) := by simp
  rw [e2] at this
  exact this
theorem vld_snoc' {ns : List Nat} {x : Nat} {lo hi : Int} (h : Vld ns) (hl : lim ns = some (lo, hi)) (h1 : lo ≤ (x : Int)) (h2 : (x : Int) ≤ hi) : Vld (ns ++ [x]) := vld_snoc h ⟨lo, hi, hl, h1, h2⟩
theorem vld_enc {m lt : Nat} {tk cl : List Nat} (h : Parts m tk cl lt) : Vld (encN m tk cl lt) ∧ lim (encN m tk cl lt) = none := by
  have m2 := h.m2
  have m4 := h.m4
  have l9 := h.l99
  have t1 := h.tkP.len
  have t0 := h.tkP.pos
  have c1 := h.clP.len
  have c0 := h.clP.pos
  have v1 : Vld [84, m / 256, m % 256, tk.length] := by
    refine vld_snoc' (ns := [84, m / 256, m % 256]) (vld_snoc' (ns := [84, m / 256]) (vld_snoc' (ns := [84]) (vld_snoc' (ns := []) vld_nil rfl (by decide) (by decide)) rfl (by omega) (by omega)) rfl (by omega) (by omega)) rfl (by omega) (by omega)
  have v2 := vld_tk v1 (Nat.le_refl _) h.tkP.nine
  have v3 : Vld (84 :: m / 256 :: m % 256 :: tk.length :: (tk ++ [cl.length])) := vld_snoc' (ns := 84 :: m / 256 :: m % 256 :: tk.length :: tk) v2 (lim_cn rfl) (by omega) (by omega)
  have v4 := vld_cl v3 rfl (Nat.le_refl _) h.clP.nine
  have e5 : (84 :: m / 256 :: m % 256 :: tk.length :: (tk ++ cl.length :: cl)) ++ [lt] = encH m tk cl lt := by unfold encH; simp
  have v5 : Vld (encH m tk cl lt) := by
    rw [← e5]
    exact vld_snoc' v4 (lim_lt rfl rfl) (by omega) (by omega)
  refine ⟨vld_snoc' v5 (lim_sum rfl rfl) (Int.le_refl _) (Int.le_refl _), ?_⟩
  have e6 : encN m tk cl lt = 84 :: m / 256 :: m % 256 :: tk.length :: (tk ++ cl.length :: (cl ++ [lt, (encH m tk cl lt).sum % 256])) := by unfold encN encH; simp
  rw [e6]
  exact lim_end rfl rfl
end Bt
end Tk

/-! ### A comprehension whose step raises -/
namespace Tk
open PySem PySem.Spec PyProof.Rows L2
namespace Lcx
/-- behind a block: as compPost has it, but the block's frame is told -/
def Post (M : Model) (A : Around) (XX : Value → Shared → Prop) (fr : Option Addr) (R : Value → Shared → Prop) (D : Value) (c : Addr) (r : Result) (z : Shared) : Prop :=
  match r with
  | .ok _ => ∃ m, z.heap.Ns c m ∧ ∀ g, Heap.SameBut c z.heap g → R D { z with heap := g }
  | .error x => ∃ m, z.heap.Ns c m ∧ ∀ g, Heap.SameBut c z.heap g → ∀ ce : Env, ce.locals = c → ce.frame = fr → wpAny M A (PySem.passOn "comprehension.variables-let-go" x ce : Sem Value) (fun _ _ => False) XX { z with heap := g }
theorem compr {M : Model} {A : Around} {XX : Value → Shared → Prop} {z : Shared} {env : Env} {e : Expr} {sc : Scope} {pos : Pos} {mkL fst : Sem Value} {g : Comprehension} {gs : List Comprehension} {cl : List (Str × Addr)} {R : Value → Shared → Prop}
    (hcl : clausesOf e = g :: gs) (hf : ∀ x, foldedSetIterable g.iter env x = pure x) (hc : closureFor sc env = pure cl) (hk : sc.kind = .function) (hnm : ∀ x ∈ sc.names, x.2 = .local → sc.names.lookup x.1 = some .local)
    (h : wpAny M A fst (fun x z1 => wpAny M A (pyIter x) (fun it z2 => wpAny M A mkL (fun D z3 => wpAny M A (newFunctionEnv sc env.globals cl [] env.qual none .none (some env)) (fun ce z4 =>
        ce.frame = env.frame ∧ codeAny M A (.compStart e 0 it D { ce with scope := relabel sc env }) (Post M A XX env.frame R D ce.locals) z4) XX z3) XX z2) XX z1) XX z) :
    wpAny M A (comprehension e sc env pos mkL false fst none) R XX z := by
  unfold comprehension
  rw [hc, hcl]
  have id3 : ∀ {v : Value} {t : Shared}, XX v t → XX v t := fun q => q
  refine wpAny_bind (wpAny_mono h (fun x z1 h1 => ?_) fun _ _ => id3)
  refine wpAny_bind (wpAny_standAt (wpAny_bind (wpAny_of_eq (hf x) ?_)))
  refine wpAny_bind (wpAny_holding (wpAny_mono h1 (fun it z2 h2 => ?_) fun _ _ => id3))
  refine wpAny_standIf (wpAny_bind (wpAny_mono h2 (fun D z3 h3 => ?_) fun _ _ => id3))
  refine wpAny_bind (wpAny_pure (wpAny_bind (wpAny_mono h3 (fun ce z4 h4 => ?_) fun _ _ => id3)))
  obtain ⟨hfr, h4⟩ := h4
  dsimp only
  generalize hvs : (sc.names.filter fun x => (x.2 == .local || x.2 == .cell) && x.1 != (".0" : Str)).reverse = vs
  have loc : ∀ x ∈ vs, x.2 = .local → Env.kindOf { ce with scope := relabel sc env } x.1 = some .local := fun x hx hl => by
    rw [← hvs] at hx
    exact lookup_relabel_local (hnm x (List.mem_filter.mp (List.mem_reverse.mp hx)).1 hl)
  refine wpAny_holding (wpAny_bind (wpAny_attempt (wpAny_holding (wpAny_run (codeAny_mono h4 fun r z5 hr => ?_)))))
  cases r with
  | ok f =>
    obtain ⟨m, hn, hr⟩ := hr
    refine wpAny_bind (wpAny_holding (wpAny_comp_letGo (cenv := { ce with scope := relabel sc env }) hk _ z5 m loc hn fun g m' _ sb => ?_))
    exact wpAny_pure (hr g sb)
  | error x =>
    obtain ⟨m, hn, hr⟩ := hr
    refine wpAny_bind (wpAny_holding (wpAny_comp_letGo (cenv := { ce with scope := relabel sc env }) hk _ z5 m loc hn fun g m' _ sb => ?_))
    exact wpAny_mono (hr g sb { ce with scope := relabel sc env } rfl hfr) (fun _ _ no => no.elim) fun _ _ => id3

/-- the wish of a block: what its calls let out -/
def BX (Y : Cx) (E : XK) (u : Value) (t : Shared) : Prop := ∃ pins σ H s, Inv Y pins σ H s ∧ CX Y.prog Y.w Y.stack H s E u t
abbrev blkE (X : Cx) (s : Shared) (H : Hp) (sc : Scope) (ce : Env) (fp : List Addr) (E : XK) : Cx := (X.blk s H sc ce fp).wish (BX (X.blk s H sc ce fp) E)
theorem pas {X : Cx} {s : Shared} {H : Hp} {sc : Scope} {ce : Env} {fp : List Addr} {E : XK} : ∀ (pins : List (Addr × Obj)) (σ : L2.St) (H' : Hp) (s' : Shared) (u : Value) (t : Shared), Inv (blkE X s H sc ce fp E) pins σ H' s' → CX (blkE X s H sc ce fp E).prog (blkE X s H sc ce fp E).w (blkE X s H sc ce fp E).stack H' s' E u t → (blkE X s H sc ce fp E).xe u t :=
  fun pins σ H' s' _ _ I c => ⟨pins, σ, H', s', I.unwish, c⟩

theorem frames_but {B B' h h' : Heap} : ∀ {l : List Env}, h.FunFrames B l → (∀ L ∈ frs l, B'.get? L = none) → (∀ L ∈ frs l, h'.get? L = h.get? L) → h'.FunFrames B' l
  | [], _, _, _ => trivial
  | env :: l, x, n, k => by
    obtain ⟨hk, ⟨L, o, hf, _, ho, hd⟩, hr⟩ := x
    have hm : L ∈ frs (env :: l) := List.mem_filterMap.mpr ⟨env, List.mem_cons_self, hf⟩
    have sub : ∀ b ∈ frs l, b ∈ frs (env :: l) := fun b hb => by
      obtain ⟨e, he, q⟩ := List.mem_filterMap.mp hb
      exact List.mem_filterMap.mpr ⟨e, List.mem_cons_of_mem _ he, q⟩
    exact ⟨hk, ⟨L, o, hf, n L hm, (k L hm).trans ho, hd⟩, frames_but hr (fun b hb => n b (sub b hb)) fun b hb => k b (sub b hb)⟩

section
variable {X : Cx} {pins : List (Addr × Obj)} {σ : L2.St} {H3 : Hp} {s3 : Shared} {W : WX} {E : XK}
/-- what left a block's call is in our air -/
theorem out (hst : X.stack = X.env :: X.outer) (hfr : X.env.frame = some X.env.locals) (tk : Takes X W) (hW : ∀ cls d H, E cls d H → W cls d σ H) (I3 : Inv X pins σ H3 s3) {sc : Scope} {ce : Env} {fp : List Addr} (hL : ce.locals = s3.heap.objs.size) (hF : ce.frame = X.env.frame)
    (f3 : ∀ b ∈ fp, FpOk X pins H3 b) {u : Value} {t : Shared} {EE : Value → Shared → Prop} (x : BX (X.blk s3 H3 sc ce fp) E u t) :
    wpAny (model X.prog X.w) X.A (noteFrame u ce) (fun _ t2 => ∃ m, t2.heap.Ns ce.locals m ∧ ∀ g, Heap.SameBut ce.locals t2.heap g → ∀ ce' : Env, ce'.locals = ce.locals → ce'.frame = X.env.frame →
      wpAny (model X.prog X.w) X.A (PySem.passOn "comprehension.variables-let-go" u ce' : Sem Value) (fun _ _ => False) X.xe { t2 with heap := g }) EE t := by
  obtain ⟨pins', σ', H', s0, I', c⟩ := x
  have c0 := c
  obtain ⟨a, B0, H2, cls0, d0, rfl, fl, _⟩ := c0
  obtain ⟨a', B, sI, pi, σ2, H4, cls, d, e, J, nb, up, sky, na, os, ag, w⟩ := XE.of_call (W := fun cls d _ H => E cls d H) I' (fun _ _ _ q => q) c
  cases e
  have fly : HandSPX.FlyingZ B X.stack a (Zc cls d) t.heap := by
    obtain ⟨_, _, _, oe, vs, T, oT, ts, he, _, hd, h1, _, _, hT, hdT, h3⟩ := fl
    rcases sky with ⟨_, _, _, oe', vs', he', _, hd', h1'⟩ | f | ⟨_, _, _, oe', vs', T', oT', ts', he', _, hd', h1', _, _, hT', hdT', h3'⟩
    · rw [he] at he'; cases he'
      rw [hd] at hd'; cases hd'
      rw [h1] at h1'; cases h1'
    · exact f
    · rw [he] at he'; cases he'
      rw [hd] at hd'; cases hd'
      rw [h1] at h1'; cases h1'
      rw [hT] at hT'; cases hT'
      rw [hdT] at hdT'; cases hdT'
      rw [h3] at h3'
      simp [rawInt] at h3'
  rw [hst] at fly
  have hA : X.A.frames = some (X.env :: X.outer) := by rw [I3.ok.frames, hst]
  have en : noteFrame (.ref a) ce = noteFrame (.ref a) X.env := by
    unfold noteFrame PySem.frameOf
    rw [hF]
  rw [en]
  refine HandSPX.looks_onZ Zc.steady hA hfr fly fun h1 hd1 up1 => ?_
  have onst : ∀ b ∈ frs X.stack, b < s3.heap.objs.size := fun b hb => by
    obtain ⟨_, o, e, _⟩ := I3.stack.mem hb
    exact Heap.lt_size e
  have notC : ∀ b ∈ frs X.stack, b ≠ ce.locals := fun b hb e => by
    have := onst b hb
    rw [e, hL] at this
    exact Nat.lt_irrefl _ this
  obtain ⟨m, ⟨o, es, ep, ho, rest⟩, _⟩ := J.loc
  have nC : H4 ce.locals = none := J.free
  have hBC : B.get? ce.locals = some o := nb ce.locals o ho fun hm => notC _ hm rfl
  refine ⟨m, ⟨o, es, ep, hd1.1 _ o hBC, rest⟩, fun g sb ce' hl' hf' => ?_⟩
  -- the ground without the block's names
  have gr : ∀ b q, (PySem.W.hideAll B [ce.locals]).get? b = some q → B.get? b = some q ∧ b ≠ ce.locals := fun b q e => ⟨PySem.W.of_hideAll _ e, fun z => by
    rw [z, PySem.W.hideAll_none [ce.locals] List.mem_cons_self] at e
    cases e⟩
  have gn : ∀ b, B.get? b = none → (PySem.W.hideAll B [ce.locals]).get? b = none := fun b e => by
    cases q : (PySem.W.hideAll B [ce.locals]).get? b with
    | none => rfl
    | some v => rw [(gr b v q).1] at e; cases e
  have held : HandSPX.HeldZ (PySem.W.hideAll B [ce.locals]) (X.env :: X.outer) a (Zc cls d) X.env.locals g := by
    obtain ⟨k1, k2, k3, oe, vs, T, oT, ts, he, hz, hd, hv, hnT, hTe, hT, hdT, ht⟩ := hd1
    have ne : ∀ b, B.get? b = none → b ≠ ce.locals := fun b e z => by rw [z, hBC] at e; cases e
    refine ⟨fun b q e => (sb.2 b (gr b q e).2).trans (k1 b q (gr b q e).1), gn a k2, frames_but k3 (fun L hm => gn L (k3.mem hm).1) (fun L hm => sb.2 L (ne L (k3.mem hm).1)), oe, vs, T, oT, ts, (sb.2 a (ne a k2)).trans he, hz, hd, hv, gn T hnT, hTe, (sb.2 T (ne T hnT)).trans hT, hdT, ht⟩
  obtain ⟨_, _, _, oe, vs, T, oT, ts, he, _, hd, hv, _⟩ := id held
  unfold PySem.passOn
  refine wpAny_bind (wpAny_field he hd hv ?_)
  rw [if_neg (show ¬ ((Value.ref T == Value.none) = true) from by simp)]
  have fin : wpAny (model X.prog X.w) X.A (setFlight (.ref a) ce'.frame) (fun _ t3 => wpAny (model X.prog X.w) X.A (throw (.ref a) : Sem Value) (fun _ _ => False) X.xe t3) X.xe { t with heap := g } := by
    rw [hf', hfr]
    refine HandSPX.setFlight_onZ held fun g2 held2 up2 => wpAny_throw (tk _ _ ?_)
    have I7 : Inv X pins σ H4 sI := I3.call' (ch := fp) J.os J.base J.hok J.bare fun b hb => ⟨(f3 b hb).2.2.2.1, (f3 b hb).2.1, (f3 b hb).2.2.2.2.1, (f3 b hb).2.2.2.2.2⟩
    obtain ⟨f0, f1, f2, f4, f5, f6⟩ := I3.fpOk (H' := H4) (b := ce.locals) (Nat.le_of_eq hL.symm) nC
    have I8 := I7.turned (t' := sI.toks) (h' := PySem.W.hideAll sI.heap [ce.locals]) (it := ce.locals) (fun b q hb e => PySem.W.hideAll_get _ e (by simpa using hb)) f0 f1 f4 f5 f6
    have sg : ∀ b q, (PySem.W.hideAll sI.heap [ce.locals]).get? b = some q → sI.heap.get? b = some q ∧ b ≠ ce.locals := fun b q e => ⟨PySem.W.of_hideAll _ e, fun z => by
      rw [z, PySem.W.hideAll_none [ce.locals] List.mem_cons_self] at e
      cases e⟩
    refine ⟨a, PySem.W.hideAll B [ce.locals], _, pins, σ, H4, cls, d, rfl, I8, fun b q e hb => ?_, fun b q e hn => ?_, .inr (.inr (by rw [hst]; exact held2)), na, os, ag, hW _ _ _ w⟩
    · exact PySem.W.hideAll_get _ (nb b q (sg b q e).1 hb) (by simpa using (sg b q e).2)
    · obtain ⟨e1, e2⟩ := sg b q e
      obtain ⟨sl, p1⟩ := up b q e1 hn
      obtain ⟨sl2, p2⟩ := up1 b _ p1 hn
      obtain ⟨sl3, p3⟩ := up2 b _ ((sb.2 b e2).trans p2) hn
      exact ⟨sl3, p3⟩
  first
    | exact wpAny_bind (wpAny_pure (wpAny_bind fin))
    | exact wpAny_bind fin
end
section
variable {X : Cx} {W : WX} {E : XK}
/-- [elt for target in iter if ..], a value; what a step's calls let out goes on -/
theorem pe_lcX {elt tg iter : Expr} {ifs : List Expr} {sc : Scope} {own : List (Str × Nat)} {pos : Pos} {wi : TI} {g : TG} {tt : L2.TT} {te : TE} (hst : X.stack = X.env :: X.outer) (hfr : X.env.frame = some X.env.locals) (tk : Takes X W) (hW : ∀ cls d σ H, E cls d H → W cls d σ H)
    (calm : X.calm = true) (nd : X.N.Nodup) (hi : PI X tg iter wi) (ok : BlkOk X.N X.env.scope sc own)
    (hg : ∀ (s : Shared) (H : Hp) (C : Addr) (cl : List (Str × Addr)) (fp : List Addr), PG (blkE X s H sc (compEnvC sc cl C X.env) fp E) tg g) (ht : ∀ (s : Shared) (H : Hp) (C : Addr) (cl : List (Str × Addr)) (fp : List Addr), PTs (blkE X s H sc (compEnvC sc cl C X.env) fp E) ifs tt)
    (he : ∀ (s : Shared) (H : Hp) (C : Addr) (cl : List (Str × Addr)) (fp : List Addr), PE (blkE X s H sc (compEnvC sc cl C X.env) fp E) elt te) (folded : ∀ x, foldedSetIterable iter X.env x = pure x := by intro _; rfl) :
    PE X (.ListComp elt [⟨tg, iter, ifs, 0⟩] sc pos) (tLc wi g tt te (own.map (·.2))) := by
  refine ⟨fun pins s σ H Q I h => ?_⟩
  rw [eval_ListComp]
  have caught : ∀ y ∈ sc.names, y.2 = .free → ∃ c, X.env.cells.lookup y.1 = some c := fun y hy e => I.ok.has _ (ok.free y hy e)
  refine compr rfl folded (closure_ok caught) ok.kind (fun y hy e => by rw [ok.uniq y hy, e]) (thn (hi.run pins s σ H _ I h) fun xv s1 hx => thn hx fun itv s2 h2 => ?_)
  obtain ⟨it, fp, tn, J, H2, e, I2, T, st2, f2, q⟩ := h2
  subst e
  refine wpAny_newObj_type (newEnv_comp ?_) (by show 0 ≤ sizeLine; decide)
  generalize hD : s2.heap.objs.size = D
  have noD : H2 D = none := I2.hok.fresh (Nat.le_of_eq hD)
  obtain ⟨Wm, ⟨m0, w0⟩, turn⟩ := q D noD
  generalize hs3 : ({ s2 with heap := s2.heap.push { cls := .type "list", data := .seq ([] : List Value).toArray } } : Shared) = s3
  have e3 : s3.heap = s2.heap.push { cls := .type "list", data := .seq ([] : List Value).toArray } := by rw [← hs3]
  have I3 : Inv X pins σ (upd H2 D (.lst [])) s3 := by
    rw [← hs3]
    exact I2.laid (t' := s2.toks) (fun b o z => Heap.get?_push_of_some _ z) (Nat.le_of_eq hD) ⟨Nat.zero_le _, [], 0, .nil, by rw [← hD]; exact Heap.get?_push_size _ rfl⟩
  have below : ∀ b ∈ fp, b < s2.heap.objs.size := fun b hb => (T.obj _ _ st2 b hb).elim fun _ z => Heap.lt_size z.1
  have f3 : ∀ b ∈ fp, FpOk X pins (upd H2 D (.lst [])) b ∧ b < s3.heap.objs.size := fun b hb => by
    refine ⟨⟨?_, (f2 b hb).2⟩, by rw [e3, Heap.size_push]; exact Nat.lt_succ_of_lt (below b hb)⟩
    rw [upd_ne (by rw [← hD]; exact Nat.ne_of_lt (below b hb))]
    exact (f2 b hb).1
  have st3 : tn 0 s3.heap := T.keep _ _ _ st2 fun b _ o z => by rw [e3]; exact Heap.get?_push_of_some _ z
  have I4 := block_start I3 ok nd f3
  have pg := hg s3 (upd H2 D (.lst [])) s3.heap.objs.size (cellsFrom (s3.heap.objs.size + 1) sc.names (cloFrom X.env.cells sc.names [])) fp
  have pt := ht s3 (upd H2 D (.lst [])) s3.heap.objs.size (cellsFrom (s3.heap.objs.size + 1) sc.names (cloFrom X.env.cells sc.names [])) fp
  have pe := he s3 (upd H2 D (.lst [])) s3.heap.objs.size (cellsFrom (s3.heap.objs.size + 1) sc.names (cloFrom X.env.cells sc.names [])) fp
  refine ⟨rfl, ?_⟩
  show codeAny _ _ (.compStart (.ListComp elt [⟨tg, iter, ifs, 0⟩] sc pos) 0 (.ref it) (.ref D) (compEnvC sc (cellsFrom (s3.heap.objs.size + 1) sc.names (cloFrom X.env.cells sc.names [])) s3.heap.objs.size X.env)) (Post (model X.prog X.w) X.A X.xe X.env.frame (EP X pins σ Q) (.ref D) s3.heap.objs.size) { s3 with heap := pushCells (s3.heap.push { cls := .type "dict", data := .dict #[] }) sc.names }
  have empty : ∀ b ∈ fp, (upd H2 D (.lst [])) b = none := fun b hb => (f3 b hb).1.1
  have hcF : (compEnvC sc (cellsFrom (s3.heap.objs.size + 1) sc.names (cloFrom X.env.cells sc.names [])) s3.heap.objs.size X.env).frame = X.env.frame := rfl
  generalize hce : compEnvC sc (cellsFrom (s3.heap.objs.size + 1) sc.names (cloFrom X.env.cells sc.names [])) s3.heap.objs.size X.env = ce at I4 pg pt pe hcF ⊢
  have cL : ce.locals = s3.heap.objs.size := by subst hce; rfl
  generalize hH3 : upd H2 D (.lst []) = H3 at I3 I4 pg pt pe w0 empty f3
  generalize hs4 : ({ s3 with heap := pushCells (s3.heap.push { cls := .type "dict", data := .dict #[] }) sc.names } : Shared) = s4 at I4 ⊢
  have st4 : tn 0 s4.heap := T.keep _ _ _ st3 fun b _ o z => by rw [← hs4]; exact pushCells_keeps _ _ _ _ (Heap.get?_push_of_some _ z)
  generalize hY : X.blk s3 H3 sc ce fp = Y at I4
  have yProg : Y.prog = X.prog := by rw [← hY]
  have yW : Y.w = X.w := by rw [← hY]
  have yK : Y.K = X.K := by rw [← hY]
  have yA : Y.A = X.A := by rw [← hY]
  have yCalm : Y.calm = true := by rw [← hY]; exact calm
  have fpY : ∀ {σ' : L2.St} {H' : Hp} {s' : Shared}, Inv Y [] σ' H' s' → (∀ b ∈ fp, H' b = none) → ∀ b ∈ fp, FpOk Y [] H' b := fun {σ' H' s'} I' hn b hb => by
    subst hY
    exact ⟨hn b hb, (I'.ok.exf b hb).1, I'.ok.exfs b hb, .inl hb, fun x c z => (I'.ok.exf b hb).2 x c z, fun p hp => absurd (show p ∈ ([] : List (Addr × Obj)) ++ [] from hp) (by simp)⟩
  -- what a step lets out
  have air : ∀ (u : Value) (t : Shared), BX Y E u t → notedBy (model X.prog X.w) X.A ce (fun e s' => Post (model X.prog X.w) X.A X.xe X.env.frame (EP X pins σ Q) (.ref D) s3.heap.objs.size (.error e) s') u t := fun u t x => by
    subst hY
    rw [← cL]
    exact out hst hfr tk (fun cls d H => hW cls d σ H) I3 cL hcF (fun b hb => (f3 b hb).1) x
  have loop : codeAny (model X.prog X.w) X.A (.compLoop (.ListComp elt [⟨tg, iter, ifs, 0⟩] sc pos) 0 (.ref it) (.ref D) ce) (Post (model X.prog X.w) X.A X.xe X.env.frame (EP X pins σ Q) (.ref D) s3.heap.objs.size) s4 := by
    refine compLoop_any (fun n s' => ∃ i H', Inv Y [] (wipe σ (own.map (·.2))) H' s' ∧ tn i s'.heap ∧ (∀ b ∈ fp, H' b = none) ∧ Wm i n H') ?_ m0 ⟨0, H3, I4, st4, empty, w0⟩
    rintro n s5 ⟨i, H5, I5, st5, n5, w5⟩
    rcases turn i n H5 w5 with ⟨stop, qq⟩ | ⟨go, Nx, hNx, step⟩
    · have td := T.done Y yProg yW yK yCalm i [] s5 _ H5 (fun _ _ => False) I5 (fpY I5 n5) st5 stop
      rw [yA] at td
      refine thnF td fun r s6 ⟨hr, I6⟩ => ?_
      subst hr
      subst hY
      have I7 : Inv X pins σ H5 s6 := I3.call' (ch := fp) I6.os I6.base I6.hok I6.bare fun b hb => ⟨(f3 b hb).1.2.2.2.1, (f3 b hb).1.2.1, (f3 b hb).1.2.2.2.2.1, (f3 b hb).1.2.2.2.2.2⟩
      have nC : H5 s3.heap.objs.size = none := by rw [← cL]; exact I6.free
      obtain ⟨m, hn, _⟩ := I6.loc
      have hn : s6.heap.Ns s3.heap.objs.size m := by rw [← cL]; exact hn
      refine ⟨m, hn, fun g sb => ?_⟩
      obtain ⟨p0, p1, p2, p3, p4, p5⟩ := I3.fpOk (H' := H5) (Nat.le_refl _) nC
      exact ⟨.ref D, H5, I7.turned (t' := s6.toks) (fun b o hb z => (sb.2 b hb).trans z) p0 p1 p3 p4 p5, rfl, qq⟩
    · have ti := T.item Y yProg yW yK yCalm i [] s5 _ H5 (fun _ _ => False) I5 (fpY I5 n5) st5 go
      rw [yA] at ti
      refine thnF ti fun r s6 ⟨u, hr, h6⟩ => ?_
      subst hr
      refine thnF h6 fun _ s7 ⟨x, H7, I7, r7, y7, st7, n7⟩ => ?_
      have I7' := (I7.pinned (fpY I7 n7) (T.obj _ _ st7)).wish (BX Y E)
      subst hY
      refine wpAny_mono (pg.run _ s7 _ H7 x u _ I7' r7 (step x H7 y7)) (fun _ s8 ⟨σ8, H8, I8, hw8, q8⟩ => ?_) air
      refine wpAny_mono (pt.run _ s8 σ8 H8 _ I8 q8) (fun b s9 ⟨H9, I9, q9⟩ => ?_) air
      have fin : ∀ {s' : Shared} {H' : Hp}, Inv (blkE X s3 H3 sc ce fp E) ([] ++ pinsAt fp s7.heap) σ8 H' s' → Nx H' → ∃ m, m < n ∧ ∃ i H', Inv (X.blk s3 H3 sc ce fp) [] (wipe σ (own.map (·.2))) H' s' ∧ tn i s'.heap ∧ (∀ b ∈ fp, H' b = none) ∧ Wm i m H' := fun {s' H'} I' nx => by
        have I' := I'.unwish
        obtain ⟨m', hm, w'⟩ := hNx H' nx
        have stood : ∀ b ∈ fp, ∀ o, s7.heap.get? b = some o → s'.heap.get? b = some o ∧ H' b = none := fun b hb o z =>
          let y := I'.pin (b, o) (List.mem_append_right _ (List.mem_append_right _ (mem_pinsAt hb z)))
          ⟨y.1, y.2.1⟩
        refine ⟨m', hm, i + 1, H', (I'.unpinned (pins := [])).weak (by rw [← hw8, wipe_length]) (fun j v z => ?_), T.keep _ _ _ st7 fun b hb o z => (stood b hb o z).1, fun b hb => ?_, w'⟩
        · rw [← hw8] at z
          exact (wipe_some z).1
        · obtain ⟨o, z, _⟩ := T.obj _ _ st7 b hb
          exact (stood b hb o z).2
      cases b with
      | false =>
        rw [if_neg Bool.false_ne_true] at q9 ⊢
        exact fin I9 q9
      | true =>
        rw [if_pos rfl] at q9 ⊢
        refine wpAny_mono (pe.run _ s9 σ8 H9 _ I9 q9) (fun z s10 ⟨yv, H10, I10, r10, acc, hD10, hz10, nx⟩ => ?_) air
        exact app_ok (X := blkE X s3 H3 sc ce fp E) I10 hD10 hz10 r10 fun s11 I11 => fin I11 nx
  exact codeAny_compStart_list loop (T.self X.A 0 _ _ _ st4 loop)
end
end Lcx
end Tk

section
local macro_rules | `(tactic| walk_at "hp") => `(tactic| first
  | assumption
  | with_reducible exact L2.upd_same
  | ((with_reducible refine' Tk.Same.get ?k0 ?k1); (case k0 => assumption); (case k1 => walk_at "hp"))
  | fail "hp")
local macro_rules | `(tactic| walk_at "same") => `(tactic| first
  | assumption
  | exact L2.Same.refl _
  | ((with_reducible refine' Tk.Same.nw ?k0 ?k1); (case k0 => assumption); (case k1 => walk_at "same"))
  | ((with_reducible refine' Tk.Same.tr ?k0 ?k1); (case k0 => assumption); (case k1 => walk_at "same")))
local macro_rules | `(tactic| walk_at "sql") => `(tactic| first
  | assumption
  | ((with_reducible refine' L2.SqL.of ?k0); (case k0 => walk_at "hp"))
  | ((with_reducible refine' L2.Same.seq ?k0 ?k1); (case k0 => assumption); (case k1 => walk_at "sql")))
local macro_rules | `(tactic| walk_at "sqt") => `(tactic| first
  | assumption
  | ((with_reducible refine' L2.SqT.of ?k0); (case k0 => walk_at "hp"))
  | ((with_reducible refine' Tk.sqt_sm ?k0 ?k1); (case k0 => assumption); (case k1 => walk_at "sqt")))
local macro_rules | `(tactic| walk_at "sz") => `(tactic| first
  | (show (_ : Nat) ≤ 1000; decide)
  | (simp; done)
  | (simp; omega))
local macro_rules | `(tactic| walk_at "szb") => `(tactic| first
  | assumption
  | (show (_ : Nat) ≤ 100000; decide)
  | (simp; done)
  | (simp; omega))
local macro_rules | `(tactic| walk_at "dp") => `(tactic| first
  | assumption
  | with_reducible exact L2.Dp.non
  | with_reducible exact L2.Dp.int _
  | with_reducible exact L2.Dp.str _
  | with_reducible exact L2.Dp.bl _
  | ((with_reducible refine' L2.Dp.lst ?k0 ?k1); (case k0 => walk_at "sql"); (case k1 => walk_at "dpa"))
  | ((with_reducible refine' L2.Dp.tup ?k0 ?k1); (case k0 => walk_at "sqt"); (case k1 => walk_at "dpa"))
  | ((with_reducible refine' Tk.dp_sm ?k0 ?k1); (case k0 => assumption); (case k1 => walk_at "dp"))
  | fail "dp")
local macro_rules | `(tactic| walk_at "dpa") => `(tactic| first
  | assumption
  | with_reducible exact L2.DpAll.nil
  | ((with_reducible refine' L2.DpAll.cons ?k0 ?k1); (case k0 => walk_at "dp"); (case k1 => walk_at "dpa"))
  | with_reducible exact Tk.dp_nats _
  | ((with_reducible refine' Tk.dpA_sm ?k0 ?k1); (case k0 => assumption); (case k1 => walk_at "dpa"))
  | fail "dpa")
local macro_rules | `(tactic| walk_at "ci") => `(tactic| first
  | exact .inl ⟨by decide, by decide⟩
  | exact .inr ⟨by decide, by decide⟩
  | exact .inl ⟨by omega, by omega⟩
  | exact .inr ⟨by omega, by omega⟩
  | exact ⟨by decide, by decide⟩
  | exact ⟨by omega, by omega⟩
  | (show (0 : Int) < _; decide)
  | (show (0 : Int) < _; omega))
local macro_rules | `(tactic| walk_at "rd1") => `(tactic| first
  | with_reducible refine Tk.Rd.seq ?_
  | with_reducible refine Tk.Rd.star ?_
  | with_reducible refine Tk.Rd.int1_i ?_
  | with_reducible refine Tk.Rd.int1_b ?_
  | with_reducible refine Tk.Rd.tlc2 ?_
  | with_reducible refine Tk.Rd.lrg3 ?_
  | with_reducible refine Tk.Rd.lrg ?_
  | with_reducible refine Tk.Rd.rg1 ?_
  | with_reducible refine Tk.Rd.rg1K_i ?_
  | with_reducible refine Tk.Rd.rg2 ?_
  | with_reducible refine Tk.Rd.rg2K_i ?_
  | ((with_reducible refine' Tk.Rd.catL ?k0 ?k1 ?k2 fun p H' np S hp => ?_); (case k0 => walk_at "hp"); (case k1 => walk_at "hp"); (case k2 => walk_at "szb"))
  | ((with_reducible refine' Tk.Rd.starK_t ?k0 ?_); (case k0 => walk_at "sqt"))
  | ((with_reducible refine' Tk.Rd.starK_l ?k0 ?_); (case k0 => walk_at "sql"))
  | ((with_reducible refine' Tk.Rd.var ?k0 ?_); (case k0 => exact rfl))
  | with_reducible refine Tk.Rd.c ?_
  | with_reducible refine Tk.Rd.op ?_
  | with_reducible refine Tk.Rd.i0 ?_
  | with_reducible refine Tk.Rd.asg ?_
  | with_reducible refine Tk.Rd.name ?_
  | with_reducible refine Tk.Rd.cons ?_
  | with_reducible refine Tk.Rd.nil ?_
  | with_reducible refine Tk.Rd.call ?_
  | with_reducible refine Tk.Rd.callK_i ?_
  | with_reducible refine Tk.Rd.tst ?_
  | with_reducible refine Tk.Rd.bv ?_
  | with_reducible refine Tk.Rd.toB_i ?_
  | with_reducible refine Tk.Rd.ift ?_
  | with_reducible refine Tk.Rd.iff ?_
  | with_reducible refine Tk.Rd.ifnt ?_
  | with_reducible refine Tk.Rd.ifnf ?_
  | with_reducible refine Tk.Rd.not ?_
  | with_reducible refine Tk.Rd.and ?_
  | with_reducible refine Tk.Rd.or ?_
  | with_reducible refine Tk.Rd.andV ?_
  | with_reducible refine Tk.Rd.andK_i ?_
  | with_reducible refine Tk.Rd.orV ?_
  | with_reducible refine Tk.Rd.orK_i ?_
  | with_reducible refine Tk.Rd.notV ?_
  | with_reducible refine Tk.Rd.notK_i ?_
  | with_reducible refine Tk.Rd.tif ?_
  | with_reducible refine Tk.Rd.yes ?_
  | with_reducible refine Tk.Rd.tfor ?_
  | with_reducible refine Tk.Rd.tlc ?_
  | with_reducible refine Tk.Rd.rng ?_
  | ((with_reducible refine' Tk.Rd.rngK_n ?k0 ?_); (case k0 => first | decide | omega))
  | ((with_reducible refine' Tk.Rd.rngK_lit ?k0 ?_); (case k0 => decide))
  | with_reducible refine Tk.Rd.rng2 ?_
  | with_reducible refine Tk.Rd.rng3 ?_
  | with_reducible refine Tk.Rd.ilist ?_
  | with_reducible refine Tk.Rd.zip ?_
  | with_reducible refine Tk.Rd.itup ?_
  | ((with_reducible refine' Tk.Rd.listK_i ?k0 ?_); (case k0 => walk_at "sql"))
  | ((with_reducible refine' Tk.Rd.ituK_i ?k0 ?_); (case k0 => walk_at "sqt"))
  | with_reducible refine Tk.Rd.chain ?_
  | with_reducible refine Tk.Rd.chainL_i ?_
  | with_reducible refine Tk.Rd.un ?_
  | with_reducible refine Tk.Rd.u1 ?_
  | ((with_reducible refine' Tk.Rd.i1 ?k0 ?_); (case k0 => walk_at "ci"))
  | ((with_reducible refine' Tk.Rd.eq ?k0 ?_); (case k0 => exact rfl))
  | ((with_reducible refine' Tk.Rd.ne ?k0 ?_); (case k0 => exact rfl))
  | with_reducible refine Tk.Rd.isN ?_
  | with_reducible refine Tk.Rd.notN ?_
  | with_reducible refine Tk.Rd.fld ?_
  | with_reducible refine Tk.Rd.meth ?_
  | with_reducible refine Tk.Rd.prop ?_
  | with_reducible refine Tk.Rd.cb ?_
  | with_reducible refine Tk.Rd.bm ?_
  | with_reducible refine Tk.Rd.m0 ?_
  | with_reducible refine Tk.Rd.m0K_i ?_
  | with_reducible refine Tk.Rd.m1 ?_
  | with_reducible refine Tk.Rd.m1K_i ?_
  | with_reducible refine Tk.Rd.tup ?_
  | ((with_reducible refine' Tk.Rd.tupK_i ?k0 fun p H' np S hp => ?_); (case k0 => walk_at "sz"))
  | with_reducible refine Tk.Rd.lst ?_
  | ((with_reducible refine' Tk.Rd.lstK_i ?k0 fun p H' np S hp => ?_); (case k0 => walk_at "sz"))
  | ((with_reducible refine' Tk.Rd.ixF ?k0 ?k1 ?_); (case k0 => walk_at "hp"); (case k1 => omega))
  | ((with_reducible refine' Tk.Rd.ixF1 ?k0 ?k1 ?_); (case k0 => walk_at "hp"); (case k1 => omega))
  | ((with_reducible refine' Tk.Rd.ixT ?k0 ?k1 ?_); (case k0 => walk_at "sqt"); (case k1 => exact rfl))
  | ((with_reducible refine' Tk.Rd.ixL ?k0 ?k1 ?_); (case k0 => walk_at "sql"); (case k1 => exact rfl))
  | ((with_reducible refine' Tk.Rd.lenL ?k0 ?_); (case k0 => walk_at "sql"))
  | ((with_reducible refine' Tk.Rd.lenT ?k0 ?_); (case k0 => walk_at "sqt"))
  | ((with_reducible refine' Tk.Rd.lenS ?k0 ?_); (case k0 => first | assumption | omega | (simp; omega)))
  | ((with_reducible refine' Tk.Rd.slTr ?k0 fun p H' S hp => ?_); (case k0 => walk_at "hp"))
  | ((with_reducible refine' Tk.Rd.slT ?k0 fun p H' S hq => ?_); (case k0 => walk_at "sqt"))
  | ((with_reducible refine' Tk.Rd.catTr ?k0 ?k1 ?k2 fun p H' S hp => ?_); (case k0 => walk_at "hp"); (case k1 => walk_at "hp"); (case k2 => walk_at "sz"))
  | ((with_reducible refine' Tk.Rd.catA ?k0 ?k1 ?k2 ?k3 ?k4 fun p H' np S hp => ?_); (case k0 => walk_at "sqt"); (case k1 => walk_at "sqt"); (case k2 => simp); (case k3 => simp); (case k4 => first | (simp; done) | (simp; omega)))
  | with_reducible refine Tk.Rd.make ?_
  | ((with_reducible refine' Tk.Rd.tplL ?k0 fun q H' nq S hq => ?_); (case k0 => walk_at "sql"))
  | ((with_reducible refine' Tk.Rd.lstL ?k0 fun q H' nq S hq => ?_); (case k0 => walk_at "sql"))
  | ((with_reducible refine' Tk.Rd.lstT ?k0 fun q H' nq S hq => ?_); (case k0 => walk_at "sqt"))
  | ((with_reducible refine' Tk.Rd.join ?k0 ?k1 ?_); (case k0 => walk_at "sql"); (case k1 => first | assumption | omega))
  | with_reducible refine Tk.Rd.mx ?_
  | with_reducible refine Tk.Rd.mn ?_
  | with_reducible refine Tk.Rd.noPart ?_
  | with_reducible refine Tk.Rd.part ?_
  | with_reducible refine Tk.Rd.partK_i ?_
  | with_reducible refine Tk.Rd.slc ?_
  | ((with_reducible refine' Tk.Rd.gtup ?k0 ?k1 ?_); (case k0 => walk_at "sqt"); (case k1 => exact rfl))
  | ((with_reducible refine' Tk.Rd.glst ?k0 ?k1 ?_); (case k0 => walk_at "sql"); (case k1 => exact rfl))
  | with_reducible refine Tk.Rd.gcons ?_
  | with_reducible refine Tk.Rd.gnil ?_
  | with_reducible refine Tk.Rd.next ?_
  | with_reducible refine Tk.Rd.drop ?_
  | with_reducible refine Tk.Rd.ret ?_
  | with_reducible refine Tk.Rd.retN ?_
  | with_reducible refine Tk.Rd.par ?_
  | with_reducible refine Tk.Rd.parK_i ?_
  | with_reducible refine Tk.Rd.par3 ?_
  | with_reducible refine Tk.Rd.par3K_i ?_
  | ((with_reducible refine' Tk.Rd.aug ?k0 ?_); (case k0 => exact rfl))
  | with_reducible refine Tk.Rd.ip ?_
  | ((with_reducible refine' Tk.Rd.bmK_l ?k0 ?_); (case k0 => walk_at "sql"))
  | ((with_reducible refine' Tk.Rd.addS ?k0 ?_); (case k0 => walk_at "sz"))
  | fail "rd1")
local macro_rules | `(tactic| walk_at "rd1i") => `(tactic| first
  | walk_at "rd1"
  | with_reducible refine Tk.Rd.ifS ?_
  | fail "rd1i")
local macro_rules | `(tactic| walk_at "rd") => `(tactic| (repeat' walk_at "rd1i"))
local macro_rules | `(tactic| walk_at "rs") => `(tactic| ((repeat' walk_at "rd1"); (try dsimp only)))
local macro_rules | `(tactic| walk_at "hall") => `(tactic| first
  | assumption
  | ((with_reducible refine' Tk.HallAt.sm ?k0 ?k1); (case k0 => assumption); (case k1 => walk_at "hall"))
  | fail "hall")
local macro_rules | `(tactic| walk_at "parts") => `(tactic| first
  | assumption
  | ((with_reducible refine' Tk.PartsAt.sm ?k0 ?k1); (case k0 => assumption); (case k1 => walk_at "parts"))
  | fail "parts")
local macro_rules | `(tactic| walk_at "sm") => `(tactic| first
  | assumption
  | exact Tk.Sm.int rfl
  | exact Tk.Sm.flat1 rfl
  | ((with_reducible refine' Tk.Sm.sm ?k0 ?k1); (case k0 => assumption); (case k1 => walk_at "sm"))
  | fail "sm")
local macro_rules | `(tactic| walk_at "rd1") => `(tactic| first
  | ((with_reducible refine' Tk.Rd.f_modulus ?k0 ?k1 ?_); (case k0 => assumption); (case k1 => walk_at "hall"))
  | ((with_reducible refine' Tk.Rd.f_lateness ?k0 ?k1 ?_); (case k0 => assumption); (case k1 => walk_at "hall"))
  | ((with_reducible refine' Tk.Rd.f_takes ?k0 ?k1 fun tp htp => ?_); (case k0 => assumption); (case k1 => walk_at "hall"))
  | ((with_reducible refine' Tk.Rd.f_calls ?k0 ?k1 fun cp hcp => ?_); (case k0 => assumption); (case k1 => walk_at "hall"))
  | ((with_reducible refine' Tk.Rd.h_meth ?k0 ?k1 ?_); (case k0 => walk_at "hall"); (case k1 => decide +kernel))
  | ((with_reducible refine' Tk.Rd.h_prop ?k0 ?_); (case k0 => walk_at "hall"))
  | ((with_reducible refine' Tk.Rd.h_taken0 ?k0 fun H' S => ?_); (case k0 => walk_at "hall"))
  | ((with_reducible refine' Tk.Rd.h_taken1 ?k0 fun H' S => ?_); (case k0 => walk_at "hall"))
  | ((with_reducible refine' Tk.Rd.h_takenL ?k0 fun H' S => ?_); (case k0 => walk_at "hall"))
  | ((with_reducible refine' Tk.Rd.h_called0 ?k0 ?_); (case k0 => walk_at "hall"))
  | ((with_reducible refine' Tk.Rd.h_called1 ?k0 ?_); (case k0 => walk_at "hall"))
  | ((with_reducible refine' Tk.Rd.h_calledL ?k0 ?_); (case k0 => walk_at "hall"))
  | ((with_reducible refine' Tk.Rd.h_waiting ?k0 ?k1 fun H' S => ?_); (case k0 => walk_at "hall"); (case k1 => omega))
  | ((with_reducible refine' Tk.Rd.h_growth ?k0 fun H' S => ?_); (case k0 => walk_at "hall"))
  | ((with_reducible refine' Tk.Rd.h_period ?k0 ?_); (case k0 => walk_at "hall"))
  | ((with_reducible refine' Tk.Rd.h_lhall ?k0 fun h lp H' nh nl S hA => ?_); (case k0 => walk_at "parts"))
  | ((with_reducible refine' Tk.Rd.h_length ?k0 ?_); (case k0 => walk_at "parts"))
  | ((with_reducible refine' Tk.Rd.h_counts ?k0 ?k1 fun r a b H' nr na nb nab S hr ha hb => ?_); (case k0 => walk_at "parts"); (case k1 => omega))
  | ((with_reducible refine' Tk.Rd.h_countsL ?k0 ?k1 fun r a b H' nr na nb nab S hr ha hb => ?_); (case k0 => walk_at "parts"); (case k1 => decide))
  | ((with_reducible refine' Tk.Rd.h_make ?k0 ?k1 ?k2 fun h lp H' nh nl S hA => ?_); (case k0 => assumption); (case k1 => walk_at "hp"); (case k2 => walk_at "hp"))
  | ((with_reducible refine' Tk.Rd.p_0 ?k0 ?_); (case k0 => walk_at "parts"))
  | ((with_reducible refine' Tk.Rd.p_1 ?k0 fun htp => ?_); (case k0 => walk_at "parts"))
  | ((with_reducible refine' Tk.Rd.p_2 ?k0 fun hcp => ?_); (case k0 => walk_at "parts"))
  | ((with_reducible refine' Tk.Rd.p_3 ?k0 ?_); (case k0 => walk_at "parts"))
  | fail "rd1")
local macro_rules | `(tactic| walk_at "sqt") => `(tactic| first | ((with_reducible refine' Tk.PartsAt.sq ?k0); (case k0 => walk_at "parts")) | fail "sqt")
local macro_rules | `(tactic| walk_at "free") => `(tactic| first
  | assumption
  | ((with_reducible refine' Tk.Same.fr ?k0 ?k1); (case k0 => assumption); (case k1 => walk_at "free")))
local macro_rules | `(tactic| walk_at "hp") => `(tactic| first
  | ((with_reducible refine' Tk.But.gt ?k0 ?k1 ?k2); (case k0 => assumption); (case k1 => assumption); (case k2 => walk_at "hp"))
  | ((with_reducible refine' Tk.But.gl ?k0 ?k1 ?k2); (case k0 => assumption); (case k1 => assumption); (case k2 => walk_at "hp"))
  | fail "hp")
local macro_rules | `(tactic| walk_at "hall") => `(tactic| first | ((with_reducible refine' Tk.HallAt.bt ?k0 ?k1 ?k2 ?k3); (case k0 => assumption); (case k1 => assumption); (case k2 => assumption); (case k3 => walk_at "hall")) | fail "hall")
local macro_rules | `(tactic| walk_at "parts") => `(tactic| first | ((with_reducible refine' Tk.PartsAt.bt ?k0 ?k1 ?k2); (case k0 => assumption); (case k1 => assumption); (case k2 => walk_at "parts")) | fail "parts")
local macro_rules | `(tactic| walk_at "rd1") => `(tactic| first
  | ((with_reducible refine' Tk.Rd.h_below ?k0 ?k1 ?k2 ?k3 fun r H' cs hr B hd hcs => ?_); (case k0 => walk_at "hp"); (case k1 => assumption); (case k2 => first | decide | omega); (case k3 => first | decide | omega))
  | ((with_reducible refine' Tk.Rd.h_parts ?k0 ?k1 ?k2 ?k3 fun t tp cp m lt tk cl H' cs nt B hd hcs hP l1 l2 => ?_); (case k0 => walk_at "hp"); (case k1 => assumption); (case k2 => first | decide | omega); (case k3 => first | decide | omega))
  | ((with_reducible refine' Tk.Rd.h_partsL ?k0 ?k1 ?k2 ?k3 fun t tp cp m lt tk cl H' cs nt B hd hcs hP l1 l2 => ?_); (case k0 => walk_at "hp"); (case k1 => assumption); (case k2 => first | decide | omega); (case k3 => first | decide | omega))
  | ((with_reducible refine' Tk.Rd.h_small ?k0 ?k1 fun t tp cp m lt tk cl H' cs nt B hd hcs hP m1 l1 l2 l3 => ?_); (case k0 => walk_at "hp"); (case k1 => assumption))
  | ((with_reducible refine' Tk.Rd.h_tick ?k0 ?k1 fun t H' cs ht B hd hcs => ?_); (case k0 => walk_at "hp"); (case k1 => assumption))
  | ((with_reducible refine' Tk.Rd.h_mo ?k0 fun v H' S hv => ?_); (case k0 => walk_at "hall"))
  | ((with_reducible refine' Tk.Rd.h_lc ?k0 fun v H' S hv => ?_); (case k0 => walk_at "hall"))
  | ((with_reducible refine' Tk.Rd.h_lm ?k0 fun v H' S hv => ?_); (case k0 => walk_at "hall"))
  | ((with_reducible refine' Tk.Rd.h_gl ?k0 fun v H' S hv => ?_); (case k0 => walk_at "hall"))
  | ((with_reducible refine' Tk.Rd.h_ot ?k0 ?k1 fun r H' nr S hr => ?_); (case k0 => walk_at "hall"); (case k1 => first | assumption | omega))
  | ((with_reducible refine' Tk.Rd.h_most2 ?k0 fun v H' S hv => ?_); (case k0 => walk_at "parts"))
  | ((with_reducible refine' Tk.Rd.h_opens2L ?k0 ?k1 fun l ys H' nl S hl hlen hR => ?_); (case k0 => walk_at "parts"); (case k1 => decide))
  | ((with_reducible refine' Tk.Rd.h_opens2 ?k0 ?k1 fun l ys H' nl S hl hlen hR => ?_); (case k0 => walk_at "parts"); (case k1 => first | decide | omega))
  | fail "rd1")
local macro_rules | `(tactic| walk_at "ok") => `(tactic| first
  | assumption
  | ((with_reducible refine' Tk.HallAt.ok ?k0); (case k0 => walk_at "hall"))
  | ((with_reducible refine' Tk.PartsAt.ok ?k0); (case k0 => walk_at "parts"))
  | fail "ok")
local macro_rules | `(tactic| walk_at "sml") => `(tactic| first
  | exact Tk.Sml.ints (by walk_at "szb")
  | exact Tk.Sml.intsT (by walk_at "szb")
  | trivial
  | (simp [Tk.Sml]; done)
  | (simp [Tk.Sml]; omega)
  | fail "sml")
local macro_rules | `(tactic| walk_at "rd1") => `(tactic| first
  | ((with_reducible refine' Tk.Rd.nT ?k0 ?_); (case k0 => with_reducible exact rfl))
  | ((with_reducible refine' Tk.Rd.dT ?k0 ?_); (case k0 => with_reducible exact rfl))
  | with_reducible refine Tk.Rd.nF Tk.Rd.int_non ?_
  | with_reducible refine Tk.Rd.nF Tk.Rd.ref_non ?_
  | with_reducible refine Tk.Rd.dF Tk.Rd.int_non ?_
  | with_reducible refine Tk.Rd.dF Tk.Rd.ref_non ?_
  | ((with_reducible refine' Tk.Rd.h_disp ?k0 ?k1 ?_); (case k0 => first | assumption | omega); (case k1 => walk_at "hall"))
  | ((with_reducible refine' Tk.Rd.h_hold ?k0 ?k1 ?k2 ?k3 fun l H' nl S hl => ?_); (case k0 => walk_at "hall"); (case k1 => first | assumption | omega); (case k2 => first | assumption | omega); (case k3 => first | assumption | omega))
  | ((with_reducible refine' Tk.Rd.h_mis ?k0 ?k1 ?k2 fun l ys H' nl S hl hd => ?_); (case k0 => walk_at "hall"); (case k1 => first | assumption | omega); (case k2 => first | assumption | omega))
  | ((with_reducible refine' Tk.Rd.h_enc ?k0 fun l H' nl S hl => ?_); (case k0 => walk_at "hall"))
  | ((with_reducible refine' Tk.Rd.h_dec ?k0 ?k1 fun h lp H' nh nl S hA => ?_); (case k0 => walk_at "hp"); (case k1 => walk_at "ok"))
  | ((with_reducible refine' Tk.Rd.h_text ?k0 fun H' S => ?_); (case k0 => walk_at "hall"))
  | ((with_reducible refine' Tk.Rd.h_eqd ?k0 ?k1 ?k2 fun H' S => ?_); (case k0 => walk_at "dp"); (case k1 => walk_at "dp"); (case k2 => walk_at "sml"))
  | ((with_reducible refine' Tk.Rd.eqd ?k0 ?k1 ?k2 ?k3 ?_); (case k0 => walk_at "dp"); (case k1 => walk_at "dp"); (case k2 => walk_at "sml"); (case k3 => walk_at "sml"))
  | ((with_reducible refine' Tk.Rd.ned ?k0 ?k1 ?k2 ?k3 ?_); (case k0 => walk_at "dp"); (case k1 => walk_at "dp"); (case k2 => walk_at "sml"); (case k3 => walk_at "sml"))
  | fail "rd1")
/-! ### Halls read of any bytes -/
namespace Tk
open PySem PySem.Spec PyProof.Rows L2 Mm
namespace Rd
variable {K : PySem.W.Frag} {σ : L2.St} {H : Hp} {Q : VK} {te : TE}
/-- over a range; what is known of the turns before counts in the next one -/
theorem lc_rngX {n : Nat} {i1 : Nat} {vs : List Nat} (good : Nat → Prop) (f : Nat → V) (hn : n ≤ 100000) (hw1 : ∀ v : V, wipe ((wipe σ vs).set i1 (some v)) vs = wipe σ vs)
    (hs : ∀ i : Nat, i < n → (∀ j < i, good j) → ∀ H', Same H H' → ∀ Q' : VK, (good i → ∀ H'', Same H' H'' → Q' (f i) H'') → te ((wipe σ vs).set i1 (some (.int (i : Int)))) H' Q')
    (k : (∀ j < n, good j) → ∀ D H', H D = none → Same H H' → H' D = some (.lst ((List.range n).map f)) → Q (.ref D) H') :
    lcK (gName i1) tYes te vs σ Q (Itr 0 n) H := fun D hD => by
  refine lc_range (lo := 0) (n := n) (fun i H2 => Same H H2 ∧ H2 D = some (.lst ((List.range i).map f)) ∧ ∀ j < i, good j) ⟨Same.nw hD (Same.refl H), upd_same, fun j hj => absurd hj (by omega)⟩ ?_ fun H2 ⟨S2, h2, g⟩ => k g D H2 hD S2 h2
  rintro i H2 hi ⟨S2, h2, g⟩
  rw [Int.zero_add]
  refine ⟨hw1 _, yes (ift (hs i hi g H2 S2 _ fun gi H4 S4 => ⟨_, S4 _ _ h2, Nat.lt_of_le_of_lt (m := 100000) (by simp; omega) (by decide), fun b o e => ?_, ?_, fun j hj => ?_⟩))⟩
  · rw [upd_ne (ne_of_none e hD)]
    exact S4 _ _ (S2 _ _ e)
  · rw [upd_same, List.range_succ, List.map_append]
    rfl
  · rcases Nat.lt_or_ge j i with h | h
    · exact g j h
    · have : j = i := by omega
      subst this
      exact gi
end Rd
def spRpX (K : PySem.W.Frag) : Sp := fun vs H Q E => ∃ (c : Addr) (xs : List V) (p : Nat), vs = [.ref c, vn p] ∧ SqL K H c xs ∧ p ≤ 9000 ∧ (∀ v ∈ xs, Arg H v) ∧ (byteAt xs p 1 12 = none → RaisesC K E H p) ∧
  ∀ n : Nat, byteAt xs p 1 12 = some (vn n) → (∀ i < n, (∀ j < i, byteAt xs (p + 1 + j) 0 9 ≠ none) → byteAt xs (p + 1 + i) 0 9 = none → RaisesC K E H (p + 1 + i)) ∧
    ∀ tk : List Nat, tk.length = n → (∀ i x, tk[i]? = some x → byteAt xs (p + 1 + i) 0 9 = some (vn x)) → ∀ q H', H q = none → Same H H' → H' q = some (.tup (tk.map vn)) → Q (.ref q) H'
def spDecX (K : PySem.W.Frag) (C : Addr) : Sp := fun vs H Q E => ∃ v : V, vs = [v] ∧ Arg H v ∧ ((∀ c xs, H c = some (.lst xs) → v ≠ .ref c) → RaisesC K E H 0) ∧
  ∀ c xs, v = .ref c → H c = some (.lst xs) → (∀ u ∈ xs, Arg H u) ∧ (∀ p, Bt.Bad xs p → RaisesC K E H p) ∧
    ∀ m tk cl lt, xs = (encN m tk cl lt).map vn → Parts m tk cl lt → ∀ h lp H', H h = none → H lp = none → Same H H' → HallAt C H' h m tk cl lt lp → Q (.ref h) H'
theorem RaisesC.sm {K : PySem.W.Frag} {E : XK} {H H' : Hp} {p : Nat} (r : RaisesC K E H p) (S : Same H H') : RaisesC K E H' p := fun d H2 n S2 h => r d H2 (S.free n) (S.trans S2) h
theorem Arg.sm {H H' : Hp} {v : V} (a : Arg H v) (S : Same H H') : Arg H' v := by
  cases a with
  | lst e => exact .lst (S _ _ e)
  | tup e => exact .tup (S _ _ e)
  | _ => constructor
section
variable {P : Program} {w : World} {K : PySem.W.Frag} {mg : Str → Option Value} {base : Heap}
theorem ok_read_patternX (T : Txt K mg) (hP : Ex.PF P) : OkF P w K mg base 5 (He.ga K "read_pattern") ["code", "place"] (spRpX K) := by
  have G_read_byte : OkF P w K mg base 4 (He.ga K "read_byte") ["code", "place", "least", "greatest"] (spRbX K) := ok_read_byteX T hP
  refine FnP.okF T.f_read_pattern sc_read_pattern (fun _ _ _ _ _ _ us hl => match us, hl with | [_, _], _ => rfl) (fun vs H Q E h => ?_) (fun cdv A outer s H vs Q E hr h => ?_)
  · obtain ⟨c, xs, p, rfl, _⟩ := h
    rfl
  obtain ⟨c, xs, p, rfl, hc, hp, ha, k1, k2⟩ := h
  refine ⟨_, (pss_cons (ps_set (i := 2) sc_read_pattern.nd rfl (Or.inl rfl) (pe_call G_read_byte.one (hr.mono (by decide)) (by rfl) T.g_read_byte G_read_byte.kp G_read_byte.two .nil (passes_call (takes_of rfl rfl rfl rfl) fun _ _ _ _ h => h) (pa_cons (pv 0) (pa_cons (pv 1) (pa_cons pe_int (pa_cons (pe_gint (by rfl) T.c_MOST_ITEMS) pa_nil))))))
    (pss_one (ps_ret (pe_callTy (tplK (K := K)) (by rfl) T.g_tuple (by decide +kernel) (pa_cons (Lcx.pe_lcX rfl rfl (takes_of rfl rfl rfl rfl) (fun _ _ _ _ h => h) (own := [("index", 3)]) (g := gName 3) (tt := tYes) (by rfl) sc_read_pattern.nd (pi_range1 (by rfl) T.g_range (pa_cons (pv 2) pa_nil)) (blkOk_by (own := [("index", 3)]) (N := N_read_pattern) (sc := (defScope s_read_pattern)) (by decide +kernel)) (fun _ _ _ _ _ => pg_name (i := 3) sc_read_pattern.nd rfl (Or.inl rfl)) (fun _ _ _ _ _ => pts_nil) (fun _ _ _ _ _ => (pe_call G_read_byte.one (hr.mono (by decide)) (by rfl) T.g_read_byte G_read_byte.kp G_read_byte.two .nil Lcx.pas (pa_cons (pv 0) (pa_cons (pe_op op_add (pe_op op_add (pv 1) pe_int) (pv 3)) (pa_cons pe_int (pa_cons (pe_gint (by rfl) T.c_GREATEST_ITEM) pa_nil))))))) pa_nil))))), ?_⟩
  walk_at "rd"
  refine ⟨c, xs, p, _, _, rfl, hc, by omega, ha, fun v hv => ?_, fun hv => k1 hv⟩
  obtain ⟨i, rfl, i0, i1⟩ := byte_int hv
  obtain ⟨n, rfl⟩ := Int.eq_ofNat_of_zero_le (by omega : 0 ≤ i)
  obtain ⟨k2, k3⟩ := k2 n hv
  walk_at "rd"
  refine Rd.lc_rngX (fun i => byteAt xs (p + 1 + i) 0 9 ≠ none) (fun i => (byteAt xs (p + 1 + i) 0 9).getD .non) (by omega) (fun _ => rfl) (fun i hi hg H1 S1 Q' q => ?_) fun hg D H2 nD S2 h2 => ?_
  · walk_at "rd"
    refine ⟨c, xs, p + 1 + i, _, _, rfl, S1.seq hc, by omega, fun v hv => (ha v hv).sm S1, fun v hv => ?_, fun hv => ?_⟩
    · have := q (by rw [hv]; simp) H1 (Same.refl _)
      rw [hv] at this
      exact this
    · exact RaisesC.sm (k2 i hi hg hv) S1
  · have hx : ∀ i < n, ∃ x : Nat, byteAt xs (p + 1 + i) 0 9 = some (vn x) := fun i hi => by
      cases e : byteAt xs (p + 1 + i) 0 9 with
      | none => exact absurd e (hg i hi)
      | some v =>
        obtain ⟨j, rfl, j0, _⟩ := byte_int e
        obtain ⟨x, rfl⟩ := Int.eq_ofNat_of_zero_le (by omega : 0 ≤ j)
        exact ⟨x, rfl⟩
    obtain ⟨f, hf⟩ : ∃ f : Nat → Nat, ∀ i < n, byteAt xs (p + 1 + i) 0 9 = some (vn (f i)) := ⟨fun i => if h : i < n then (hx i h).choose else 0, fun i hi => by
      show _ = some (vn (if h : i < n then (hx i h).choose else 0))
      rw [dif_pos hi]
      exact (hx i hi).choose_spec⟩
    have e : (List.range n).map (fun i => (byteAt xs (p + 1 + i) 0 9).getD .non) = ((List.range n).map f).map vn := by
      rw [List.map_map]
      refine List.map_congr_left fun i hi => ?_
      rw [hf i (List.mem_range.mp hi)]
      rfl
    rw [e] at h2
    walk_at "rd"
    rename_i q H3 nq S3 h3
    refine k3 ((List.range n).map f) (by simp) (fun i x hx => ?_) q _ (Same.fr S2 nq) (S2.trans S3) h3
    rw [List.getElem?_map] at hx
    have hi : i < n := by
      rcases Nat.lt_or_ge i n with h | h
      · exact h
      · rw [List.getElem?_eq_none (by simpa using h)] at hx
        cases hx
    rw [List.getElem?_range hi] at hx
    cases hx
    exact hf i hi
end
end Tk

end

section
local macro_rules | `(tactic| walk_at "hp") => `(tactic| first
  | assumption
  | with_reducible exact L2.upd_same
  | ((with_reducible refine' Tk.Same.get ?k0 ?k1); (case k0 => assumption); (case k1 => walk_at "hp"))
  | fail "hp")
local macro_rules | `(tactic| walk_at "same") => `(tactic| first
  | assumption
  | exact L2.Same.refl _
  | ((with_reducible refine' Tk.Same.nw ?k0 ?k1); (case k0 => assumption); (case k1 => walk_at "same"))
  | ((with_reducible refine' Tk.Same.tr ?k0 ?k1); (case k0 => assumption); (case k1 => walk_at "same")))
local macro_rules | `(tactic| walk_at "sql") => `(tactic| first
  | assumption
  | ((with_reducible refine' L2.SqL.of ?k0); (case k0 => walk_at "hp"))
  | ((with_reducible refine' L2.Same.seq ?k0 ?k1); (case k0 => assumption); (case k1 => walk_at "sql")))
local macro_rules | `(tactic| walk_at "sqt") => `(tactic| first
  | assumption
  | ((with_reducible refine' L2.SqT.of ?k0); (case k0 => walk_at "hp"))
  | ((with_reducible refine' Tk.sqt_sm ?k0 ?k1); (case k0 => assumption); (case k1 => walk_at "sqt")))
local macro_rules | `(tactic| walk_at "sz") => `(tactic| first
  | (show (_ : Nat) ≤ 1000; decide)
  | (simp; done)
  | (simp; omega))
local macro_rules | `(tactic| walk_at "szb") => `(tactic| first
  | assumption
  | (show (_ : Nat) ≤ 100000; decide)
  | (simp; done)
  | (simp; omega))
local macro_rules | `(tactic| walk_at "dp") => `(tactic| first
  | assumption
  | with_reducible exact L2.Dp.non
  | with_reducible exact L2.Dp.int _
  | with_reducible exact L2.Dp.str _
  | with_reducible exact L2.Dp.bl _
  | ((with_reducible refine' L2.Dp.lst ?k0 ?k1); (case k0 => walk_at "sql"); (case k1 => walk_at "dpa"))
  | ((with_reducible refine' L2.Dp.tup ?k0 ?k1); (case k0 => walk_at "sqt"); (case k1 => walk_at "dpa"))
  | ((with_reducible refine' Tk.dp_sm ?k0 ?k1); (case k0 => assumption); (case k1 => walk_at "dp"))
  | fail "dp")
local macro_rules | `(tactic| walk_at "dpa") => `(tactic| first
  | assumption
  | with_reducible exact L2.DpAll.nil
  | ((with_reducible refine' L2.DpAll.cons ?k0 ?k1); (case k0 => walk_at "dp"); (case k1 => walk_at "dpa"))
  | with_reducible exact Tk.dp_nats _
  | ((with_reducible refine' Tk.dpA_sm ?k0 ?k1); (case k0 => assumption); (case k1 => walk_at "dpa"))
  | fail "dpa")
local macro_rules | `(tactic| walk_at "ci") => `(tactic| first
  | exact .inl ⟨by decide, by decide⟩
  | exact .inr ⟨by decide, by decide⟩
  | exact .inl ⟨by omega, by omega⟩
  | exact .inr ⟨by omega, by omega⟩
  | exact ⟨by decide, by decide⟩
  | exact ⟨by omega, by omega⟩
  | (show (0 : Int) < _; decide)
  | (show (0 : Int) < _; omega))
local macro_rules | `(tactic| walk_at "rd1") => `(tactic| first
  | with_reducible refine Tk.Rd.seq ?_
  | with_reducible refine Tk.Rd.star ?_
  | with_reducible refine Tk.Rd.int1_i ?_
  | with_reducible refine Tk.Rd.int1_b ?_
  | with_reducible refine Tk.Rd.tlc2 ?_
  | with_reducible refine Tk.Rd.lrg3 ?_
  | with_reducible refine Tk.Rd.lrg ?_
  | with_reducible refine Tk.Rd.rg1 ?_
  | with_reducible refine Tk.Rd.rg1K_i ?_
  | with_reducible refine Tk.Rd.rg2 ?_
  | with_reducible refine Tk.Rd.rg2K_i ?_
  | ((with_reducible refine' Tk.Rd.catL ?k0 ?k1 ?k2 fun p H' np S hp => ?_); (case k0 => walk_at "hp"); (case k1 => walk_at "hp"); (case k2 => walk_at "szb"))
  | ((with_reducible refine' Tk.Rd.starK_t ?k0 ?_); (case k0 => walk_at "sqt"))
  | ((with_reducible refine' Tk.Rd.starK_l ?k0 ?_); (case k0 => walk_at "sql"))
  | ((with_reducible refine' Tk.Rd.var ?k0 ?_); (case k0 => exact rfl))
  | with_reducible refine Tk.Rd.c ?_
  | with_reducible refine Tk.Rd.op ?_
  | with_reducible refine Tk.Rd.i0 ?_
  | with_reducible refine Tk.Rd.asg ?_
  | with_reducible refine Tk.Rd.name ?_
  | with_reducible refine Tk.Rd.cons ?_
  | with_reducible refine Tk.Rd.nil ?_
  | with_reducible refine Tk.Rd.call ?_
  | with_reducible refine Tk.Rd.callK_i ?_
  | with_reducible refine Tk.Rd.tst ?_
  | with_reducible refine Tk.Rd.bv ?_
  | with_reducible refine Tk.Rd.toB_i ?_
  | with_reducible refine Tk.Rd.ift ?_
  | with_reducible refine Tk.Rd.iff ?_
  | with_reducible refine Tk.Rd.ifnt ?_
  | with_reducible refine Tk.Rd.ifnf ?_
  | with_reducible refine Tk.Rd.not ?_
  | with_reducible refine Tk.Rd.and ?_
  | with_reducible refine Tk.Rd.or ?_
  | with_reducible refine Tk.Rd.andV ?_
  | with_reducible refine Tk.Rd.andK_i ?_
  | with_reducible refine Tk.Rd.orV ?_
  | with_reducible refine Tk.Rd.orK_i ?_
  | with_reducible refine Tk.Rd.notV ?_
  | with_reducible refine Tk.Rd.notK_i ?_
  | with_reducible refine Tk.Rd.tif ?_
  | with_reducible refine Tk.Rd.yes ?_
  | with_reducible refine Tk.Rd.tfor ?_
  | with_reducible refine Tk.Rd.tlc ?_
  | with_reducible refine Tk.Rd.rng ?_
  | ((with_reducible refine' Tk.Rd.rngK_n ?k0 ?_); (case k0 => first | decide | omega))
  | ((with_reducible refine' Tk.Rd.rngK_lit ?k0 ?_); (case k0 => decide))
  | with_reducible refine Tk.Rd.rng2 ?_
  | with_reducible refine Tk.Rd.rng3 ?_
  | with_reducible refine Tk.Rd.ilist ?_
  | with_reducible refine Tk.Rd.zip ?_
  | with_reducible refine Tk.Rd.itup ?_
  | ((with_reducible refine' Tk.Rd.listK_i ?k0 ?_); (case k0 => walk_at "sql"))
  | ((with_reducible refine' Tk.Rd.ituK_i ?k0 ?_); (case k0 => walk_at "sqt"))
  | with_reducible refine Tk.Rd.chain ?_
  | with_reducible refine Tk.Rd.chainL_i ?_
  | with_reducible refine Tk.Rd.un ?_
  | with_reducible refine Tk.Rd.u1 ?_
  | ((with_reducible refine' Tk.Rd.i1 ?k0 ?_); (case k0 => walk_at "ci"))
  | ((with_reducible refine' Tk.Rd.eq ?k0 ?_); (case k0 => exact rfl))
  | ((with_reducible refine' Tk.Rd.ne ?k0 ?_); (case k0 => exact rfl))
  | with_reducible refine Tk.Rd.isN ?_
  | with_reducible refine Tk.Rd.notN ?_
  | with_reducible refine Tk.Rd.fld ?_
  | with_reducible refine Tk.Rd.meth ?_
  | with_reducible refine Tk.Rd.prop ?_
  | with_reducible refine Tk.Rd.cb ?_
  | with_reducible refine Tk.Rd.bm ?_
  | with_reducible refine Tk.Rd.m0 ?_
  | with_reducible refine Tk.Rd.m0K_i ?_
  | with_reducible refine Tk.Rd.m1 ?_
  | with_reducible refine Tk.Rd.m1K_i ?_
  | with_reducible refine Tk.Rd.tup ?_
  | ((with_reducible refine' Tk.Rd.tupK_i ?k0 fun p H' np S hp => ?_); (case k0 => walk_at "sz"))
  | with_reducible refine Tk.Rd.lst ?_
  | ((with_reducible refine' Tk.Rd.lstK_i ?k0 fun p H' np S hp => ?_); (case k0 => walk_at "sz"))
  | ((with_reducible refine' Tk.Rd.ixF ?k0 ?k1 ?_); (case k0 => walk_at "hp"); (case k1 => omega))
  | ((with_reducible refine' Tk.Rd.ixF1 ?k0 ?k1 ?_); (case k0 => walk_at "hp"); (case k1 => omega))
  | ((with_reducible refine' Tk.Rd.ixT ?k0 ?k1 ?_); (case k0 => walk_at "sqt"); (case k1 => exact rfl))
  | ((with_reducible refine' Tk.Rd.ixL ?k0 ?k1 ?_); (case k0 => walk_at "sql"); (case k1 => exact rfl))
  | ((with_reducible refine' Tk.Rd.lenL ?k0 ?_); (case k0 => walk_at "sql"))
  | ((with_reducible refine' Tk.Rd.lenT ?k0 ?_); (case k0 => walk_at "sqt"))
  | ((with_reducible refine' Tk.Rd.lenS ?k0 ?_); (case k0 => first | assumption | omega | (simp; omega)))
  | ((with_reducible refine' Tk.Rd.slTr ?k0 fun p H' S hp => ?_); (case k0 => walk_at "hp"))
  | ((with_reducible refine' Tk.Rd.slT ?k0 fun p H' S hq => ?_); (case k0 => walk_at "sqt"))
  | ((with_reducible refine' Tk.Rd.catTr ?k0 ?k1 ?k2 fun p H' S hp => ?_); (case k0 => walk_at "hp"); (case k1 => walk_at "hp"); (case k2 => walk_at "sz"))
  | ((with_reducible refine' Tk.Rd.catA ?k0 ?k1 ?k2 ?k3 ?k4 fun p H' np S hp => ?_); (case k0 => walk_at "sqt"); (case k1 => walk_at "sqt"); (case k2 => simp); (case k3 => simp); (case k4 => first | (simp; done) | (simp; omega)))
  | with_reducible refine Tk.Rd.make ?_
  | ((with_reducible refine' Tk.Rd.tplL ?k0 fun q H' nq S hq => ?_); (case k0 => walk_at "sql"))
  | ((with_reducible refine' Tk.Rd.lstL ?k0 fun q H' nq S hq => ?_); (case k0 => walk_at "sql"))
  | ((with_reducible refine' Tk.Rd.lstT ?k0 fun q H' nq S hq => ?_); (case k0 => walk_at "sqt"))
  | ((with_reducible refine' Tk.Rd.join ?k0 ?k1 ?_); (case k0 => walk_at "sql"); (case k1 => first | assumption | omega))
  | with_reducible refine Tk.Rd.mx ?_
  | with_reducible refine Tk.Rd.mn ?_
  | with_reducible refine Tk.Rd.noPart ?_
  | with_reducible refine Tk.Rd.part ?_
  | with_reducible refine Tk.Rd.partK_i ?_
  | with_reducible refine Tk.Rd.slc ?_
  | ((with_reducible refine' Tk.Rd.gtup ?k0 ?k1 ?_); (case k0 => walk_at "sqt"); (case k1 => exact rfl))
  | ((with_reducible refine' Tk.Rd.glst ?k0 ?k1 ?_); (case k0 => walk_at "sql"); (case k1 => exact rfl))
  | with_reducible refine Tk.Rd.gcons ?_
  | with_reducible refine Tk.Rd.gnil ?_
  | with_reducible refine Tk.Rd.next ?_
  | with_reducible refine Tk.Rd.drop ?_
  | with_reducible refine Tk.Rd.ret ?_
  | with_reducible refine Tk.Rd.retN ?_
  | with_reducible refine Tk.Rd.par ?_
  | with_reducible refine Tk.Rd.parK_i ?_
  | with_reducible refine Tk.Rd.par3 ?_
  | with_reducible refine Tk.Rd.par3K_i ?_
  | ((with_reducible refine' Tk.Rd.aug ?k0 ?_); (case k0 => exact rfl))
  | with_reducible refine Tk.Rd.ip ?_
  | ((with_reducible refine' Tk.Rd.bmK_l ?k0 ?_); (case k0 => walk_at "sql"))
  | ((with_reducible refine' Tk.Rd.addS ?k0 ?_); (case k0 => walk_at "sz"))
  | fail "rd1")
local macro_rules | `(tactic| walk_at "rd1i") => `(tactic| first
  | walk_at "rd1"
  | with_reducible refine Tk.Rd.ifS ?_
  | fail "rd1i")
local macro_rules | `(tactic| walk_at "rd") => `(tactic| (repeat' walk_at "rd1i"))
local macro_rules | `(tactic| walk_at "rs") => `(tactic| ((repeat' walk_at "rd1"); (try dsimp only)))
local macro_rules | `(tactic| walk_at "hall") => `(tactic| first
  | assumption
  | ((with_reducible refine' Tk.HallAt.sm ?k0 ?k1); (case k0 => assumption); (case k1 => walk_at "hall"))
  | fail "hall")
local macro_rules | `(tactic| walk_at "parts") => `(tactic| first
  | assumption
  | ((with_reducible refine' Tk.PartsAt.sm ?k0 ?k1); (case k0 => assumption); (case k1 => walk_at "parts"))
  | fail "parts")
local macro_rules | `(tactic| walk_at "sm") => `(tactic| first
  | assumption
  | exact Tk.Sm.int rfl
  | exact Tk.Sm.flat1 rfl
  | ((with_reducible refine' Tk.Sm.sm ?k0 ?k1); (case k0 => assumption); (case k1 => walk_at "sm"))
  | fail "sm")
local macro_rules | `(tactic| walk_at "rd1") => `(tactic| first
  | ((with_reducible refine' Tk.Rd.f_modulus ?k0 ?k1 ?_); (case k0 => assumption); (case k1 => walk_at "hall"))
  | ((with_reducible refine' Tk.Rd.f_lateness ?k0 ?k1 ?_); (case k0 => assumption); (case k1 => walk_at "hall"))
  | ((with_reducible refine' Tk.Rd.f_takes ?k0 ?k1 fun tp htp => ?_); (case k0 => assumption); (case k1 => walk_at "hall"))
  | ((with_reducible refine' Tk.Rd.f_calls ?k0 ?k1 fun cp hcp => ?_); (case k0 => assumption); (case k1 => walk_at "hall"))
  | ((with_reducible refine' Tk.Rd.h_meth ?k0 ?k1 ?_); (case k0 => walk_at "hall"); (case k1 => decide +kernel))
  | ((with_reducible refine' Tk.Rd.h_prop ?k0 ?_); (case k0 => walk_at "hall"))
  | ((with_reducible refine' Tk.Rd.h_taken0 ?k0 fun H' S => ?_); (case k0 => walk_at "hall"))
  | ((with_reducible refine' Tk.Rd.h_taken1 ?k0 fun H' S => ?_); (case k0 => walk_at "hall"))
  | ((with_reducible refine' Tk.Rd.h_takenL ?k0 fun H' S => ?_); (case k0 => walk_at "hall"))
  | ((with_reducible refine' Tk.Rd.h_called0 ?k0 ?_); (case k0 => walk_at "hall"))
  | ((with_reducible refine' Tk.Rd.h_called1 ?k0 ?_); (case k0 => walk_at "hall"))
  | ((with_reducible refine' Tk.Rd.h_calledL ?k0 ?_); (case k0 => walk_at "hall"))
  | ((with_reducible refine' Tk.Rd.h_waiting ?k0 ?k1 fun H' S => ?_); (case k0 => walk_at "hall"); (case k1 => omega))
  | ((with_reducible refine' Tk.Rd.h_growth ?k0 fun H' S => ?_); (case k0 => walk_at "hall"))
  | ((with_reducible refine' Tk.Rd.h_period ?k0 ?_); (case k0 => walk_at "hall"))
  | ((with_reducible refine' Tk.Rd.h_lhall ?k0 fun h lp H' nh nl S hA => ?_); (case k0 => walk_at "parts"))
  | ((with_reducible refine' Tk.Rd.h_length ?k0 ?_); (case k0 => walk_at "parts"))
  | ((with_reducible refine' Tk.Rd.h_counts ?k0 ?k1 fun r a b H' nr na nb nab S hr ha hb => ?_); (case k0 => walk_at "parts"); (case k1 => omega))
  | ((with_reducible refine' Tk.Rd.h_countsL ?k0 ?k1 fun r a b H' nr na nb nab S hr ha hb => ?_); (case k0 => walk_at "parts"); (case k1 => decide))
  | ((with_reducible refine' Tk.Rd.h_make ?k0 ?k1 ?k2 fun h lp H' nh nl S hA => ?_); (case k0 => assumption); (case k1 => walk_at "hp"); (case k2 => walk_at "hp"))
  | ((with_reducible refine' Tk.Rd.p_0 ?k0 ?_); (case k0 => walk_at "parts"))
  | ((with_reducible refine' Tk.Rd.p_1 ?k0 fun htp => ?_); (case k0 => walk_at "parts"))
  | ((with_reducible refine' Tk.Rd.p_2 ?k0 fun hcp => ?_); (case k0 => walk_at "parts"))
  | ((with_reducible refine' Tk.Rd.p_3 ?k0 ?_); (case k0 => walk_at "parts"))
  | fail "rd1")
local macro_rules | `(tactic| walk_at "sqt") => `(tactic| first | ((with_reducible refine' Tk.PartsAt.sq ?k0); (case k0 => walk_at "parts")) | fail "sqt")
local macro_rules | `(tactic| walk_at "free") => `(tactic| first
  | assumption
  | ((with_reducible refine' Tk.Same.fr ?k0 ?k1); (case k0 => assumption); (case k1 => walk_at "free")))
local macro_rules | `(tactic| walk_at "hp") => `(tactic| first
  | ((with_reducible refine' Tk.But.gt ?k0 ?k1 ?k2); (case k0 => assumption); (case k1 => assumption); (case k2 => walk_at "hp"))
  | ((with_reducible refine' Tk.But.gl ?k0 ?k1 ?k2); (case k0 => assumption); (case k1 => assumption); (case k2 => walk_at "hp"))
  | fail "hp")
local macro_rules | `(tactic| walk_at "hall") => `(tactic| first | ((with_reducible refine' Tk.HallAt.bt ?k0 ?k1 ?k2 ?k3); (case k0 => assumption); (case k1 => assumption); (case k2 => assumption); (case k3 => walk_at "hall")) | fail "hall")
local macro_rules | `(tactic| walk_at "parts") => `(tactic| first | ((with_reducible refine' Tk.PartsAt.bt ?k0 ?k1 ?k2); (case k0 => assumption); (case k1 => assumption); (case k2 => walk_at "parts")) | fail "parts")
local macro_rules | `(tactic| walk_at "rd1") => `(tactic| first
  | ((with_reducible refine' Tk.Rd.h_below ?k0 ?k1 ?k2 ?k3 fun r H' cs hr B hd hcs => ?_); (case k0 => walk_at "hp"); (case k1 => assumption); (case k2 => first | decide | omega); (case k3 => first | decide | omega))
  | ((with_reducible refine' Tk.Rd.h_parts ?k0 ?k1 ?k2 ?k3 fun t tp cp m lt tk cl H' cs nt B hd hcs hP l1 l2 => ?_); (case k0 => walk_at "hp"); (case k1 => assumption); (case k2 => first | decide | omega); (case k3 => first | decide | omega))
  | ((with_reducible refine' Tk.Rd.h_partsL ?k0 ?k1 ?k2 ?k3 fun t tp cp m lt tk cl H' cs nt B hd hcs hP l1 l2 => ?_); (case k0 => walk_at "hp"); (case k1 => assumption); (case k2 => first | decide | omega); (case k3 => first | decide | omega))
  | ((with_reducible refine' Tk.Rd.h_small ?k0 ?k1 fun t tp cp m lt tk cl H' cs nt B hd hcs hP m1 l1 l2 l3 => ?_); (case k0 => walk_at "hp"); (case k1 => assumption))
  | ((with_reducible refine' Tk.Rd.h_tick ?k0 ?k1 fun t H' cs ht B hd hcs => ?_); (case k0 => walk_at "hp"); (case k1 => assumption))
  | ((with_reducible refine' Tk.Rd.h_mo ?k0 fun v H' S hv => ?_); (case k0 => walk_at "hall"))
  | ((with_reducible refine' Tk.Rd.h_lc ?k0 fun v H' S hv => ?_); (case k0 => walk_at "hall"))
  | ((with_reducible refine' Tk.Rd.h_lm ?k0 fun v H' S hv => ?_); (case k0 => walk_at "hall"))
  | ((with_reducible refine' Tk.Rd.h_gl ?k0 fun v H' S hv => ?_); (case k0 => walk_at "hall"))
  | ((with_reducible refine' Tk.Rd.h_ot ?k0 ?k1 fun r H' nr S hr => ?_); (case k0 => walk_at "hall"); (case k1 => first | assumption | omega))
  | ((with_reducible refine' Tk.Rd.h_most2 ?k0 fun v H' S hv => ?_); (case k0 => walk_at "parts"))
  | ((with_reducible refine' Tk.Rd.h_opens2L ?k0 ?k1 fun l ys H' nl S hl hlen hR => ?_); (case k0 => walk_at "parts"); (case k1 => decide))
  | ((with_reducible refine' Tk.Rd.h_opens2 ?k0 ?k1 fun l ys H' nl S hl hlen hR => ?_); (case k0 => walk_at "parts"); (case k1 => first | decide | omega))
  | fail "rd1")
local macro_rules | `(tactic| walk_at "ok") => `(tactic| first
  | assumption
  | ((with_reducible refine' Tk.HallAt.ok ?k0); (case k0 => walk_at "hall"))
  | ((with_reducible refine' Tk.PartsAt.ok ?k0); (case k0 => walk_at "parts"))
  | fail "ok")
local macro_rules | `(tactic| walk_at "sml") => `(tactic| first
  | exact Tk.Sml.ints (by walk_at "szb")
  | exact Tk.Sml.intsT (by walk_at "szb")
  | trivial
  | (simp [Tk.Sml]; done)
  | (simp [Tk.Sml]; omega)
  | fail "sml")
local macro_rules | `(tactic| walk_at "rd1") => `(tactic| first
  | ((with_reducible refine' Tk.Rd.nT ?k0 ?_); (case k0 => with_reducible exact rfl))
  | ((with_reducible refine' Tk.Rd.dT ?k0 ?_); (case k0 => with_reducible exact rfl))
  | with_reducible refine Tk.Rd.nF Tk.Rd.int_non ?_
  | with_reducible refine Tk.Rd.nF Tk.Rd.ref_non ?_
  | with_reducible refine Tk.Rd.dF Tk.Rd.int_non ?_
  | with_reducible refine Tk.Rd.dF Tk.Rd.ref_non ?_
  | ((with_reducible refine' Tk.Rd.h_disp ?k0 ?k1 ?_); (case k0 => first | assumption | omega); (case k1 => walk_at "hall"))
  | ((with_reducible refine' Tk.Rd.h_hold ?k0 ?k1 ?k2 ?k3 fun l H' nl S hl => ?_); (case k0 => walk_at "hall"); (case k1 => first | assumption | omega); (case k2 => first | assumption | omega); (case k3 => first | assumption | omega))
  | ((with_reducible refine' Tk.Rd.h_mis ?k0 ?k1 ?k2 fun l ys H' nl S hl hd => ?_); (case k0 => walk_at "hall"); (case k1 => first | assumption | omega); (case k2 => first | assumption | omega))
  | ((with_reducible refine' Tk.Rd.h_enc ?k0 fun l H' nl S hl => ?_); (case k0 => walk_at "hall"))
  | ((with_reducible refine' Tk.Rd.h_dec ?k0 ?k1 fun h lp H' nh nl S hA => ?_); (case k0 => walk_at "hp"); (case k1 => walk_at "ok"))
  | ((with_reducible refine' Tk.Rd.h_text ?k0 fun H' S => ?_); (case k0 => walk_at "hall"))
  | ((with_reducible refine' Tk.Rd.h_eqd ?k0 ?k1 ?k2 fun H' S => ?_); (case k0 => walk_at "dp"); (case k1 => walk_at "dp"); (case k2 => walk_at "sml"))
  | ((with_reducible refine' Tk.Rd.eqd ?k0 ?k1 ?k2 ?k3 ?_); (case k0 => walk_at "dp"); (case k1 => walk_at "dp"); (case k2 => walk_at "sml"); (case k3 => walk_at "sml"))
  | ((with_reducible refine' Tk.Rd.ned ?k0 ?k1 ?k2 ?k3 ?_); (case k0 => walk_at "dp"); (case k1 => walk_at "dp"); (case k2 => walk_at "sml"); (case k3 => walk_at "sml"))
  | fail "rd1")
namespace Tk
open PySem PySem.Spec PyProof.Rows L2 Mm
theorem Arg.notlst {H : Hp} {v : V} (a : Arg H v) (h : ∀ c xs, H c = some (.lst xs) → v ≠ .ref c) {K : PySem.W.Frag} : ∃ n : String, TyX K H v (.type n) ∧ kitB n "list" = some false := by
  cases a with
  | non => exact ⟨_, .base .non, by decide +kernel⟩
  | bl b => exact ⟨_, .base (.bl b), by decide +kernel⟩
  | int i => exact ⟨_, .base (.int i), by decide +kernel⟩
  | str x => exact ⟨_, .base (.str x), by decide +kernel⟩
  | lst e => exact absurd rfl (h _ _ e)
  | tup e => exact ⟨_, .base (.tup e), by decide +kernel⟩
namespace Bt
/-- the items of a pattern, one after the other -/
theorem take_items {xs : List V} : ∀ (tk ns : List Nat), xs.take ns.length = ns.map vn → (∀ i x, tk[i]? = some x → byteAt xs (ns.length + i) 0 9 = some (vn x)) → xs.take (ns ++ tk).length = (ns ++ tk).map vn
  | [], ns, h, _ => by simpa using h
  | x :: tk, ns, h, hb => by
    have e : xs[ns.length]? = some (vn x) := by
      have := hb 0 x rfl
      rw [Nat.add_zero] at this
      unfold byteAt at this
      cases e : xs[ns.length]? with
      | none => rw [e] at this; cases this
      | some u =>
        rw [e] at this
        have this : (if inB 0 9 u = true then some u else none) = some (vn x) := this
        split at this
        · exact this
        · cases this
    have h2 : xs.take (ns ++ [x]).length = (ns ++ [x]).map vn := by
      rw [List.length_append, List.map_append, ← h]
      show xs.take (ns.length + 1) = _
      rw [List.take_add_one, e]
      rfl
    have := take_items tk (ns ++ [x]) h2 fun i y hy => by
      have := hb (i + 1) y hy
      rw [List.length_append]
      show byteAt xs (ns.length + 1 + i) 0 9 = _
      rw [show ns.length + 1 + i = ns.length + (i + 1) by omega]
      exact this
    rw [List.append_assoc] at this
    exact this
theorem item_nine {xs : List V} {p x : Nat} (h : byteAt xs p 0 9 = some (vn x)) : x ≤ 9 := by
  obtain ⟨i, e, h0, h1⟩ := byte_int h
  have e : V.int (x : Int) = V.int i := e
  injection e with e
  omega
/-- the first items of a pattern that ends badly -/
theorem good_items {xs : List V} {p i : Nat} (h : ∀ j < i, byteAt xs (p + j) 0 9 ≠ none) : ∃ tk : List Nat, tk.length = i ∧ ∀ j x, tk[j]? = some x → byteAt xs (p + j) 0 9 = some (vn x) := by
  induction i with
  | zero => exact ⟨[], rfl, fun j x hx => by simp at hx⟩
  | succ i ih =>
    obtain ⟨tk, hl, ht⟩ := ih fun j hj => h j (by omega)
    obtain ⟨x, hx⟩ : ∃ x : Nat, byteAt xs (p + i) 0 9 = some (vn x) := by
      cases e : byteAt xs (p + i) 0 9 with
      | none => exact absurd e (h i (by omega))
      | some v =>
        obtain ⟨j, rfl, j0, _⟩ := byte_int e
        obtain ⟨x, rfl⟩ := Int.eq_ofNat_of_zero_le (by omega : 0 ≤ j)
        exact ⟨x, rfl⟩
    refine ⟨tk ++ [x], by simp [hl], fun j y hy => ?_⟩
    rcases Nat.lt_or_ge j tk.length with hj | hj
    · rw [List.getElem?_append_left hj] at hy
      exact ht j y hy
    · have hj2 : j < (tk ++ [x]).length := (List.getElem?_eq_some_iff.mp hy).1
      have : j = i := by simp at hj2; omega
      subst this
      rw [List.getElem?_append_right hj, hl] at hy
      simp at hy
      subst hy
      exact hx
end Bt
section
variable {P : Program} {w : World} {K : PySem.W.Frag} {mg : Str → Option Value} {base : Heap}
theorem ok_decodeX (T : Txt K mg) (hP : Ex.PF P) : OkF P w K mg base 8 (He.ga K "decode") ["code"] (spDecX K (He.ga K "Hall")) := by
  have G_checksum : OkF P w K mg base 1 (He.ga K "checksum") ["code"] (spCks K) := ok_checksum T
  have G_read_byte : OkF P w K mg base 4 (He.ga K "read_byte") ["code", "place", "least", "greatest"] (spRbX K) := ok_read_byteX T hP
  have G_read_modulus : OkF P w K mg base 5 (He.ga K "read_modulus") ["code", "place"] (spRmX K) := ok_read_modulusX T hP
  have G_read_pattern : OkF P w K mg base 5 (He.ga K "read_pattern") ["code", "place"] (spRpX K) := ok_read_patternX T hP
  have G_init : OkF P w K mg base 6 (He.ma K (He.ga K "Hall") "__init__") ["self", "modulus", "takes", "calls", "lateness"] (spInit (He.ga K "Hall")) := ok_init T
  have GX_InvalidCode : OkF P w K mg base 2 (He.ma K (He.ga K "InvalidCode") "__init__") ["self", "place"] (Ex.spIni1 (He.ga K "InvalidCode") "place") := ok_xi_InvalidCode T hP
  refine FnP.okF T.f_decode sc_decode (fun _ _ _ _ _ _ us hl => match us, hl with | [_], _ => rfl) (fun vs H Q E h => ?_) (fun cdv A outer s H vs Q E hr h => ?_)
  · obtain ⟨v, rfl, _⟩ := h
    rfl
  obtain ⟨v, rfl, hv, k0, kk⟩ := h
  refine ⟨_, (pss_cons (ps_if (pt_not (pt_val (pe_callB (isiK (K := K)) (by rfl) T.g_isinstance (by decide +kernel) (pa_cons (pv 0) (pa_cons (pe_bltn (v := .ty "list") (by rfl) T.g_list boot_ty_list rfl) pa_nil))))) (pss_one (ps_raise rfl (takes_of rfl rfl rfl rfl) (pmk_oex T.x_InvalidCode.sup.oex T.x_InvalidCode.iC T.x_InvalidCode.tI GX_InvalidCode.one (hr.mono (by decide)) GX_InvalidCode.two .nil passL (by rfl) T.g_InvalidCode (pa_cons pe_int pa_nil)))) pss_nil)
    (pss_cons (ps_expr (pe_call G_read_byte.one (hr.mono (by decide)) (by rfl) T.g_read_byte G_read_byte.kp G_read_byte.two .nil (passes_call (takes_of rfl rfl rfl rfl) fun _ _ _ _ h => h) (pa_cons (pv 0) (pa_cons pe_int (pa_cons (pe_gint (by rfl) T.c_FIRST_BYTE) (pa_cons (pe_gint (by rfl) T.c_FIRST_BYTE) pa_nil))))))
    (pss_cons (ps_set (i := 1) sc_decode.nd rfl (Or.inl rfl) (pe_call G_read_modulus.one (hr.mono (by decide)) (by rfl) T.g_read_modulus G_read_modulus.kp G_read_modulus.two .nil (passes_call (takes_of rfl rfl rfl rfl) fun _ _ _ _ h => h) (pa_cons (pv 0) (pa_cons pe_int pa_nil))))
    (pss_cons (ps_set (i := 2) sc_decode.nd rfl (Or.inl rfl) (pe_call G_read_pattern.one (hr.mono (by decide)) (by rfl) T.g_read_pattern G_read_pattern.kp G_read_pattern.two .nil (passes_call (takes_of rfl rfl rfl rfl) fun _ _ _ _ h => h) (pa_cons (pv 0) (pa_cons pe_int pa_nil))))
    (pss_cons (ps_set (i := 3) sc_decode.nd rfl (Or.inl rfl) (pe_op op_add pe_int (pe_callB (lenK (K := K)) (by rfl) T.g_len (by decide +kernel) (pa_cons (pv 2) pa_nil))))
    (pss_cons (ps_set (i := 4) sc_decode.nd rfl (Or.inl rfl) (pe_call G_read_pattern.one (hr.mono (by decide)) (by rfl) T.g_read_pattern G_read_pattern.kp G_read_pattern.two .nil (passes_call (takes_of rfl rfl rfl rfl) fun _ _ _ _ h => h) (pa_cons (pv 0) (pa_cons (pv 3) pa_nil))))
    (pss_cons (ps_set (i := 5) sc_decode.nd rfl (Or.inl rfl) (pe_op op_add (pe_op op_add (pv 3) pe_int) (pe_callB (lenK (K := K)) (by rfl) T.g_len (by decide +kernel) (pa_cons (pv 4) pa_nil))))
    (pss_cons (ps_set (i := 6) sc_decode.nd rfl (Or.inl rfl) (pe_call G_read_byte.one (hr.mono (by decide)) (by rfl) T.g_read_byte G_read_byte.kp G_read_byte.two .nil (passes_call (takes_of rfl rfl rfl rfl) fun _ _ _ _ h => h) (pa_cons (pv 0) (pa_cons (pv 5) (pa_cons pe_int (pa_cons (pe_gint (by rfl) T.c_GREATEST_LATENESS) pa_nil))))))
    (pss_cons (ps_set (i := 7) sc_decode.nd rfl (Or.inl rfl) (pe_op op_add (pv 5) pe_int))
    (pss_cons (ps_set (i := 8) sc_decode.nd rfl (Or.inl rfl) (pe_call G_checksum.one (hr.mono (by decide)) (by rfl) T.g_checksum G_checksum.kp G_checksum.two .nil (passes_call (takes_of rfl rfl rfl rfl) fun _ _ _ _ h => h) (pa_cons (pe_slice (slLK (K := K)) (pv 0) po_none (po_some (pv 7))) pa_nil)))
    (pss_cons (ps_expr (pe_call G_read_byte.one (hr.mono (by decide)) (by rfl) T.g_read_byte G_read_byte.kp G_read_byte.two .nil (passes_call (takes_of rfl rfl rfl rfl) fun _ _ _ _ h => h) (pa_cons (pv 0) (pa_cons (pv 7) (pa_cons (pv 8) (pa_cons (pv 8) pa_nil))))))
    (pss_cons (ps_if (pt_cmpR op_gt (pe_callB (lenK (K := K)) (by rfl) T.g_len (by decide +kernel) (pa_cons (pv 0) pa_nil)) (pe_op op_add (pv 7) pe_int) (nomark _)) (pss_one (ps_raise rfl (takes_of rfl rfl rfl rfl) (pmk_oex T.x_InvalidCode.sup.oex T.x_InvalidCode.iC T.x_InvalidCode.tI GX_InvalidCode.one (hr.mono (by decide)) GX_InvalidCode.two .nil passL (by rfl) T.g_InvalidCode (pa_cons (pe_op op_add (pv 7) pe_int) pa_nil)))) pss_nil)
    (pss_one (ps_ret (pe_make T.mk_Hall G_init.one (hr.mono (by decide)) (by rfl) T.g_Hall G_init.two .nil (passes_call (takes_of rfl rfl rfl rfl) fun _ _ _ _ h => h) (pa_cons (pv 1) (pa_cons (pv 2) (pa_cons (pv 4) (pa_cons (pv 6) pa_nil))))))))))))))))))), ?_⟩
  walk_at "rd"
  by_cases hlist : ∃ c xs, v = .ref c ∧ H c = some (.lst xs)
  case neg =>
    have no : ∀ c xs, H c = some (.lst xs) → v ≠ .ref c := fun c xs e z => hlist ⟨c, xs, z, e⟩
    obtain ⟨n, ty, kb⟩ := Arg.notlst (K := K) hv no
    refine ⟨v, .ty "list", _, _, false, rfl, .ty "list", ty, kit_at kb, ?_⟩
    walk_at "rd"
    exact (Rd.mkO1 (i := 0) (natlen (p := 0) (by decide)).1 (natlen (p := 0) (by decide)).2 fun d H' n S h => k0 no d H' n S h)
  obtain ⟨c, xs, rfl, hc⟩ := hlist
  obtain ⟨ha, kb, k2⟩ := kk c xs rfl hc
  clear kk k0 hv
  refine ⟨_, .ty "list", _, _, true, rfl, .ty "list", .base (.lst hc), kit_at (by decide +kernel), ?_⟩
  walk_at "rd"
  have stop : ∀ {ns : List Nat} {lo hi : Int}, xs.take ns.length = ns.map vn → Bt.Vld ns → Bt.lim ns = some (lo, hi) → byteAt xs ns.length lo hi = none → RaisesC K E H ns.length := fun {ns lo hi} ht hv hl hb => kb _ ⟨ns, rfl, ht, hv, by
    unfold Bt.Stop
    rw [hl]
    exact hb⟩
  have la : SqL K H c xs := SqL.of hc
  refine ⟨c, xs, 0, 84, 84, rfl, la, by decide, ha, fun v0 h0 => ?_, fun h0 => stop (ns := []) rfl Bt.vld_nil rfl h0⟩
  obtain ⟨n0, rfl, x0, x1, V1, T1⟩ := Bt.ext (ns := []) rfl Bt.vld_nil rfl (by decide) h0
  obtain rfl : n0 = 84 := by omega
  walk_at "rd"
  refine ⟨c, xs, 1, rfl, la, by decide, ha, fun h1 => stop (ns := [84]) T1 V1 rfl h1, fun i1 h1 => ?_⟩
  obtain ⟨a, ea, a0, a1, V2, T2⟩ := Bt.ext (ns := [84]) T1 V1 rfl (by decide) h1
  obtain rfl : i1 = (a : Int) := by
    have ea : V.int i1 = V.int (a : Int) := ea
    injection ea
  refine ⟨fun h2 => stop (ns := [84, a]) T2 V2 rfl h2, fun j h2 => ?_⟩
  obtain ⟨b, eb, b0, b1, V3, T3⟩ := Bt.ext (ns := [84, a]) T2 V2 rfl (by omega) h2
  obtain rfl : j = (b : Int) := by
    have eb : V.int j = V.int (b : Int) := eb
    injection eb
  walk_at "rd"
  -- the takes
  refine ⟨c, xs, 3, rfl, la, by decide, ha, fun h3 => stop (ns := [84, a, b]) T3 V3 rfl h3, fun n h3 => ?_⟩
  obtain ⟨n', en, n0, n1, V4, T4⟩ := Bt.ext (ns := [84, a, b]) T3 V3 rfl (by decide) h3
  obtain rfl : n = n' := Bt.vn_inj en
  refine ⟨fun i hi hg h4 => ?_, fun tk htk hx tp H1 nt S1 h1 => ?_⟩
  · obtain ⟨tk, hl, ht⟩ := Bt.good_items hg
    have V5 := Bt.vld_tk V4 (tk := tk) (by omega) fun x hx => by
      obtain ⟨j, hj⟩ := List.mem_iff_getElem?.mp hx
      exact Bt.item_nine (ht j x hj)
    have T5 := Bt.take_items tk [84, a, b, n] T4 ht
    have e : ([84, a, b, n] ++ tk).length = 3 + 1 + i := by simp; omega
    have := stop (ns := [84, a, b, n] ++ tk) T5 V5 (Bt.lim_tk (r := tk) (by omega)) (by rw [e]; exact h4)
    rw [e] at this
    exact this
  have P1 : ∀ x ∈ tk, x ≤ 9 := fun x hx2 => by
    obtain ⟨j, hj⟩ := List.mem_iff_getElem?.mp hx2
    exact Bt.item_nine (hx j x hj)
  have V5 := Bt.vld_tk V4 (tk := tk) (by omega) P1
  have T5 := Bt.take_items tk [84, a, b, n] T4 hx
  walk_at "rd"
  have e1 : V.int (4 + (((tk.map vn).length : Nat) : Int)) = vn (4 + tk.length) := vn_int (by rw [List.length_map]; omega)
  rw [e1]
  have e5 : ([84, a, b, n] ++ tk).length = 4 + tk.length := by simp; omega
  -- the calls
  have la1 := S1.seq la
  have ha1 : ∀ v ∈ xs, Arg H1 v := fun v hv => (ha v hv).sm S1
  refine ⟨c, xs, 4 + tk.length, rfl, la1, by omega, ha1, fun h5 => ?_, fun m5 h5 => ?_⟩
  · have := stop (ns := [84, a, b, n] ++ tk) T5 V5 (Bt.lim_cn (tk := tk) htk) (by rw [e5]; exact h5)
    rw [e5] at this
    exact this.sm S1
  obtain ⟨cn, ec, c0, c1, V6, T6⟩ := Bt.ext (ns := [84, a, b, n] ++ tk) T5 V5 (Bt.lim_cn (tk := tk) htk) (by decide) (by rw [e5]; exact h5)
  obtain rfl : m5 = cn := Bt.vn_inj ec
  have e6 : ([84, a, b, n] ++ tk ++ [m5]).length = 4 + tk.length + 1 := by simp; omega
  have V6' : Bt.Vld (84 :: a :: b :: n :: (tk ++ [m5])) := V6
  refine ⟨fun i hi hg h6 => ?_, fun cl hcl hy cp H2 nc S2 h2 => ?_⟩
  · obtain ⟨cl, hl, ht⟩ := Bt.good_items hg
    have V7 := Bt.vld_cl V6' htk (cl := cl) (by omega) fun x hx => by
      obtain ⟨j, hj⟩ := List.mem_iff_getElem?.mp hx
      exact Bt.item_nine (ht j x hj)
    have T7 := Bt.take_items cl ([84, a, b, n] ++ tk ++ [m5]) T6 (by rw [e6]; exact ht)
    have ee : [84, a, b, n] ++ tk ++ [m5] ++ cl = 84 :: a :: b :: n :: (tk ++ m5 :: cl) := by simp
    rw [ee] at T7
    have e : (84 :: a :: b :: n :: (tk ++ m5 :: cl)).length = 4 + tk.length + 1 + i := by simp; omega
    have := stop T7 V7 (Bt.lim_cl (r := cl) htk (by omega)) (by rw [e]; exact h6)
    rw [e] at this
    exact this.sm S1
  have P2 : ∀ x ∈ cl, x ≤ 9 := fun x hx2 => by
    obtain ⟨j, hj⟩ := List.mem_iff_getElem?.mp hx2
    exact Bt.item_nine (hy j x hj)
  have V7 := Bt.vld_cl V6' htk (cl := cl) (by omega) P2
  have T7 := Bt.take_items cl ([84, a, b, n] ++ tk ++ [m5]) T6 (by rw [e6]; exact hy)
  have ee : [84, a, b, n] ++ tk ++ [m5] ++ cl = 84 :: a :: b :: n :: (tk ++ m5 :: cl) := by simp
  rw [ee] at T7
  have e7 : (84 :: a :: b :: n :: (tk ++ m5 :: cl)).length = 4 + tk.length + 1 + cl.length := by simp; omega
  walk_at "rd"
  have e2 : V.int (((4 + tk.length : Nat) : Int) + 1 + (((cl.map vn).length : Nat) : Int)) = vn (4 + tk.length + 1 + cl.length) := vn_int (by rw [List.length_map]; omega)
  rw [e2]
  have la2 := S2.seq la1
  have ha2 : ∀ v ∈ xs, Arg H2 v := fun v hv => (ha1 v hv).sm S2
  have hc2 := S2 _ _ (S1 _ _ hc)
  refine ⟨c, xs, 4 + tk.length + 1 + cl.length, _, _, rfl, la2, by omega, ha2, fun v8 h8 => ?_, fun h8 => ?_⟩
  rotate_left
  · have := stop T7 V7 (Bt.lim_lt (cl := cl) htk hcl) (by rw [e7]; exact h8)
    rw [e7] at this
    exact (this.sm S1).sm S2
  obtain ⟨lt, el, l0, l1, V8, T8⟩ := Bt.ext T7 V7 (Bt.lim_lt (cl := cl) htk hcl) (by decide) (by rw [e7]; exact h8)
  subst el
  obtain ⟨m, hm⟩ : ∃ m : Nat, m = a * 256 + b := ⟨_, rfl⟩
  have am : a = m / 256 := by omega
  have bm : b = m % 256 := by omega
  have eH : 84 :: a :: b :: n :: (tk ++ m5 :: cl) ++ [lt] = encH m tk cl lt := by
    unfold encH
    rw [← am, ← bm, htk, hcl]
    simp
  rw [eH] at V8 T8
  have hPt : Parts m tk cl lt := ⟨by omega, by omega, ⟨by omega, by omega, P1⟩, ⟨by omega, by omega, P2⟩, by omega⟩
  walk_at "rd"
  refine Rd.slL la2 fun p3 H3 n3 S3 h3 => ?_
  have lenH : (encH m tk cl lt).length = tk.length + cl.length + 6 := encH_len
  rw [cut_preI _ (n := (encH m tk cl lt).length) (by omega), T8] at h3
  walk_at "rd"
  refine ⟨p3, _, rfl, SqL.of h3, ?_⟩
  walk_at "rd"
  have e4 : V.int (((4 + tk.length + 1 + cl.length : Nat) : Int) + 1) = vn (encH m tk cl lt).length := vn_int (by omega)
  rw [e4]
  have S03 : Same H H3 := (S1.trans S2).trans S3
  have lS : Bt.lim (encH m tk cl lt) = some ((((encH m tk cl lt).sum % 256 : Nat) : Int), (((encH m tk cl lt).sum % 256 : Nat) : Int)) := Bt.lim_sum rfl rfl
  refine ⟨c, xs, (encH m tk cl lt).length, _, _, rfl, S3.seq la2, by omega, fun v hv => (ha2 v hv).sm S3, fun v9 h9 => ?_, fun h9 => ?_⟩
  rotate_left
  · exact RaisesC.sm (stop T8 V8 lS h9) S03
  obtain ⟨s9, es, s0, s1, V9, T9⟩ := Bt.ext T8 V8 lS (by omega) h9
  subst es
  obtain rfl : s9 = (encH m tk cl lt).sum % 256 := by omega
  have V9 : Bt.Vld (encN m tk cl lt) := V9
  have T9 : xs.take (encN m tk cl lt).length = (encN m tk cl lt).map vn := T9
  have lenN : (encN m tk cl lt).length = tk.length + cl.length + 7 := encN_len
  walk_at "rd"
  have lxs : SqL K H3 c xs := S3.seq la2
  by_cases hm : (encN m tk cl lt).length < xs.length
  · refine Rd.dT (by omega) ?_
    walk_at "rd"
    have e9 : ((encH m tk cl lt).length : Int) + 1 = (((encN m tk cl lt).length : Nat) : Int) := by omega
    have nl := natlen (p := (encN m tk cl lt).length) (by omega)
    have r : RaisesC K E H3 (encN m tk cl lt).length := RaisesC.sm (kb _ ⟨encN m tk cl lt, rfl, T9, V9, by
      unfold Bt.Stop
      rw [(Bt.vld_enc hPt).2]
      exact hm⟩) S03
    exact ⟨vn (encH m tk cl lt).length, rfl, _, _, rfl, rfl, Rd.mkO1 (by rw [e9]; exact nl.1) (by rw [e9]; exact nl.2) fun d H' n S h => r d H' n S (by rw [← e9]; exact h)⟩
  · refine Rd.dF (by omega) ?_
    walk_at "rd"
    have e9 : V.int ((a : Int) * 256 + (b : Int)) = vn m := vn_int (by omega)
    rw [e9]
    refine Rd.h_make hPt (S3 _ _ (S2 _ _ h1)) (S3 _ _ h2) fun h lp H4 nh nl S4 hA => k2 m tk cl lt ?_ hPt h lp H4 (Same.fr S03 nh) (Same.fr S03 nl) (S03.trans S4) hA
    rw [← T9, List.take_of_length_le (by omega)]
end
end Tk

end

namespace Tk
open PySem PySem.Spec PyProof.Rows L2
def spTickD : Sp := fun vs H Q _ => ∃ (d : Addr) (cs : List V), vs = [.ref d] ∧ H d = some (.lst cs) ∧ DSt cs ∧ ∀ (t : Nat) H', Src d H H' → t ≤ 1000000000000000000 → Q (vn t) H'
section
variable {P : Program} {w : World} {K : PySem.W.Frag} {mg : Str → Option Value} {base : Heap}
end
end Tk

/-! ### Draws -/
namespace Tk
open PySem PySem.Spec PyProof.Rows L2 Mm
theorem But.gt {d b : Addr} {H H' : Hp} {cs xs : List V} (B : But d H H') (hd : H d = some (.lst cs)) (h : H b = some (.tup xs)) : H' b = some (.tup xs) := B _ _ (ne_of h hd (fun q => by cases q)) h
theorem But.gl {d b : Addr} {H H' : Hp} {xs : List V} (B : But d H H') (n : b ≠ d) (h : H b = some (.lst xs)) : H' b = some (.lst xs) := B _ _ n h
theorem HallAt.bt {C d h lp : Addr} {H H' : Hp} {m lt : Nat} {tk cl : List Nat} {cs : List V} (B : But d H H') (hd : H d = some (.lst cs)) (n : lp ≠ d) (p : HallAt C H h m tk cl lt lp) : HallAt C H' h m tk cl lt lp := p.but B hd n
theorem PartsAt.bt {d t tp cp : Addr} {H H' : Hp} {m lt : Nat} {tk cl : List Nat} {cs : List V} (B : But d H H') (hd : H d = some (.lst cs)) (p : PartsAt H t m tp tk cp cl lt) : PartsAt H' t m tp tk cp cl lt := p.but B hd
/-- a new address is not an old one -/
theorem ne_new {a d : Addr} {H : Hp} {o : HO} (n : H a = none) (e : H d = some o) : a ≠ d := fun q => by rw [q, e] at n; cases n
namespace Rd
variable {K : PySem.W.Frag} {H : Hp} {Q : VK} {E : XK} {d : Addr} {cs : List V}
theorem h_below {lim : Int} (hd : H d = some (.lst cs)) (hcs : DSt cs) (h0 : 0 < lim) (h1 : lim < 1073741824) (k : ∀ (r : Nat) H' cs', (r : Int) < lim → But d H H' → H' d = some (.lst cs') → DSt cs' → Q (vn r) H') : spBelow [.ref d, .int lim] H Q E :=
  ⟨d, lim, cs, rfl, h0, h1, hd, hcs, fun r cs' r0 r1 hc => by
    obtain ⟨n, rfl⟩ : ∃ n : Nat, r = (n : Int) := ⟨r.toNat, by omega⟩
    exact k n _ cs' r1 But.at_d upd_same hc⟩
theorem h_parts {most : Nat} (hd : H d = some (.lst cs)) (hcs : DSt cs) (h0 : 0 < most) (h1 : most ≤ 12) (k : ∀ (t tp cp : Addr) (m lt : Nat) (tk cl : List Nat) H' cs', H t = none → But d H H' → H' d = some (.lst cs') → DSt cs' → PartsAt H' t m tp tk cp cl lt → tk.length ≤ most → cl.length ≤ most → Q (.ref t) H') : spParts [.ref d, vn most] H Q E :=
  ⟨d, most, cs, rfl, h0, h1, hd, hcs, fun t tp cp m lt tk cl H' n S hP l1 l2 => by
    obtain ⟨cs', hd', hc'⟩ := S.at_
    exact k t tp cp m lt tk cl H' cs' n S.but hd' hc' hP l1 l2⟩
theorem h_partsL {most : Nat} (hd : H d = some (.lst cs)) (hcs : DSt cs) (h0 : 0 < most) (h1 : most ≤ 12) (k : ∀ (t tp cp : Addr) (m lt : Nat) (tk cl : List Nat) H' cs', H t = none → But d H H' → H' d = some (.lst cs') → DSt cs' → PartsAt H' t m tp tk cp cl lt → tk.length ≤ (OfNat.ofNat most : Nat) → cl.length ≤ (OfNat.ofNat most : Nat) → Q (.ref t) H') : spParts [.ref d, .int (OfNat.ofNat most : Int)] H Q E := h_parts (most := most) hd hcs h0 h1 k
theorem h_small (hd : H d = some (.lst cs)) (hcs : DSt cs) (k : ∀ (t tp cp : Addr) (m lt : Nat) (tk cl : List Nat) H' cs', H t = none → But d H H' → H' d = some (.lst cs') → DSt cs' → PartsAt H' t m tp tk cp cl lt → m ≤ 10 → tk.length ≤ 3 → cl.length ≤ 3 → lt ≤ 5 → Q (.ref t) H') : spSmall [.ref d] H Q E :=
  ⟨d, cs, rfl, hd, hcs, fun t tp cp m lt tk cl H' n S hP m1 l1 l2 l3 => by
    obtain ⟨cs', hd', hc'⟩ := S.at_
    exact k t tp cp m lt tk cl H' cs' n S.but hd' hc' hP m1 l1 l2 l3⟩
theorem h_tick (hd : H d = some (.lst cs)) (hcs : DSt cs) (k : ∀ (t : Nat) H' cs', t ≤ 1000000000000000000 → But d H H' → H' d = some (.lst cs') → DSt cs' → Q (vn t) H') : spTickD [.ref d] H Q E :=
  ⟨d, cs, rfl, hd, hcs, fun t H' S ht => by
    obtain ⟨cs', hd', hc'⟩ := S.at_
    exact k t H' cs' ht S.but hd' hc'⟩
end Rd
end Tk

/-! ### list(range(a, b, c)) -/
namespace Tk
open PySem PySem.Spec PyProof.Rows L2 Mm
def tLstRg3 (ta : TA) : TE := fun σ H Q => ta σ H fun vs H1 => ∃ (i j c : Int) (n : Nat), vs = [.int i, .int j, .int c] ∧ RgC i j c n ∧ n ≤ 2 ^ 24 ∧ ∀ q, H1 q = none → Q (.ref q) (upd H1 q (.lst ((List.range n).map fun k => V.int (i + (k : Nat) * c))))
section
variable {X : Cx} {a b c : Expr} {ta : TA}
theorem pe_listRg3 {p pos p2 pos2 : Pos} (hc : X.calm = true) (hgl : Gl X "list") (hml : X.mg "list" = none) (hg : Gl X "range") (hm : X.mg "range" = none) (ha : PA X [a, b, c] ta)
    (hs : starEach [a, b, c] X.env = (false, eval a X.env) :: starEach [b, c] X.env := by rfl) (hpl : (backTo pos2 (starEach [b, c] X.env)).any (·.1) = false := by rfl)
    (na : starEach [.Call (.Name "range" p2) [a, b, c] [] pos2] X.env = (false, eval (.Call (.Name "range" p2) [a, b, c] [] pos2) X.env) :: starEach [] X.env := by rfl) :
    PE X (.Call (.Name "list" p) [.Call (.Name "range" p2) [a, b, c] [] pos2] [] pos) (tLstRg3 ta) := by
  refine ⟨fun pins s σ H Q I h => ?_⟩
  have inner : wpAny (model X.prog X.w) X.A (eval (.Call (.Name "range" p2) [a, b, c] [] pos2) X.env) (fun x s' => ∃ r i j k n t u v H', x = Value.ref r ∧ IsRange s'.heap r i j k t u v ∧ Inv X pins σ H' s' ∧ RgC i j k n ∧ n ≤ 2 ^ 24 ∧
      ∀ q, H' q = none → Q (.ref q) (upd H' q (.lst ((List.range n).map fun m => V.int (i + (m : Nat) * k))))) X.xe s := by
    refine Call_ (ld_blt I hg hm boot_range (PyProof.Rows.callWith_type1 (thn (ha.run pos2 pins s σ H _ I h) fun us s1 ⟨vs, H1, I1, r1, q1⟩ => ?_) hs hpl))
    obtain ⟨i, j, k, n, e, hR, hz, q⟩ := q1
    subst e
    cases r1 with
    | cons r rr =>
      cases rr with
      | cons r' rr =>
        cases rr with
        | cons r'' rr =>
          cases rr
          obtain ⟨t, rfl⟩ := r
          obtain ⟨t', rfl⟩ := r'
          obtain ⟨t'', rfl⟩ := r''
          refine call_range_3 hR.1 ?_ (.inl (PyProof.noPylong_small hR.2.1))
          exact ⟨_, i, j, k, n, _, _, _, H1, rfl, IsRange.new _ _ _ _ _ _ _, I1.kept fun b u e => Heap.get?_push_of_some _ e, hR, hz, q⟩
  refine Call_ (ld_blt I hgl hml boot_list (PyProof.Rows.callWith_type1 (args_cons (thn inner fun x s1 ⟨r, i, j, k, n, t, u, v, H1, ex, hr, I1, hR, hz, q⟩ => args_nil ?_) na) na))
  subst ex
  obtain ⟨c0, c1, c2, c3⟩ := hR
  refine call_list_range (n := n) (I1.ok.hd hc) hr c2 c3 hz fun h' tk acc c' hk e' hi => ?_
  have vals : Vals ((List.range n).map fun m => V.int (i + (m : Nat) * k)) acc.toList := by
    have e : acc.toList.length = n := by rw [Array.length_toList]; exact hi.1
    rw [← e]
    refine vals_of_get acc.toList _ fun m u hm => ?_
    obtain ⟨t, rfl⟩ := hi.2 m u (by rw [← hm, Array.getElem?_toList])
    exact ⟨t, rfl⟩
  refine ⟨.ref s1.heap.objs.size, upd H1 s1.heap.objs.size (.lst _), I1.laid hk (Nat.le_refl _) (show ObjOk X.prog X.w _ _ _ (.lst _) from ⟨?_, acc.toList, c', vals, ?_⟩), rfl, q _ (I1.hok.fresh (Nat.le_refl _))⟩
  · rw [List.length_map, List.length_range, sizeLine_eq]; omega
  · rw [Array.toArray_toList]; exact e'
end
/-- the numbers from a on and below b that leave the rest d -/
def resL (a b d m : Nat) : List Nat := ((List.range (b - a)).map fun i => a + i).filter fun n => decide (n % m = d)
/-- how the steps tell them -/
theorem res_steps {a d m : Nat} (hm : 0 < m) (hd : d < m) : ∀ b, resL a b d m = (List.range ((b - (a + (d + (m - a % m)) % m) + m - 1) / m)).map fun k => (a + (d + (m - a % m)) % m) + k * m
  | 0 => by
    unfold resL
    rw [Nat.zero_sub, Nat.zero_sub, Nat.zero_add, Nat.div_eq_of_lt (by omega)]
    rfl
  | b + 1 => by
    have ih := res_steps (a := a) hm hd b
    generalize hs : a + (d + (m - a % m)) % m = s at *
    have am := Nat.mod_lt a hm
    have sm : s % m = d := by
      rw [← hs, Nat.add_mod_mod, show a + (d + (m - a % m)) = d + (a - a % m + m) by have := Nat.mod_le a m; omega]
      have : (a - a % m + m) % m = 0 := by
        rw [Nat.add_mod_right]
        have := Nat.div_add_mod a m
        rw [show a - a % m = m * (a / m) by omega, Nat.mul_mod_right]
      rw [Nat.add_mod, this, Nat.add_zero, Nat.mod_mod, Nat.mod_eq_of_lt hd]
    have sa : a ≤ s := by omega
    have sb : s < a + m := by
      have := Nat.mod_lt (d + (m - a % m)) hm
      omega
    -- is b the next one?
    by_cases hab : a ≤ b
    · have e1 : resL a (b + 1) d m = resL a b d m ++ if b % m = d then [b] else [] := by
        unfold resL
        rw [show b + 1 - a = (b - a) + 1 by omega, List.range_succ, List.map_append, List.filter_append]
        congr 1
        rw [List.map_singleton, show a + (b - a) = b by omega]
        by_cases c : b % m = d <;> simp [c]
      rw [e1, ih]
      by_cases c : b % m = d
      · rw [if_pos c]
        have ge : s ≤ b := by
          refine Nat.le_of_not_lt fun lt => ?_
          have e : (s - b) % m = 0 := Nat.sub_mod_eq_zero_of_mod_eq (by rw [sm, c])
          have := Nat.mod_eq_of_lt (show s - b < m by omega)
          omega
        obtain ⟨k, hk⟩ : ∃ k, b = s + k * m := by
          have e : (b - s) % m = 0 := Nat.sub_mod_eq_zero_of_mod_eq (by rw [sm, c])
          have := Nat.div_add_mod (b - s) m
          refine ⟨(b - s) / m, ?_⟩
          rw [Nat.mul_comm]
          omega
        have q1 : (b - s + m - 1) / m = k := by
          rw [show b - s + m - 1 = (m - 1) + k * m by omega, Nat.add_mul_div_right _ _ hm, Nat.div_eq_of_lt (by omega), Nat.zero_add]
        have q2 : (b + 1 - s + m - 1) / m = k + 1 := by
          rw [show b + 1 - s + m - 1 = (k + 1) * m by rw [Nat.add_mul]; omega, Nat.mul_div_cancel _ hm]
        rw [q1, q2, List.range_succ, List.map_append, List.map_singleton, ← hk]
      · rw [if_neg c, List.append_nil]
        congr 2
        rcases Nat.lt_or_ge b s with lt | ge
        · rw [show b - s = 0 by omega, show b + 1 - s = 0 by omega]
        · have e2 : b + 1 - s + m - 1 = (b - s + m - 1) + 1 := by omega
          rw [e2, Nat.succ_div, if_neg]
          · rfl
          · intro dv
            refine c ?_
            have : (b - s) % m = 0 := by
              rw [show b - s + m - 1 + 1 = (b - s) + m by omega] at dv
              have := Nat.mod_eq_zero_of_dvd dv
              rwa [Nat.add_mod_right] at this
            have dm := Nat.div_add_mod (b - s) m
            rw [show b = s + m * ((b - s) / m) by omega, Nat.add_mul_mod_self_left, sm]
    · unfold resL
      rw [show b + 1 - a = 0 by omega, show b + 1 - s = 0 by omega, Nat.zero_add, Nat.div_eq_of_lt (by omega)]
      rfl
namespace Rd
variable {σ : L2.St} {H : Hp} {Q : VK} {ta : TA}
def rg3K (Q : VK) : List V → Hp → Prop := fun vs H1 => ∃ (i j c : Int) (n : Nat), vs = [.int i, .int j, .int c] ∧ RgC i j c n ∧ n ≤ 2 ^ 24 ∧ ∀ q, H1 q = none → Q (.ref q) (upd H1 q (.lst ((List.range n).map fun k => V.int (i + (k : Nat) * c))))
theorem lrg3 (k : ta σ H (rg3K Q)) : tLstRg3 ta σ H Q := k
end Rd
theorem rgC_up {s b m : Nat} (hm : 0 < m) (h1 : m ≤ 1000000) (hs : s ≤ 4500000000000000000) (hb : b ≤ 4500000000000000000) : RgC (s : Int) (b : Int) (m : Int) ((b - s + m - 1) / m) := by
  have rz : Builtin.Range.rangeSize (s : Int) (b : Int) (m : Int) = (((b - s + m - 1) / m : Nat) : Int) := by
    unfold Builtin.Range.rangeSize
    rw [if_pos (by omega)]
    by_cases lt : s < b
    · rw [if_pos (by omega), show (b : Int) - (s : Int) - 1 = ((b - s - 1 : Nat) : Int) by omega, show b - s + m - 1 = (b - s - 1) + m by omega, Nat.add_div_right _ hm, ← Int.natCast_ediv]
      rfl
    · rw [if_neg (by omega), show b - s = 0 by omega, Nat.zero_add, Nat.div_eq_of_lt (by omega)]
      rfl
  have hq : (b - s + m - 1) / m ≤ b - s + m - 1 := Nat.div_le_self _ _
  refine ⟨by omega, by omega, ?_, rz⟩
  unfold Builtin.Range.small
  rw [rz]
  generalize (b - s + m - 1) / m = q at *
  simp only [Builtin.Range.rangeFitsLong, Bool.and_eq_true, Bool.or_eq_true, decide_eq_true_eq, beq_iff_eq]
  rw [if_pos (by omega)]
  simp only [Bool.and_eq_true, decide_eq_true_eq]
  omega
end Tk

/-! ### Comprehensions by two walks; items told by their data -/
namespace Tk
open PySem PySem.Spec PyProof.Rows L2 Mm
namespace Rd
variable {K : PySem.W.Frag} {σ : L2.St} {H : Hp} {Q : VK} {te : TE} {tt tt1 : L2.TT}
def lc2K (g : TG) (tt : L2.TT) (wi1 : TI) (g1 : TG) (tt1 : L2.TT) (te : TE) (vs vs1 : List Nat) (σ : L2.St) (Q : VK) (J : It) (H1 : Hp) : Prop := ∀ D, H1 D = none → ∃ W : Nat → Nat → Hp → Prop, (∃ m, W 0 m (upd H1 D (.lst []))) ∧ ∀ i m H, W i m H →
  (J.stop i H ∧ Q (.ref D) H) ∨ (J.go i H ∧ ∃ Nx : Hp → Prop, (∀ H', Nx H' → ∃ m', m' < m ∧ W (i + 1) m' H') ∧ ∀ x H', J.yld i H x H' → g x (wipe σ vs) H' fun σ2 H2 => wipe σ2 vs = wipe σ vs ∧ tt σ2 H2 fun b H3 =>
    if b = true then wi1 σ2 H3 fun J1 H4 => ∃ W1 : Nat → Nat → Hp → Prop, (∃ m, W1 0 m H4) ∧ ∀ j k H, W1 j k H →
      (J1.stop j H ∧ Nx H) ∨ (J1.go j H ∧ ∃ Nx1 : Hp → Prop, (∀ H', Nx1 H' → ∃ k', k' < k ∧ W1 (j + 1) k' H') ∧ ∀ x H', J1.yld j H x H' → g1 x (wipe σ2 vs1) H' fun σ3 H5 => wipe σ3 vs1 = wipe σ2 vs1 ∧ tt1 σ3 H5 fun b H6 =>
        if b = true then te σ3 H6 fun y H7 => ∃ acc, H7 D = some (.lst acc) ∧ acc.length < sizeLine ∧ Nx1 (upd H7 D (.lst (acc ++ [y]))) else Nx1 H6)
    else Nx H3)
theorem tlc2 {wi wi1 : TI} {g g1 : TG} {vs vs1 : List Nat} (k : wi σ H (lc2K g tt wi1 g1 tt1 te vs vs1 σ Q)) : tLc2 wi g tt wi1 g1 tt1 te vs vs1 σ H Q := k
/-- [e for i in range(lo, lo + n) for x in a list of numbers] -/
theorem lc2_rng {lo : Int} {n i1 i2 N : Nat} {wi1 : TI} {vs vs1 : List Nat} (L : Nat → List Nat) (f : Nat → Nat → PyData) (hN : ((List.range n).flatMap fun i => (L i).map (f i)).length ≤ N) (hN2 : N ≤ 100000)
    (hw1 : ∀ v : V, wipe ((wipe σ vs).set i1 (some v)) vs = wipe σ vs) (hw2 : ∀ v u : V, wipe ((wipe ((wipe σ vs).set i1 (some v)) vs1).set i2 (some u)) vs1 = wipe ((wipe σ vs).set i1 (some v)) vs1)
    (hi : ∀ i : Nat, i < n → ∀ H', Same H H' → ∀ R : It → Hp → Prop, (∀ l H'', H' l = none → Same H' H'' → H'' l = some (.lst ((L i).map vn)) → R (Itl K l) H'') → wi1 ((wipe σ vs).set i1 (some (.int (lo + i)))) H' R)
    (he : ∀ i x : Nat, i < n → x ∈ L i → ∀ H' D, H D = none → Same H H' → H' D ≠ none → ∀ Q' : VK, (∀ y H'', Same H' H'' → (∀ Hx, But D H'' Hx → L2.Dp K Hx y (f i x)) → Q' y H'') → te ((wipe ((wipe σ vs).set i1 (some (.int (lo + i)))) vs1).set i2 (some (vn x))) H' Q')
    (k : ∀ D ys H', H D = none → Same H H' → H' D = some (.lst ys) → DpAll K H' ys ((List.range n).flatMap fun i => (L i).map (f i)) → Q (.ref D) H') :
    lc2K (gName i1) tYes wi1 (gName i2) tYes te vs vs1 σ Q (Itr lo n) H := fun D hD => by
  have key : ∀ (ds : List PyData) (H2 : Hp) (ys : List V), (∀ Hx, But D H2 Hx → DpAll K Hx ys ds) → ys.length = ds.length := fun ds H2 ys h => dpA_len (h H2 fun _ _ _ e => e)
  let P : List PyData → Hp → Prop := fun ds H2 => ∃ ys : List V, Same H H2 ∧ H2 D = some (.lst ys) ∧ ∀ Hx, But D H2 Hx → DpAll K Hx ys ds
  refine ⟨fun i m H2 => m = n - i ∧ i ≤ n ∧ P ((List.range i).flatMap fun i => (L i).map (f i)) H2, ⟨n, by simp, Nat.zero_le _, [], Same.nw hD (Same.refl H), upd_same, fun _ _ => .nil⟩, ?_⟩
  rintro i m H2 ⟨rfl, hin, ys, S2, h2, d2⟩
  by_cases hlt : i < n
  · refine .inr ⟨hlt, P ((List.range (i + 1)).flatMap fun i => (L i).map (f i)), fun H' p' => ⟨n - (i + 1), by omega, rfl, hlt, p'⟩, fun x H' y => ?_⟩
    obtain ⟨e, y⟩ := y
    subst e y
    refine ⟨hw1 _, yes (ift (hi i hlt _ S2 _ fun l H3 nl S3 hl => ?_))⟩
    have nDl : l ≠ D := fun q => by
      rw [q, h2] at nl
      cases nl
    have step : ∀ {Ha Hb : Hp}, Same Ha Hb → ∀ {Hx : Hp}, But D Hb Hx → But D Ha Hx := fun S _ b c o ne e => b c o ne (S _ _ e)
    refine ⟨fun j k H4 => k = (L i).length - j ∧ j ≤ (L i).length ∧ H4 l = some (.lst ((L i).map vn)) ∧ P (((List.range i).flatMap fun i => (L i).map (f i)) ++ ((L i).take j).map (f i)) H4, ⟨(L i).length, by simp, Nat.zero_le _, hl, ys, S2.trans S3, S3 _ _ h2, fun Hx b => by
      rw [List.take_zero, List.map_nil, List.append_nil]
      exact d2 Hx (step S3 b)⟩, ?_⟩
    rintro j k H4 ⟨rfl, hj, hl4, ys4, S4, h4, d4⟩
    by_cases hjl : j < (L i).length
    · have hx : (L i)[j]? = some ((L i)[j]) := List.getElem?_eq_getElem hjl
      refine .inr ⟨⟨_, vn ((L i)[j]), SqL.of hl4, by rw [List.getElem?_map, hx]; rfl⟩, fun H' => H' l = some (.lst ((L i).map vn)) ∧ P (((List.range i).flatMap fun i => (L i).map (f i)) ++ ((L i).take (j + 1)).map (f i)) H', fun H' p' => ⟨_, Nat.sub_lt_sub_left hjl (Nat.lt_succ_self j), rfl, hjl, p'⟩, fun x H' y => ?_⟩
      obtain ⟨e, y⟩ := y
      subst e
      obtain rfl : vn ((L i)[j]) = x := by
        have := y _ (SqL.of hl4)
        rw [List.getElem?_map, hx] at this
        exact Option.some.inj this
      refine ⟨hw2 _ _, yes (ift (he i _ hlt (List.getElem_mem hjl) _ D hD S4 (by rw [h4]; simp) _ fun y H5 S5 hy => ⟨ys4, S5 _ _ h4, ?_, ?_, ys4 ++ [y], fun b o e => ?_, upd_same, fun Hx b => ?_⟩))⟩
      · have e := key _ _ _ d4
        have le : (((List.range i).flatMap fun i => (L i).map (f i)) ++ ((L i).take j).map (f i)).length ≤ ((List.range n).flatMap fun i => (L i).map (f i)).length := by
          obtain ⟨r, hr⟩ : ∃ r, n = i + 1 + r := ⟨n - (i + 1), by omega⟩
          rw [hr, List.range_add, List.flatMap_append, List.range_succ, List.flatMap_append, List.length_append, List.length_append, List.length_append]
          simp only [List.flatMap_cons, List.flatMap_nil, List.append_nil, List.length_map, List.length_take]
          omega
        exact Nat.lt_of_le_of_lt (m := 100000) (by omega) (by decide)
      · rw [upd_ne nDl]
        exact S5 _ _ hl4
      · rw [upd_ne (ne_of_none e hD)]
        exact S5 _ _ (S4 _ _ e)
      · have b5 : But D H5 Hx := fun c o ne e => b c o ne (by rw [upd_ne ne]; exact e)
        have e : (L i).take (j + 1) = (L i).take j ++ [(L i)[j]] := by rw [List.take_succ, hx]; rfl
        rw [e, List.map_append, ← List.append_assoc]
        exact dpA_app (d4 Hx (step S5 b5)) (.cons (hy Hx b5) .nil)
    · have e : j = (L i).length := by omega
      subst e
      refine .inl ⟨⟨_, SqL.of hl4, by simp⟩, ys4, S4, h4, fun Hx b => ?_⟩
      have := d4 Hx b
      rw [List.take_length] at this
      rw [List.range_succ, List.flatMap_append]
      simpa using this
  · have e : i = n := by omega
    subst e
    exact .inl ⟨Nat.le_refl _, k D ys H2 hD S2 h2 (d2 _ fun _ _ _ e => e)⟩
/-- [e for x in range(lo, lo + n) if t], the items told by their data -/
theorem lc_rngD {lo : Int} {n i1 : Nat} {vs : List Nat} (c : Nat → Bool) (f : Nat → PyData) (hn : n ≤ 100000) (hw1 : ∀ v : V, wipe ((wipe σ vs).set i1 (some v)) vs = wipe σ vs)
    (ht : ∀ i : Nat, i < n → ∀ H', Same H H' → ∀ Q' : Bool → Hp → Prop, (∀ H'', Same H' H'' → Q' (c i) H'') → tt ((wipe σ vs).set i1 (some (.int (lo + i)))) H' Q')
    (he : ∀ i : Nat, i < n → c i = true → ∀ H' D, H D = none → Same H H' → H' D ≠ none → ∀ Q' : VK, (∀ y H'', Same H' H'' → (∀ Hx, But D H'' Hx → L2.Dp K Hx y (f i)) → Q' y H'') → te ((wipe σ vs).set i1 (some (.int (lo + i)))) H' Q')
    (k : ∀ D ys H', H D = none → Same H H' → H' D = some (.lst ys) → DpAll K H' ys (((List.range n).filter c).map f) → Q (.ref D) H') : lcK (gName i1) tt te vs σ Q (Itr lo n) H := fun D hD => by
  refine lc_range (lo := lo) (n := n) (fun i H2 => ∃ ys : List V, Same H H2 ∧ H2 D = some (.lst ys) ∧ ys.length ≤ i ∧ ∀ Hx, But D H2 Hx → DpAll K Hx ys (((List.range i).filter c).map f)) ⟨[], Same.nw hD (Same.refl H), upd_same, Nat.le_refl _, fun _ _ => .nil⟩ ?_ fun H2 ⟨ys, S2, h2, hl, hR⟩ => k D ys H2 hD S2 h2 (hR _ fun _ _ _ e => e)
  rintro i H2 hi ⟨ys, S2, h2, hl, hR⟩
  have e1 : (List.range (i + 1)).filter c = (List.range i).filter c ++ if c i = true then [i] else [] := by
    rw [List.range_succ, List.filter_append]
    congr 1
    by_cases h : c i = true <;> simp [h]
  have stp : ∀ {Ha Hb : Hp}, Same Ha Hb → ∀ {Hx : Hp}, But D Hb Hx → But D Ha Hx := fun S _ b c o ne e => b c o ne (S _ _ e)
  refine ⟨hw1 _, ht i hi H2 S2 _ fun H3 S3 => bb (fun hc => ?_) (fun hc => ?_)⟩
  · refine he i hi hc H3 D hD (S2.trans S3) (by rw [S3 _ _ h2]; simp) _ fun y H4 S4 hy => ⟨ys, S4 _ _ (S3 _ _ h2), Nat.lt_of_le_of_lt (m := 100000) (by omega) (by decide), ys ++ [y], fun b o e => ?_, upd_same, by rw [List.length_append]; exact Nat.succ_le_succ hl, fun Hx b => ?_⟩
    · rw [upd_ne (ne_of_none e hD)]
      exact S4 _ _ (S3 _ _ (S2 _ _ e))
    · have b4 : But D H4 Hx := fun c o ne e => b c o ne (by rw [upd_ne ne]; exact e)
      rw [e1, if_pos hc, List.map_append]
      exact dpA_app (hR Hx (stp (S3.trans S4) b4)) (.cons (hy Hx b4) .nil)
  · refine ⟨ys, S2.trans S3, S3 _ _ h2, by omega, fun Hx b => ?_⟩
    rw [e1, if_neg (by rw [hc]; decide), List.append_nil]
    exact hR Hx (stp S3 b)
/-- over a list -/
theorem lc_lstD {a : Addr} {xs : List V} {i1 : Nat} {vs : List Nat} (c : Nat → Bool) (f : Nat → PyData) (ha : SqL K H a xs) (hn : xs.length ≤ 100000) (hw1 : ∀ v : V, wipe ((wipe σ vs).set i1 (some v)) vs = wipe σ vs)
    (ht : ∀ (i : Nat) x, xs[i]? = some x → ∀ H', Same H H' → ∀ Q' : Bool → Hp → Prop, (∀ H'', Same H' H'' → Q' (c i) H'') → tt ((wipe σ vs).set i1 (some x)) H' Q')
    (he : ∀ (i : Nat) x, xs[i]? = some x → c i = true → ∀ H' D, H D = none → Same H H' → H' D ≠ none → ∀ Q' : VK, (∀ y H'', Same H' H'' → (∀ Hx, But D H'' Hx → L2.Dp K Hx y (f i)) → Q' y H'') → te ((wipe σ vs).set i1 (some x)) H' Q')
    (k : ∀ D ys H', H D = none → Same H H' → H' D = some (.lst ys) → DpAll K H' ys (((List.range xs.length).filter c).map f) → Q (.ref D) H') : lcK (gName i1) tt te vs σ Q (Itl K a) H := fun D hD => by
  refine lc_list (K := K) (a := a) (xs := xs) (fun i H2 => ∃ ys : List V, Same H H2 ∧ H2 D = some (.lst ys) ∧ ys.length ≤ i ∧ ∀ Hx, But D H2 Hx → DpAll K Hx ys (((List.range i).filter c).map f)) ⟨[], Same.nw hD (Same.refl H), upd_same, Nat.le_refl _, fun _ _ => .nil⟩ (fun i H2 _ ⟨_, S2, _⟩ => S2.seq ha) ?_ fun H2 ⟨ys, S2, h2, hl, hR⟩ => k D ys H2 hD S2 h2 (hR _ fun _ _ _ e => e)
  rintro i x H2 hx ⟨ys, S2, h2, hl, hR⟩
  have hi : i < xs.length := (List.getElem?_eq_some_iff.mp hx).1
  have e1 : (List.range (i + 1)).filter c = (List.range i).filter c ++ if c i = true then [i] else [] := by
    rw [List.range_succ, List.filter_append]
    congr 1
    by_cases h : c i = true <;> simp [h]
  have stp : ∀ {Ha Hb : Hp}, Same Ha Hb → ∀ {Hx : Hp}, But D Hb Hx → But D Ha Hx := fun S _ b c o ne e => b c o ne (S _ _ e)
  refine ⟨hw1 _, ht i x hx H2 S2 _ fun H3 S3 => bb (fun hc => ?_) (fun hc => ?_)⟩
  · refine he i x hx hc H3 D hD (S2.trans S3) (by rw [S3 _ _ h2]; simp) _ fun y H4 S4 hy => ⟨ys, S4 _ _ (S3 _ _ h2), Nat.lt_of_le_of_lt (m := 100000) (by omega) (by decide), ys ++ [y], fun b o e => ?_, upd_same, by rw [List.length_append]; exact Nat.succ_le_succ hl, fun Hx b => ?_⟩
    · rw [upd_ne (ne_of_none e hD)]
      exact S4 _ _ (S3 _ _ (S2 _ _ e))
    · have b4 : But D H4 Hx := fun c o ne e => b c o ne (by rw [upd_ne ne]; exact e)
      rw [e1, if_pos hc, List.map_append]
      exact dpA_app (hR Hx (stp (S3.trans S4) b4)) (.cons (hy Hx b4) .nil)
  · refine ⟨ys, S2.trans S3, S3 _ _ h2, by omega, fun Hx b => ?_⟩
    rw [e1, if_neg (by rw [hc]; decide), List.append_nil]
    exact hR Hx (stp S3 b)
end Rd
end Tk

/-! ### Functions that are made, as tracked objects -/
namespace Tk
open PySem PySem.Spec PyProof.Rows L2 LamX
namespace Cz
/-- the function object at f -/
def FnO (f : Addr) (o : Obj) : HO := .ext fun g => g.get? f = some o
/-- a cell's object that holds v -/
def IsCel (o : Obj) (v : V) : Prop := ∃ u, RelV v u ∧ o.data = .cell (some u)
def remL (H : Hp) (l : List Addr) : Hp := fun b => if b ∈ l then none else H b
def putB (H H' : Hp) (l : List Addr) : Hp := fun b => if b ∈ l then H b else H' b
section
variable {P : Program} {w : World} {H H' : Hp} {g g' : Heap} {l : List Addr}
theorem fnO_ok {f : Addr} {o : Obj} (e : g.get? f = some o) : ObjOk P w H g f (FnO f o) := ⟨e, ⟨o, e⟩, fun _ _ e1 k => k _ e1⟩
theorem fnO_get (hk : HOk P w H g) {f : Addr} {o : Obj} (e : H f = some (FnO f o)) : g.get? f = some o := (hk f _ e).1
theorem remL_some {b : Addr} {o : HO} (e : remL H l b = some o) : b ∉ l ∧ H b = some o := by
  unfold remL at e
  by_cases q : b ∈ l
  · rw [if_pos q] at e
    cases e
  · rw [if_neg q] at e
    exact ⟨q, e⟩
theorem remL_none {b : Addr} (e : H b = none) : remL H l b = none := by
  unfold remL
  split
  · rfl
  · exact e
theorem remL_in {b : Addr} (e : b ∈ l) : remL H l b = none := by unfold remL; rw [if_pos e]
theorem remL_out {b : Addr} (e : b ∉ l) : remL H l b = H b := by unfold remL; rw [if_neg e]
theorem putB_in {b : Addr} (e : b ∈ l) : putB H H' l b = H b := by unfold putB; rw [if_pos e]
theorem putB_out {b : Addr} (e : b ∉ l) : putB H H' l b = H' b := by unfold putB; rw [if_neg e]
/-- all of l hold cells -/
def Cels (H : Hp) (l : List Addr) : Prop := ∀ c ∈ l, ∃ o v, H c = some (FnO c o) ∧ IsCel o v
theorem remL_keep {b : Addr} {o : HO} (hc : Cels H l) (e : H b = some o) (h : ∀ φ, o ≠ .ext φ) : remL H l b = some o := by
  rw [remL_out]
  · exact e
  · intro q
    obtain ⟨_, v, z, _⟩ := hc b q
    rw [e] at z
    exact h _ (Option.some.inj z)
theorem remL_hok (hc : Cels H l) (hk : HOk P w H g) : HOk P w (remL H l) g := fun b o e => by
  obtain ⟨_, e2⟩ := remL_some e
  exact (hk b o e2).stay (fun _ _ _ q => q) (fun d q => remL_keep hc q fun φ z => by cases z) fun d xs q => remL_keep hc q fun φ z => by cases z
/-- behind the body: the cells as they were -/
theorem putB_hok (hc : Cels H l) (hk : HOk P w H g) (hk' : HOk P w H' g') (cell : ∀ c ∈ l, ∀ o, g.get? c = some o → g'.get? c = some o) (out : ∀ c ∈ l, H' c = none) : HOk P w (putB H H' l) g' := fun b o e => by
  by_cases q : b ∈ l
  · rw [putB_in q] at e
    obtain ⟨ob, v, z, _⟩ := hc b q
    rw [z] at e
    obtain rfl := Option.some.inj e
    exact fnO_ok (cell b q _ (fnO_get hk z))
  · rw [putB_out q] at e
    refine (hk' b o e).stay (fun _ _ _ q => q) (fun d z => ?_) fun d xs z => ?_
    · rw [putB_out]
      · exact z
      · intro m
        rw [out d m] at z
        cases z
    · rw [putB_out]
      · exact z
      · intro m
        rw [out d m] at z
        cases z
theorem putB_un {fs : List Addr} (hc : Cels H l) (un : Un fs [] (remL H l) H' g g') (out : ∀ c ∈ l, H' c = none) : Un fs [] H (putB H H' l) g g' := by
  have rn : ∀ {b : Addr}, H b = none → remL H l b = none := fun e => remL_none e
  have nl : ∀ {b : Addr}, H b = none → b ∉ l := fun {b} e q => by
    obtain ⟨_, v, z, _⟩ := hc b q
    rw [e] at z
    cases z
  refine ⟨fun b o e n => un.keep b o e (rn n), fun b o e n => un.slot b o e (rn n), fun b o e n x => ?_, fun b o e x => un.there b o e x, fun b xs e => ?_, fun b o u e => ?_, fun b ps e => ?_⟩
  · rw [putB_out (nl n)]
    exact un.free b o e (rn n) x
  · have q := remL_keep hc e fun φ z => by cases z
    have r := un.tups b xs q
    rw [putB_out (remL_some q).1]
    exact r
  · have q := remL_keep hc e fun φ z => by cases z
    have r := un.frzs b o u q
    rw [putB_out (remL_some q).1]
    exact r
  · have q := remL_keep hc e fun φ z => by cases z
    obtain ⟨more, r⟩ := un.tbls b ps q
    exact ⟨more, by rw [putB_out (remL_some q).1]; exact r⟩
end
/-- a function object keeps a promise: called with one argument it does what R says -/
def LamOk (P : Program) (w : World) (K : PySem.W.Frag) (mg : Str → Option Value) (base : Heap) (k : Nat) (obj : Obj) (R : V → Hp → VK → Prop) : Prop :=
  ∀ (A : Around) (outer : List Env) (s : Shared) (H : Hp) (f : Addr) (y : V) (u : Value) (Q : VK), Room (k + 1) A → Env0 P w K mg base A outer s H → s.heap.get? f = some obj → RelV y u → R y H Q →
    codeAny (model P w) A (.call (.ref f) ⟨[u], []⟩) (CR (L2.CX P w) outer P w H s Q E0) s
/-- the cells of a lambda's captured names -/
def kap (X : Cx) (scope : Scope) : List Addr := (cloFrom X.env.cells scope.names []).map (·.2)
def kapA (X : Cx) (x : Str) : Addr := (X.env.cells.lookup x).getD 0
/-- the captured names and what their cells hold -/
def Capt (X : Cx) (scope : Scope) (σ : L2.St) (H : Hp) : Prop := ∀ q ∈ scope.names, q.2 = .free → ∃ (i : Nat) (v : V) (o : Obj), X.N[i]? = some q.1 ∧ σ[i]? = some (some v) ∧ H (kapA X q.1) = some (FnO (kapA X q.1) o) ∧ IsCel o v
/-- what its body makes of an argument, its cells tracked -/
def LamR (X : Cx) (scope : Scope) (c' : Addr) (tb : TE) (y : V) (H : Hp) (Q : VK) : Prop := ∃ σ : L2.St, σ.length = X.N.length ∧ Capt X scope σ H ∧
  H c' = some (CodeO c' (X.env.qual ++ "<lambda>")) ∧ tb (σ ++ [some y]) (remL H (kap X scope)) fun v H' => Q v (putB H H' (kap X scope))
section
variable {X : Cx} {scope : Scope} {a : Str}
theorem clo_up (ok : X.Ok) (L : LamP X.env.scope scope a) {q : Str} {c : Addr} (e : (cloFrom X.env.cells scope.names []).lookup q = some c) : X.env.cells.lookup q = some c ∧ (q, NameKind.free) ∈ scope.names := by
  rcases cloFrom_mem (PySem.mem_of_lookup e) with hm | ⟨z1, z2⟩
  · cases hm
  · obtain ⟨d, hd⟩ := (L.fre _ z1 rfl).elim (fun z => ok.has _ (.inl z)) fun z => ok.has _ (.inr z)
    have hd : X.env.cells.lookup q = some d := hd
    have e2 : c = d := by rw [z2, hd] <;> rfl
    rw [e2]
    exact ⟨hd, z1⟩
theorem clo_has {q : Str} (hl : scope.names.lookup q = some .free) : ∃ c, (cloFrom X.env.cells scope.names []).lookup q = some c := mem_lookup (cloFrom_has (cells := X.env.cells) (acc := []) (PySem.mem_of_lookup hl))
theorem kap_mem {q : Str} {c : Addr} (e : (cloFrom X.env.cells scope.names []).lookup q = some c) : c ∈ kap X scope := List.mem_map.mpr ⟨(q, c), PySem.mem_of_lookup e, rfl⟩
theorem capt_cels (ok : X.Ok) (L : LamP X.env.scope scope a) {σ : L2.St} {H : Hp} (h : Capt X scope σ H) : Cels H (kap X scope) := fun c hc => by
  obtain ⟨⟨q, d⟩, hm, rfl⟩ := List.mem_map.mp hc
  rcases cloFrom_mem hm with m | ⟨z1, z2⟩
  · cases m
  · obtain ⟨i, v, o, _, _, e, r⟩ := h _ z1 rfl
    exact ⟨o, v, by rw [show d = kapA X q from z2]; exact e, r⟩
theorem capt_val (hN : X.N.Nodup) {σ : L2.St} {H : Hp} (h : Capt X scope σ H) {i : Nat} {x : Str} {v : V} (hi : X.N[i]? = some x) (hf : scope.names.lookup x = some .free) (hv : σ[i]? = some (some v)) : ∃ o, H (kapA X x) = some (FnO (kapA X x) o) ∧ IsCel o v := by
  obtain ⟨j, u, o, hj, hu, e, r⟩ := h (x, .free) (PySem.mem_of_lookup hf) rfl
  have : i = j := (List.getElem?_inj (List.getElem?_eq_some_iff.mp hi).1 hN).mp (hi.trans hj.symm)
  subst this
  rw [hv] at hu
  obtain rfl : v = u := by
    have := Option.some.inj hu
    exact Option.some.inj this
  exact ⟨o, e, r⟩
theorem lamC_start {σ : L2.St} {H : Hp} {s1 : Shared} {y : V} {v : Value} {A : Around} {outer : List Env} {f c' : Addr} {h₁ : Heap} {tk : Nat} (ok : X.Ok) (L : LamP X.env.scope scope a) (hna : a ∉ X.N) (hlen : σ.length = X.N.length) (hN : X.N.Nodup) (hC : Capt X scope σ H) (e0 : Env0 X.prog X.w X.K X.mg X.base A outer s1 H) (hd : A.handled = none)
    (ry : RelV y v) (hns : h₁.Ns s1.heap.objs.size fun x => ([(a, v)] : List (Str × Value)).reverse.lookup x) (kp : ∀ b o, s1.heap.get? b = some o → h₁.get? b = some o) :
    Inv (lamCxP X a A outer s1 (remL H (kap X scope)) scope f c') [] (σ ++ [some y]) (remL H (kap X scope)) { s1 with heap := h₁, toks := tk } := by
  have hc := capt_cels ok L hC
  have hok2 : HOk X.prog X.w (remL H (kap X scope)) s1.heap := remL_hok hc e0.hok
  have cel : ∀ {q c}, (cloFrom X.env.cells scope.names []).lookup q = some c → ∃ u, h₁.IsCell c (some u) := fun {q c} e => by
    obtain ⟨o, x, z, u, _, d⟩ := hc c (kap_mem e)
    exact ⟨u, o, kp _ _ (fnO_get e0.hok z), d⟩
  have none0 : ∀ b : Addr, b ∉ (lamCxP X a A outer s1 (remL H (kap X scope)) scope f c').ex := fun b z => by cases (show b ∈ ([] : List Addr) from z)
  refine ⟨⟨e0.mod, L.kd, rfl, rfl, Nat.le_refl _, fun p q c e1 e2 => ok.inj p q c (clo_up ok L e1).1 (clo_up ok L e2).1, fun q hq => ?_, fun q c z _ => ?_, fun _ => hd, Around.frames_deeper e0.frames, .inr ⟨rfl, rfl⟩, fun b z => absurd z (none0 b), fun b o e => ⟨(e0.bs b o e).1, remL_none (e0.bs b o e).2⟩, e0.bsz, fun b _ _ => none0 b,
      fun b z => absurd z (none0 b), e0.funs, fun b hb => remL_none (e0.frf b hb)⟩,
    rfl, e0.bare, Un.kept kp, ⟨_, hns, fun i q u e1 e2 e3 => ?_⟩, fun q c e => ?_, hok2.fresh (Nat.le_refl _), fun q c e => remL_in (kap_mem e), fun q hq => absurd (show q ∈ ([] : List (Addr × Obj)) ++ [] from hq) (by simp), hok2.kept kp, ?_⟩
  · rcases (show scope.names.lookup q = some .cell ∨ scope.names.lookup q = some .free from hq) with z | z
    · exact absurd rfl (L.own _ (PySem.mem_of_lookup z)).2
    · exact clo_has z
  · cases (show false = true from z)
  · have e1 : (X.N ++ [a])[i]? = some q := e1
    have e3 : Vis scope q := e3
    rcases Nat.lt_or_ge i X.N.length with lt | ge
    · rw [List.getElem?_append_left lt] at e1
      rw [List.getElem?_append_left (by rw [hlen]; exact lt)] at e2
      have qn : q ≠ a := fun z => hna (by rw [← z]; exact List.mem_of_getElem? e1)
      have kf : scope.names.lookup q = some .free := by
        rcases e3 with z | z | z
        · exact absurd ((L.own _ (PySem.mem_of_lookup z)).1 rfl) qn
        · exact absurd rfl (L.own _ (PySem.mem_of_lookup z)).2
        · exact z
      obtain ⟨d, hd2⟩ := clo_has (X := X) kf
      have ka : kapA X q = d := by unfold kapA; rw [(clo_up ok L hd2).1]; rfl
      obtain ⟨o, z, x, r, dd⟩ := capt_val hN hC e1 kf e2
      rw [ka] at z
      exact ⟨x, r, .inr ⟨.inr kf, d, hd2, o, kp _ _ (fnO_get e0.hok z), dd⟩⟩
    · have hi : i = X.N.length := by
        have := (List.getElem?_eq_some_iff.mp e1).1
        rw [List.length_append] at this
        have : i < X.N.length + 1 := this
        omega
      subst hi
      rw [List.getElem?_append_right (Nat.le_refl _), Nat.sub_self] at e1
      rw [List.getElem?_append_right (by rw [hlen]; exact Nat.le_refl _), hlen, Nat.sub_self] at e2
      obtain rfl : a = q := Option.some.inj e1
      have eu : some y = some u := Option.some.inj e2
      cases eu
      refine ⟨v, ry, .inl ⟨L.par, ?_⟩⟩
      show (match a == a with | true => some v | false => _) = some v
      rw [beq_self_eq_true]
  · obtain ⟨u, z⟩ := cel e
    exact ⟨_, z⟩
  · show (σ ++ [some y]).length = (X.N ++ [a]).length
    rw [List.length_append, List.length_append, hlen]
    rfl
/-- a lambda of one parameter keeps what its body's reading says -/
theorem lamOk_of {k : Nat} {c' : Addr} {pm ctv : Value} {params : Arguments} {body : Expr} {tb : TE} (ok : X.Ok) (hN : X.N.Nodup) (L : LamP X.env.scope scope a) (hna : a ∉ X.N)
    (hbind : ∀ v, bindArgs (PySem.W.kla_fn "<lambda>" (X.env.qual ++ "<lambda>") params body scope (cloFrom X.env.cells scope.names []) pm (.ref c') ctv) ⟨[v], []⟩ = pure [(a, v)])
    (hbody : ∀ (A : Around) (outer : List Env) (s : Shared) (H : Hp) (f : Addr), Room k (A.deeper (lamEnv X scope s.heap.objs.size f c')) → PE (lamCxP X a A outer s H scope f c') body tb) :
    LamOk X.prog X.w X.K X.mg X.base k (PySem.W.kla_obj "<lambda>" (X.env.qual ++ "<lambda>") params body scope (cloFrom X.env.cells scope.names []) pm c' ctv) (LamR X scope c' tb) := by
  intro A outer s H f y u Q hr e0 hf ry hR
  obtain ⟨σ, hlen, hC, hcode, ht⟩ := hR
  have hc := capt_cels ok L hC
  obtain ⟨⟨oc, vs, t, hoc, hdc, hvc⟩, _, _⟩ := e0.hok c' _ hcode
  have lim : s.heap.NoLimit := e0.mod.nolimit.keeps fun b o e => (e0.bs b o e).1
  refine PySem.W.kla_callFunE hr.depth hf rfl L.co L.gen rfl ⟨c', oc, vs, t, rfl, hoc, hdc, hvc⟩ ?_
  rw [hbind]
  refine wpAny_pure (wpAny_newFunctionEnv (fun q hq => (L.own q hq).2) (fun q hq => ?_) (fun h₁ hns hsb => ⟨lim.fresh _ hsb, ?_⟩) L.kd)
  · rw [List.mem_singleton.mp hq]
    exact L.par
  · have kp : ∀ b o, s.heap.get? b = some o → h₁.get? b = some o := fun b o z => hsb.extBut b o (Nat.ne_of_lt (Heap.lt_size z)) (Heap.get?_push_of_some _ z)
    have J := lamC_start (f := f) (c' := c') (tk := s.toks + ([(a, u)] : List (Str × Value)).length) ok L hna hlen hN hC e0 hr.hd ry hns kp
    refine PySem.W.kla_codeExpr (wpAny_mono ((hbody A outer s _ f (hr.deeper _)).run [] _ _ _ _ J ht) (fun v s' z => ?_) fun er s' z => ?_)
    · obtain ⟨w', H', J', rv', q'⟩ := z
      have un : Un (frs outer) [] (remL H (kap X scope)) H' s.heap s'.heap := J'.base
      have out : ∀ c ∈ kap X scope, H' c = none := fun c m => by
        obtain ⟨o, x, z, _⟩ := hc c m
        exact un.free c o (fnO_get e0.hok z) (remL_in m) (by simp)
      have keep : ∀ c ∈ kap X scope, ∀ o, s.heap.get? c = some o → s'.heap.get? c = some o := fun c m o e => by
        obtain ⟨_, x, z, _⟩ := hc c m
        refine un.keep c o e (remL_in m) (fun hb => ?_) (by simp)
        have := e0.frf c hb
        rw [z] at this
        cases this
      exact ⟨w', putB H H' (kap X scope), J'.os, J'.bare, putB_un hc un out, putB_hok hc e0.hok J'.hok keep out, rv', q'⟩
    · have no : ∀ (e : Value) (s2 : Shared), L2.CX X.prog X.w outer (remL H (kap X scope)) s E0 e s2 → False := fun e s2 q => by
        obtain ⟨_, _, _, _, _, _, _, _, _, _, _, _, q⟩ := q
        exact q
      exact wpAny_mono z (fun _ s2 q => (no _ s2 q).elim) fun _ s2 q => (no _ s2 q).elim
/-- an old invariant, a new object: it may be tracked -/
theorem track {pins : List (Addr × Obj)} {σ : L2.St} {H H1 : Hp} {s s' : Shared} {f : Addr} {ob : Obj} (I : Inv X pins σ H s) (I1 : Inv X pins σ H1 s') (hf : s'.heap.get? f = some ob) (new : s.heap.objs.size ≤ f) (hn : H1 f = none) : Inv X pins σ (upd H1 f (FnO f ob)) s' := by
  have old : ∀ {b : Addr} {o : Obj}, s.heap.get? b = some o → b ≠ f := fun {b o} e q => by
    subst q
    exact absurd (Heap.lt_size e) (Nat.not_lt.mpr new)
  have hs0 : ∀ b o, X.s_0.heap.get? b = some o → b ≠ f := fun b o e q => by
    subst q
    exact Nat.lt_irrefl _ (Nat.lt_of_lt_of_le (Nat.lt_of_lt_of_le (Heap.lt_size e) I.sz) new)
  refine ⟨I1.ok, I1.os, I1.bare, ?_, I1.loc, I1.cell, ?_, fun x c e => ?_, fun p hp => ?_, ?_, I1.len⟩
  · have u := I1.base
    refine ⟨u.keep, u.slot, fun b o e n x => ?_, u.there, fun b xs e => ?_, fun b o w e => ?_, fun b ps e => ?_⟩
    · rw [upd_ne (hs0 b o e)]
      exact u.free b o e n x
    · have z := u.tups b xs e
      rw [upd_ne (ne_of_none z hn)]
      exact z
    · have z := u.frzs b o w e
      rw [upd_ne (ne_of_none z hn)]
      exact z
    · obtain ⟨more, z⟩ := u.tbls b ps e
      exact ⟨more, by rw [upd_ne (ne_of_none z hn)]; exact z⟩
  · have lt := I.lt
    rw [upd_ne (Nat.ne_of_lt (Nat.lt_of_lt_of_le lt new))]
    exact I1.free
  · obtain ⟨u, o, ho, _⟩ := I.cell x c e
    rw [upd_ne (old ho)]
    exact I1.freeC x c e
  · obtain ⟨p1, p2, p3⟩ := I1.pin p hp
    refine ⟨p1, ?_, p3⟩
    rw [upd_ne (old (I.pin p hp).1)]
    exact p2
  · intro b o e
    by_cases q : b = f
    · subst q
      rw [upd_same] at e
      obtain rfl := Option.some.inj e
      exact fnO_ok hf
    · rw [upd_ne q] at e
      refine (I1.hok b o e).stay (fun _ _ _ q => q) (fun d z => ?_) fun d xs z => ?_
      · rw [upd_ne (ne_of_none z hn)]
        exact z
      · rw [upd_ne (ne_of_none z hn)]
        exact z
end
/-- the name of a lambda of this context -/
abbrev lnm (X : Cx) : Str := X.env.qual ++ "<lambda>"
abbrev lob (X : Cx) (params : Arguments) (body : Expr) (scope : Scope) (pm : Value) (c' : Addr) (ctv : Value) : Obj := PySem.W.kla_obj "<lambda>" (lnm X) params body scope (cloFrom X.env.cells scope.names []) pm c' ctv
/-- a lambda is made: a new object -/
theorem lam_new {X : Cx} {pins : List (Addr × Obj)} {σ : L2.St} {H : Hp} {s : Shared} {T : List (Addr × Str)} {params : Arguments} {body : Expr} {scope : Scope} {pos : Pos} {Er : Value → Shared → Prop} {Rs : Value → Shared → Prop} (I : Inv X pins σ H s) (tx : TabX X T) (tabs : Tabs T H)
    (nodef : defaultsOf params X.env = ([], [])) (caps : ∀ y ∈ scope.names, y.2 = .free → ∃ c, X.env.cells.lookup y.1 = some c)
    (goal : ∀ (f cd : Addr) (pm ctv : Value) (G : Hp) (t : Shared), Inv X pins σ G t → ExtN H G → Tabs T G → t.heap.get? f = some (lob X params body scope pm cd ctv) → s.heap.objs.size ≤ f → G f = none → G cd = some (CodeO cd (lnm X)) → Rs (.ref f) t) :
    wpAny (model X.prog X.w) X.A (eval (.Lambda params body scope pos) X.env) Rs Er s := by
  obtain ⟨c, TP, TB, hcode, hmem, honly⟩ := tx
  obtain ⟨tb, htb, htr, hknown⟩ := tabs _ hmem
  have atT : s.heap.get? TP = some { cls := .none, data := .fields tb } := I.hok TP _ htb
  have bTP := TB.bm.keeps I.bk
  have gl := I.mod.glob.keeps I.bk
  have cd0 := TB.code.keeps I.bk
  refine PySem.W.kla_eval nodef ?_
  cases hh : codeAmong pos tb.toList with
  | some cv =>
    obtain ⟨cd, rfl, hco⟩ := hknown pos cv hh
    refine PySem.W.kla_makeFunctionHit (mg := X.mg) (c := c) (P := TP) (ps := tb) (closure_ok caps) I.ok.glob gl hcode cd0 atT htr hh bTP fun ctv h1 tk old big => ?_
    refine goal h1.objs.size cd ((X.mg "__name__").getD .none) ctv H _ (I.kept fun b o e => Heap.get?_push_of_some _ (old b o e)) (ExtN.refl H) tabs ?_ big (I.hok.fresh big) hco
    exact Heap.get?_push_size _ rfl
  | none =>
    refine PySem.W.kla_makeFunction (mg := X.mg) (c := c) (P := TP) (ps := tb) (closure_ok caps) I.ok.glob gl hcode cd0 atT htr hh TB.gP bTP fun cd ctv h1 tk old ge lt rec_ nt => ?_
    obtain ⟨_, oc, vs, tt, er, hoc, hdt, hvs⟩ := rec_
    cases er
    have big : s.heap.objs.size ≤ h1.objs.size := Nat.le_trans ge (Nat.le_of_lt lt)
    have free1 : H cd = none := I.hok.fresh ge
    have J := inv_table (t' := tk) (more := #[rawInt pos.line, rawInt pos.col, .ref cd]) (h' := h1.push (lob X params body scope ((X.mg "__name__").getD .none) cd ctv)) I htb
      (fun b o nb e => Heap.get?_push_of_some _ (old b o nb e)) (Heap.get?_push_of_some _ nt) ge ⟨oc, vs, tt, Heap.get?_push_of_some _ hoc, hdt, hvs⟩
    have ext : ExtN H (upd (upd H TP (.tbl (tb ++ #[rawInt pos.line, rawInt pos.col, .ref cd]))) cd (CodeO cd (lnm X))) := fun b o e n => by
      have n1 : b ≠ cd := ne_of_none e free1
      have n2 : b ≠ TP := fun z => by
        rw [z, htb] at e
        exact n tb (Option.some.inj e).symm
      rw [upd_ne n1, upd_ne n2]
      exact e
    refine goal h1.objs.size cd ((X.mg "__name__").getD .none) ctv _ _ J ext (fun p hp => ?_) (Heap.get?_push_size _ rfl) big ?_ upd_same
    · have el : (tb ++ #[rawInt pos.line, rawInt pos.col, .ref cd]).toList = tb.toList ++ [rawInt pos.line, rawInt pos.col, .ref cd] := by simp
      by_cases isP : p.1 = TP
      · rw [honly p hp isP, isP]
        refine ⟨_, by rw [upd_ne (ne_of_none htb free1), upd_same], by rw [el]; exact PySem.TriplesOk_snoc _ _ _ _ htr, fun q cv hq => ?_⟩
        rw [el] at hq
        rcases among_app _ htr hq with z | z
        · obtain ⟨d, r1, r2⟩ := hknown q cv z
          exact ⟨d, r1, ext _ _ r2 codeO_ne⟩
        · exact ⟨cd, z, upd_same⟩
      · obtain ⟨tb2, r1, r2, r3⟩ := tabs p hp
        refine ⟨tb2, by rw [upd_ne (ne_of_none r1 free1), upd_ne isP]; exact r1, r2, fun q cv hq => ?_⟩
        obtain ⟨d, r4, r5⟩ := r3 q cv hq
        exact ⟨d, r4, ext _ _ r5 codeO_ne⟩
    · rw [upd_ne (Nat.ne_of_gt lt), upd_ne (Nat.ne_of_gt (Nat.lt_of_lt_of_le (Heap.lt_size atT) big))]
      exact I.hok.fresh big
/-- a lambda as a value: a tracked function that keeps its promise -/
def tLamV (X : Cx) (T : List (Addr × Str)) (k : Nat) (scope : Scope) (tb : TE) : TE := fun _ H Q => Tabs T H ∧ ∀ (f cd : Addr) (fd : FuncData) (H1 : Hp), H f = none → ExtN H H1 → Tabs T H1 → H1 f = some (FnO f { cls := .type "function", data := .func fd }) → H1 cd = some (CodeO cd (lnm X)) →
  LamOk X.prog X.w X.K X.mg X.base k { cls := .type "function", data := .func fd } (LamR X scope cd tb) → Q (.ref f) H1
theorem pe_lam {X : Cx} {T : List (Addr × Str)} {k : Nat} {a : Str} {params : Arguments} {body : Expr} {scope : Scope} {pos : Pos} {tb : TE} (tx : TabX X T) (hN : X.N.Nodup) (L : LamP X.env.scope scope a) (hna : a ∉ X.N) (nodef : defaultsOf params X.env = ([], []))
    (hbind : ∀ (q : Str) (cl : List (Str × Addr)) (pm cv ctv : Value) (v : Value), bindArgs (PySem.W.kla_fn "<lambda>" q params body scope cl pm cv ctv) ⟨[v], []⟩ = pure [(a, v)])
    (hbody : ∀ (A : Around) (outer : List Env) (s : Shared) (H : Hp) (f c' : Addr), Room k (A.deeper (lamEnv X scope s.heap.objs.size f c')) → PE (lamCxP X a A outer s H scope f c') body tb) :
    PE X (.Lambda params body scope pos) (tLamV X T k scope tb) := by
  refine ⟨fun pins s σ H Q I h => ?_⟩
  obtain ⟨hT, h⟩ := h
  refine lam_new I tx hT nodef (fun y hy e => (L.fre y hy e).elim (fun z => I.ok.has _ (.inl z)) fun z => I.ok.has _ (.inr z)) fun f cd pm ctv G t J ext hTG hf big hn hco => ?_
  have J2 := track I J hf big hn
  have ex2 : ExtN G (upd G f (FnO f (lob X params body scope pm cd ctv))) := fun b o e _ => by
    rw [upd_ne (ne_of_none e hn)]
    exact e
  refine ⟨.ref f, _, J2, rfl, h f cd _ _ (I.hok.fresh big) (ext.trans ex2) (hTG.ext fun b o e => ?_) upd_same (ex2 _ _ hco codeO_ne) (lamOk_of I.ok hN L hna (fun v => hbind _ _ _ _ _ v) fun A outer s H f' hr => hbody A outer s H f' cd hr)⟩
  rw [upd_ne (ne_of_none e hn)]
  exact e
/-- b(e), b a tracked function -/
def tAct (i : Nat) (obj : Obj) (R : V → Hp → VK → Prop) (te : TA) : TE := fun σ H Q => ∃ f, σ[i]? = some (some (.ref f)) ∧ H f = some (FnO f obj) ∧ te σ H fun vs H1 => ∃ y, vs = [y] ∧ H1 f = some (FnO f obj) ∧ R y H1 Q
theorem pe_actC {Z : Cx} {P : Program} {w : World} {K : PySem.W.Frag} {mg : Str → Option Value} {base : Heap} {k i : Nat} {obj : Obj} {fd : FuncData} {R : V → Hp → VK → Prop} {b : Str} {p1 p2 : Pos} {e : Expr} {te : TA} (LO : LamOk P w K mg base k obj R) (hob : obj = { cls := .type "function", data := .func fd }) (hr : Room (k + 1) Z.A)
    (hN : Z.N[i]? = some b) (hv : Vis Z.env.scope b) (ha : PA Z [e] te) (hZ : Z.prog = P ∧ Z.w = w ∧ Z.K = K ∧ Z.mg = mg ∧ Z.base = base := by exact ⟨rfl, rfl, rfl, rfl, rfl⟩) (hd : (b == ("__debug__" : Str)) = false := by decide) (hcd : (b == ("__classdict__" : Str)) = false := by decide)
    (he : starEach [e] Z.env = (false, eval e Z.env) :: starEach [] Z.env := by rfl) : PE Z (.Call (.Name b p1) [e] [] p2) (tAct i obj R te) := by
  obtain ⟨rfl, rfl, rfl, rfl, rfl⟩ := hZ
  subst hob
  refine ⟨fun pins s σ H Q I h => ?_⟩
  obtain ⟨f, hs, hf, ht⟩ := h
  refine wpAny_Call_Name_kw (thn ((pe_var (pos := p1) (i := i) hN hv hd hcd).run pins s σ H (fun v H1 => v = .ref f ∧ H1 = H) I ⟨.ref f, hs, rfl, rfl⟩) fun u0 s1 z => ?_)
  obtain ⟨v0, H1, I1, r1, rfl, rfl⟩ := z
  obtain rfl : u0 = Value.ref f := r1
  refine PySem.W.callWith_F ⟨_, _, _, _, fnO_get I1.hok hf⟩ (thn (ha.run p2 pins s1 σ _ _ I1 ht) fun us s2 z => ?_) he (by rfl)
  obtain ⟨vs, H2, I2, rv, y, rfl, hf2, hR⟩ := z
  have of2 := fnO_get I2.hok hf2
  refine ⟨⟨_, _, _, _, of2⟩, ?_⟩
  cases rv with
  | @cons _ u _ _ ry rn =>
  cases rn
  have rc := LO Z.A Z.stack s2 H2 f y u Q hr I2.env0 of2 ry hR
  refine wpAny_call (codeAny_mono rc fun r s' z => ?_)
  cases r with
  | error er => exact (passL (X := Z) pins σ H2 s2 er s' I2 z)
  | ok fl =>
    cases fl with
    | ret u' => exact I2.after z
    | next => exact False.elim z
    | brk => exact False.elim z
    | cont => exact False.elim z
/-! a call, the caller's cells tracked -/
def KC (X : Cx) (b : Addr) : Prop := ∃ x, X.env.cells.lookup x = some b
/-- what stands at a cell that holds a value -/
def celHO (g : Heap) (b : Addr) : Option HO := match g.get? b with
  | some o => (match o.data with
    | .cell (some _) => some (FnO b o)
    | _ => none)
  | none => none
open Classical in
noncomputable def addC (X : Cx) (g : Heap) (H : Hp) : Hp := fun b => if KC X b then celHO g b else H b
open Classical in
noncomputable def remC (X : Cx) (H : Hp) : Hp := fun b => if KC X b then none else H b
section
variable {X : Cx} {g : Heap} {H : Hp} {b : Addr}
theorem addC_in (h : KC X b) : addC X g H b = celHO g b := by unfold addC; rw [if_pos h]
theorem addC_out (h : ¬ KC X b) : addC X g H b = H b := by unfold addC; rw [if_neg h]
theorem remC_in (h : KC X b) : remC X H b = none := by unfold remC; rw [if_pos h]
theorem remC_out (h : ¬ KC X b) : remC X H b = H b := by unfold remC; rw [if_neg h]
theorem celHO_some {o : HO} (e : celHO g b = some o) : ∃ ob, g.get? b = some ob ∧ o = FnO b ob ∧ ∃ u, ob.data = .cell (some u) := by
  unfold celHO at e
  cases q : g.get? b with
  | none => rw [q] at e; cases e
  | some ob =>
    rw [q] at e
    obtain ⟨c1, c2, c3, c4⟩ := ob
    cases c3 with
    | cell z =>
      cases z with
      | none => cases e
      | some u => exact ⟨_, rfl, (Option.some.inj e).symm, u, rfl⟩
    | _ => cases e
theorem celHO_of {ob : Obj} {u : Value} (e : g.get? b = some ob) (d : ob.data = .cell (some u)) : celHO g b = some (FnO b ob) := by
  unfold celHO
  rw [e]
  show (match ob.data with | .cell (some _) => some (FnO b ob) | _ => none) = _
  rw [d]
end
/-- what a caller asks of a call with its cells tracked -/
def callCK (X : Cx) (sp : Sp) (σ : L2.St) (Q : VK) : List V → Hp → Prop := fun vs H1 => ∀ H3 : Hp, (∀ b o, H1 b = some o → H3 b = some o) →
  (∀ (i : Nat) x v, X.N[i]? = some x → X.env.scope.names.lookup x = some .cell → σ[i]? = some (some v) → ∃ o, H3 (kapA X x) = some (FnO (kapA X x) o) ∧ IsCel o v) →
  sp vs H3 (fun v H4 => (∀ b o, H3 b = some (FnO b o) → H4 b = some (FnO b o)) ∧ ∀ H5 : Hp, (∀ b, H1 b ≠ none → H5 b = H4 b) → (∀ b, H3 b = none → H5 b = H4 b) → Q v H5) E0
def tCallC (X : Cx) (sp : Sp) (t : TA) : TE := fun σ H Q => t σ H (callCK X sp σ Q)
theorem run_fnC {X : Cx} {k : Nat} {f : Addr} {fd : FuncData} {ps : List Str} {sp : Sp} {pins : List (Addr × Obj)} {σ : L2.St} {H : Hp} {s : Shared} {Q : VK} {us : List Value} {vs : List V} (F : FnOk X.prog X.w X.K X.mg X.base (L2.CX X.prog X.w) k f fd ps sp) (hr : Room k X.A) (hb : Binds X.K fd ps [])
    (hfn : ∀ x, X.fn x = true) (I : Inv X pins σ H s) (r : Vals vs us) (h : callCK X sp σ Q vs H) : wpAny (model X.prog X.w) X.A (PySem.call (.ref f) us) (EP X pins σ Q) X.xe s := by
  have cellAt : ∀ {b : Addr}, KC X b → ∃ ob v, s.heap.get? b = some ob ∧ ob.data = .cell v := fun {b} ⟨x, e⟩ => by
    obtain ⟨v, ob, h1, h2⟩ := I.cell x b e
    exact ⟨ob, v, h1, h2⟩
  have isNone : ∀ {b : Addr}, KC X b → H b = none := fun ⟨x, e⟩ => I.freeC x _ e
  have young : ∀ {b : Addr}, KC X b → X.s_0.heap.objs.size ≤ b := fun ⟨x, e⟩ => I.ok.cab x _ (hfn x) e
  have noFr : ∀ b ∈ frs X.stack, ¬ KC X b := fun b hb hk => by
    rcases List.mem_cons.mp (I.stkSub b hb) with e | hb
    · obtain ⟨m, hn, _⟩ := I.loc
      obtain ⟨ob, v, h1, h2⟩ := cellAt hk
      rw [e] at h1
      obtain ⟨od, es, ep, e2, dd, _⟩ := hn
      rw [h1] at e2
      obtain rfl := Option.some.inj e2
      rw [h2] at dd
      cases dd
    · obtain ⟨_, o, ho, _⟩ := I.ok.funs.mem hb
      exact Nat.lt_irrefl _ (Nat.lt_of_lt_of_le (Heap.lt_size ho) (young hk))
  have e0 := I.env0
  have up : ∀ b o, H b = some o → addC X s.heap H b = some o := fun b o e => by
    rw [addC_out fun hk => by rw [isNone hk] at e; cases e]
    exact e
  have hok3 : HOk X.prog X.w (addC X s.heap H) s.heap := fun b o e => by
    by_cases hk : KC X b
    · rw [addC_in hk] at e
      obtain ⟨ob, e1, rfl, _⟩ := celHO_some e
      exact fnO_ok e1
    · rw [addC_out hk] at e
      exact (I.hok b o e).stay (fun _ _ _ q => q) (fun d q => up _ _ q) fun d xs q => up _ _ q
  have e3 : Env0 X.prog X.w X.K X.mg X.base X.A X.stack s (addC X s.heap H) := ⟨e0.frames, e0.mod, fun b o e => ⟨(e0.bs b o e).1, by
      rw [addC_out fun hk => ?_]
      · exact (e0.bs b o e).2
      · exact Nat.lt_irrefl _ (Nat.lt_of_lt_of_le (Nat.lt_of_lt_of_le (Heap.lt_size e) I.ok.bsz) (young hk))⟩, e0.bsz, e0.funs, fun b hb => by rw [addC_out (noFr b hb)]; exact e0.frf b hb, hok3, e0.bare⟩
  have h3 := h (addC X s.heap H) up fun i x v hi hx hv => ?_
  · have hl : us.length = ps.length := by rw [← r.length]; exact F.len _ _ _ _ h3
    refine wpAny_call (codeAny_mono (F.run X.A X.stack s _ ⟨us, []⟩ us vs _ E0 hr e3 (by simpa using hb s us I.kIn (by simpa using hl)) r h3) fun r s' hq => ?_)
    cases r with
    | error e => exact passL (X := X) pins σ _ s e s' I (by
        obtain ⟨_, _, _, _, _, _, _, _, _, _, _, _, z⟩ := hq
        exact z.elim)
    | ok fl =>
      cases fl with
      | next => exact False.elim hq
      | brk => exact False.elim hq
      | cont => exact False.elim hq
      | ret u =>
        obtain ⟨v, H4, os, bare, un, hok4, rv, kp4, q⟩ := hq
        have outN : ∀ b, KC X b → addC X s.heap H b = none → H4 b = none := fun b hk e => by
          obtain ⟨ob, _, h1, _⟩ := cellAt hk
          exact un.free b ob h1 e (by simp)
        refine I.after (Q := Q) ⟨v, remC X H4, os, bare, ⟨fun b o e n x y => ?_, fun b o e n x y => ?_, fun b o e n y => ?_, un.there, fun b xs e => ?_, fun b o w e => ?_, fun b ps e => ?_⟩, fun b o e => ?_, rv, q _ (fun b n => ?_) fun b n => ?_⟩
        · by_cases hk : KC X b
          · cases z : addC X s.heap H b with
            | none => exact un.keep b o e z x y
            | some ho =>
              rw [addC_in hk] at z
              obtain ⟨ob, z1, rfl, _⟩ := celHO_some z
              rw [e] at z1
              obtain rfl := Option.some.inj z1
              exact fnO_get hok4 (kp4 b o (by rw [addC_in hk]; exact z))
          · exact un.keep b o e (by rw [addC_out hk]; exact n) x y
        · exact un.slot b o e (by rw [addC_out (noFr b x)]; exact n) x y
        · by_cases hk : KC X b
          · exact remC_in hk
          · rw [remC_out hk]
            exact un.free b o e (by rw [addC_out hk]; exact n) y
        · have hk : ¬ KC X b := fun hk => by rw [isNone hk] at e; cases e
          rw [remC_out hk]
          exact un.tups b xs (up _ _ e)
        · have hk : ¬ KC X b := fun hk => by rw [isNone hk] at e; cases e
          rw [remC_out hk]
          exact un.frzs b o w (up _ _ e)
        · have hk : ¬ KC X b := fun hk => by rw [isNone hk] at e; cases e
          rw [remC_out hk]
          exact un.tbls b ps (up _ _ e)
        · by_cases hk : KC X b
          · rw [remC_in hk] at e
            cases e
          · rw [remC_out hk] at e
            have still : ∀ (d : Addr) (w : HO), H4 d = some w → (∀ φ, w ≠ .ext φ) → remC X H4 d = some w := fun d w z ne => by
              rw [remC_out fun hd => ?_]
              · exact z
              · cases zz : addC X s.heap H d with
                | none => rw [outN d hd zz] at z; cases z
                | some ho =>
                  rw [addC_in hd] at zz
                  obtain ⟨ob, _, rfl, _⟩ := celHO_some zz
                  rw [kp4 d ob (by rw [addC_in hd]; exact zz)] at z
                  exact ne _ (Option.some.inj z).symm
            exact (hok4 b o e).stay (fun _ _ _ q => q) (fun d z => still d _ z fun φ y => by cases y) fun d xs z => still d _ z fun φ y => by cases y
        · rw [remC_out fun hk => n (isNone hk)]
        · by_cases hk : KC X b
          · rw [remC_in hk, outN b hk n]
          · rw [remC_out hk]
  · obtain ⟨m, _, hl⟩ := I.loc
    obtain ⟨u, r, z⟩ := hl i x v hi hv (.inr (.inl hx))
    rcases z with ⟨z, _⟩ | ⟨_, c, z1, ob, z2, z3⟩
    · have z : X.env.scope.names.lookup x = some .local := z
      rw [hx] at z
      cases z
    · have ka : kapA X x = c := by unfold kapA; rw [z1]; rfl
      rw [ka]
      exact ⟨ob, by rw [addC_in ⟨x, z1⟩]; exact celHO_of z2 z3, u, r, z3⟩
/-- x(e, ..), the cells tracked -/
theorem pe_callC {X : Cx} {k : Nat} {f : Addr} {fd : FuncData} {ps : List Str} {sp : Sp} {x : Str} {p pos : Pos} {e : Expr} {es : List Expr} {t : TA} (F : FnOk X.prog X.w X.K X.mg X.base (L2.CX X.prog X.w) k f fd ps sp) (hr : Room k X.A) (hg : Gl X x) (hm : X.mg x = some (.ref f)) (hk : PySem.W.keepIn X.K (.ref f) = true) (hb : Binds X.K fd ps []) (ha : PA X (e :: es) t)
    (hfn : ∀ x, X.fn x = true := by exact fun _ => rfl) (hdb : (x == ("__debug__" : Str)) = false := by decide) (he : starEach (e :: es) X.env = (false, eval e X.env) :: starEach es X.env := by rfl) (hpl : (backTo pos (starEach es X.env)).any (·.1) = false := by rfl) :
    PE X (.Call (.Name x p) (e :: es) [] pos) (tCallC X sp t) := by
  refine ⟨fun pins s σ H Q I h => wpAny_Call_Name_kw (ld_glob I hg hm ?_ hdb)⟩
  exact PySem.W.callWith_K (h₀ := X.base) I.ok.mod.kin hk (thn (ha.run pos pins s σ H _ I h) fun us s1 ⟨vs, H1, I1, r, q⟩ => ⟨I1.kIn, run_fnC F hr hb hfn I1 r q⟩) he hpl
end Cz
end Tk

/-! ### min(xs, default=d) of integers -/
namespace Tk
open PySem PySem.Spec PyProof.Rows L2
def rMinD (K : PySem.W.Frag) : List V → List V → Hp → VK → Prop := fun vs zs H Q => ∃ (a : Addr) (ns : List Int) (d : V), vs = [.ref a] ∧ zs = [d] ∧ SqL K H a (ns.map V.int) ∧ (ns = [] → Q d H) ∧ ∀ m, m ∈ ns → (∀ y, y ∈ ns → m ≤ y) → Q (.int m) H
theorem minOf_is : ∀ (xs : List Int) (x : Int), PySem.W.minOf x xs ∈ x :: xs ∧ ∀ y, y ∈ x :: xs → PySem.W.minOf x xs ≤ y
  | [], x => ⟨List.mem_cons_self, fun y h => by
      rcases List.mem_cons.mp h with rfl | h
      · exact Int.le_refl _
      · cases h⟩
  | z :: zs, x => by
    show (PySem.W.minOf (if PySem.W.DatumOrd.lt z x = true then z else x) zs) ∈ _ ∧ ∀ y, y ∈ x :: z :: zs → (PySem.W.minOf (if PySem.W.DatumOrd.lt z x = true then z else x) zs) ≤ y
    by_cases h : PySem.W.DatumOrd.lt z x = true
    · rw [if_pos h]
      have hz : z < x := by simpa [PySem.W.DatumOrd.lt] using h
      obtain ⟨a, b⟩ := minOf_is zs z
      refine ⟨List.mem_cons_of_mem _ a, fun y hy => ?_⟩
      rcases List.mem_cons.mp hy with rfl | hy
      · have := b z List.mem_cons_self
        omega
      · exact b y hy
    · rw [if_neg h]
      have hz : ¬ z < x := by simpa [PySem.W.DatumOrd.lt] using h
      obtain ⟨a, b⟩ := minOf_is zs x
      refine ⟨?_, fun y hy => ?_⟩
      · rcases List.mem_cons.mp a with e | e
        · rw [e]
          exact List.mem_cons_self
        · exact List.mem_cons_of_mem _ (List.mem_cons_of_mem _ e)
      · rcases List.mem_cons.mp hy with rfl | hy
        · exact b y List.mem_cons_self
        · rcases List.mem_cons.mp hy with rfl | hy
          · have := b x List.mem_cons_self
            omega
          · exact b y (List.mem_cons_of_mem _ hy)
section
variable {X : Cx}
theorem cr_minD (hc : X.calm = true) (hu : X.A.units + 64 < cLine) : CallRK X (.builtin "min") [Str.ofString "default"] (rMinD X.K) := by
  intro pins s σ H vs zs us ws Q I r rz h
  obtain ⟨a, ns, d, rfl, rfl, hs, q0, q1⟩ := h
  obtain ⟨its, rv, hl, _⟩ := I.list hs
  rw [Vals.ref1 r]
  obtain ⟨w1, rfl, e1⟩ := vals1 rz
  refine PySem.W.min_list_datum_default (α := Int) (xs := ns) (I.ok.hd hc) hl.isList (PySem.W.HoldAll.of_ints rv.ints) ?_ (fun e h' tk hk => ⟨d, H, I.kept hk, e1, q0 e⟩) fun y ys i v h' tk e hi hv hk => ?_
  · show X.A.units + 1 + _ < cLine
    have : PySem.W.Datum.depth Int ≤ 1 := by decide
    omega
  · subst e
    obtain ⟨m1, m2⟩ := minOf_is ys y
    have e : ∃ t, v = Value.int (PySem.W.minOf y ys) t := by
      have q := PySem.W.HoldAll.toInts (PySem.W.HoldAll.cons hv PySem.W.HoldAll.nil)
      cases q with
      | cons n t _ => exact ⟨t, rfl⟩
    exact ⟨.int _, H, I.kept hk, e, q1 _ m1 m2⟩
end
theorem minDK {X : Cx} {K : PySem.W.Frag} (hu : X.A.units + 64 < cLine) (hc : X.calm = true := by rfl) (hK : X.K = K := by rfl) : CallRK X (.builtin "min") [Str.ofString "default"] (rMinD K) := hK ▸ cr_minD hc hu
end Tk

/-! ### first_excess -/
namespace Tk
open PySem PySem.Spec PyProof.Rows L2 Mm LamX Cz
namespace Rd
variable {σ : L2.St} {H : Hp} {Q : VK} {te : TA} {obj : Obj} {R : V → Hp → VK → Prop}
def actK (f : Addr) (obj : Obj) (R : V → Hp → VK → Prop) (Q : VK) : List V → Hp → Prop := fun vs H1 => ∃ y, vs = [y] ∧ H1 f = some (FnO f obj) ∧ R y H1 Q
theorem act {i : Nat} {f : Addr} (hs : σ[i]? = some (some (.ref f))) (hf : H f = some (FnO f obj)) (k : te σ H (actK f obj R Q)) : tAct i obj R te σ H Q := ⟨f, hs, hf, k⟩
theorem actK_i {f : Addr} {y : V} (hf : H f = some (FnO f obj)) (k : R y H Q) : actK f obj R Q [y] H := ⟨y, rfl, hf, k⟩
theorem ckw {r : List V → List V → Hp → VK → Prop} {t tk : TA} (k : t σ H fun vs H1 => tk σ H1 fun zs H2 => r vs zs H2 Q) : tCKw r t tk σ H Q := k
end Rd
/-- the ticks that stand for later ones -/
def laterT (tk cl : List Nat) (ns : List Nat) (st : Nat) (ex : Nat → Int) : List Int :=
  ((List.range ns.length).filter fun i => decide (st ≤ ns.getD i 0)).map fun i => (ns.getD i 0 : Int) + (per tk cl : Int) * (-(ex (ns.getD i 0)) / (grow tk cl : Int) + 1)
inductive FeV (tk cl : List Nat) (ns : List Nat) (st : Nat) (ex : Nat → Int) : V → Prop where
  | first (i n : Nat) (h : ns[i]? = some n) (h0 : 0 < ex n) (hb : ∀ j k, j < i → ns[j]? = some k → ex k ≤ 0) : FeV tk cl ns st ex (vn n)
  | none (hb : ∀ k ∈ ns, ex k ≤ 0) (g : grow tk cl = 0) : FeV tk cl ns st ex .non
  | never (hb : ∀ k ∈ ns, ex k ≤ 0) (g : 0 < grow tk cl) (h : laterT tk cl ns st ex = []) : FeV tk cl ns st ex .non
  | later (hb : ∀ k ∈ ns, ex k ≤ 0) (g : 0 < grow tk cl) (m : Int) (h : m ∈ laterT tk cl ns st ex) (hm : ∀ y ∈ laterT tk cl ns st ex, m ≤ y) : FeV tk cl ns st ex (.int m)
section
variable {P : Program} {w : World} {K : PySem.W.Frag} {mg : Str → Option Value} {base : Heap}
def spFe (P : Program) (w : World) (K : PySem.W.Frag) (mg : Str → Option Value) (base : Heap) (C : Addr) : Sp := fun vs H Q _ => ∃ (h lp ts f : Addr) (m lt st : Nat) (tk cl ns : List Nat) (fd : FuncData) (R : V → Hp → VK → Prop) (ex : Nat → Int),
  vs = [.ref h, .ref ts, vn st, .ref f] ∧ HallAt C H h m tk cl lt lp ∧ H ts = some (.lst (ns.map vn)) ∧ ns.length ≤ 1000 ∧ (∀ n ∈ ns, n ≤ 1000 ∧ -1000000 ≤ ex n ∧ ex n ≤ 1000000) ∧ H f = some (FnO f { cls := .type "function", data := .func fd }) ∧
  LamOk P w K mg base 6 { cls := .type "function", data := .func fd } R ∧ (∀ n ∈ ns, ∀ H' Q', Same H H' → (∀ H'', Same H' H'' → Q' (.int (ex n)) H'') → R (vn n) H' Q') ∧ ∀ v H', Same H H' → FeV tk cl ns st ex v → Q v H'
end
end Tk

/-! ### Counts that repeat -/
namespace Tk
open PySem PySem.Spec PyProof.Rows L2 Mm
structure Per (p : Nat) (f : Nat → Nat) : Prop where
  p0 : 0 < p
  p144 : p ≤ 144
  step : ∀ t, p ≤ t → f (t + p) + f p = f t + f (2 * p)
  up : f p ≤ f (2 * p)
  bd : f (2 * p) ≤ 100000
theorem Per.far {p : Nat} {f : Nat → Nat} (h : Per p f) {t : Nat} (ht : p ≤ t) : ∀ k, f (t + k * p) = f t + k * (f (2 * p) - f p)
  | 0 => by simp
  | k + 1 => by
    have ih := h.far ht k
    have q := h.step (t + k * p) (by omega)
    have u := h.up
    rw [Nat.succ_mul, Nat.succ_mul, ← Nat.add_assoc]
    omega
theorem tak_per (p : Nat) {tk : List Nat} (h : tk.length ∣ p) (h0 : 0 < p) (h144 : p ≤ 144) (h9 : ∀ x ∈ tk, x ≤ 9) : Per p (tak tk) where
  p0 := h0
  p144 := h144
  step := fun t ht => by
    have h1 := tak_add (tk := tk) p h t
    have h2 := tak_add (tk := tk) p h p
    rw [show p + p = 2 * p by omega] at h2
    omega
  up := tak_mono (by omega)
  bd := by
    have := tak_le h9 (2 * p)
    omega
theorem cal_Per {tk cl : List Nat} (h1 : Pat tk) (h2 : Pat cl) : Per (per tk cl) (cal tk cl) where
  p0 := per_pos h1.pos h2.pos
  p144 := per_144 h1 h2
  step := fun t ht => cal_per (per_pos h1.pos h2.pos) per_tk per_cl ht
  up := cal_mono (by omega)
  bd := by
    have a := tak_le h1.nine (2 * per tk cl)
    have b := cal_le (tk := tk) (cl := cl) (2 * per tk cl)
    have c := per_144 h1 h2
    omega
end Tk

/-! ### Waits -/
namespace Mm
section
variable {tk cl : List Nat} {p : Nat}
/-- the tick in which n is reached -/
def Tk (F : Nat → Nat) (n T : Nat) : Prop := F T ≤ n ∧ n < F (T + 1)
theorem Tk.uniq {F : Nat → Nat} (mono : ∀ {a b : Nat}, a ≤ b → F a ≤ F b) {n T T' : Nat} (h : Tk F n T) (h' : Tk F n T') : T = T' := by
  rcases Nat.lt_trichotomy T T' with z | z | z
  · have := mono (show T + 1 ≤ T' by omega)
    have := h.2
    have := h'.1
    omega
  · exact z
  · have := mono (show T' + 1 ≤ T by omega)
    have := h'.2
    have := h.1
    omega
theorem Tk.le {F : Nat → Nat} (mono : ∀ {a b : Nat}, a ≤ b → F a ≤ F b) {n T t : Nat} (h : Tk F n T) (h' : n < F (t + 1)) : T ≤ t := by
  rcases Nat.lt_or_ge t T with z | z
  · have := mono (show t + 1 ≤ T by omega)
    have := h.1
    omega
  · exact z
theorem Tk.ge {F : Nat → Nat} (mono : ∀ {a b : Nat}, a ≤ b → F a ≤ F b) {n T t : Nat} (h : Tk F n T) (h' : F t ≤ n) : t ≤ T := by
  rcases Nat.lt_or_ge T t with z | z
  · have := mono (show T + 1 ≤ t by omega)
    have := h.2
    omega
  · exact z
/-- the first tick below b in which more than n are reached -/
theorem Tk.ex {F : Nat → Nat} (h0 : F 0 = 0) {n : Nat} : ∀ {b : Nat}, n < F b → ∃ T, T < b ∧ Tk F n T
  | 0, h => by omega
  | b + 1, h => by
    by_cases q : n < F b
    · obtain ⟨T, h1, h2⟩ := Tk.ex h0 q
      exact ⟨T, by omega, h2⟩
    · exact ⟨b, by omega, by omega, h⟩
variable (hp : 0 < p) (ht : tk.length ∣ p) (hc : cl.length ∣ p)
include ht hc in
theorem cal_up (t : Nat) : cal tk cl (t + p) ≤ cal tk cl t + tak tk p := by
  have h1 := wt_up (tk := tk) (cl := cl) ht hc t
  have h2 := wt_cal (tk := tk) (cl := cl) t
  have h3 := wt_cal (tk := tk) (cl := cl) (t + p)
  have h4 := tak_add p ht t
  omega
include ht hc in
theorem cal_same (gz : wt tk cl (p + 1) = wt tk cl (p + 1 + p)) {t : Nat} (h : p + 1 ≤ t) : cal tk cl (t + p) = cal tk cl t + tak tk p := by
  have h1 := wt_same ht hc gz t h
  have h2 := wt_cal (tk := tk) (cl := cl) t
  have h3 := wt_cal (tk := tk) (cl := cl) (t + p)
  have h4 := tak_add p ht t
  omega
include ht hc in
theorem cal_same_k (gz : wt tk cl (p + 1) = wt tk cl (p + 1 + p)) : ∀ k, cal tk cl (p + 1 + k * p) = cal tk cl (p + 1) + k * tak tk p
  | 0 => by simp
  | k + 1 => by
    have ih := cal_same_k gz k
    have h := cal_same ht hc gz (t := p + 1 + k * p) (by omega)
    rw [Nat.succ_mul, Nat.succ_mul, ← Nat.add_assoc, h, ih]
    omega
include ht hc in
theorem per_calls (gz : wt tk cl (p + 1) = wt tk cl (p + 1 + p)) (hp : 0 < p) : cal tk cl (2 * p) = cal tk cl p + tak tk p := by
  have h1 := cal_same ht hc gz (t := p + 1) (Nat.le_refl _)
  have h2 := cal_per hp ht hc (t := p + 1) (by omega)
  omega
/-- W is the longest wait -/
structure Long (tk cl : List Nat) (p W : Nat) : Prop where
  up : ∀ t, p ≤ t → t < 2 * p → tak tk t < tak tk (t + 1) → ∃ T, Tk (cal tk cl) (tak tk (t + 1) - 1) T ∧ T - t ≤ W
  at_ : W = 0 ∨ ∃ t T, p ≤ t ∧ t < 2 * p ∧ tak tk t < tak tk (t + 1) ∧ Tk (cal tk cl) (tak tk (t + 1) - 1) T ∧ W = T - t
theorem call_ge {n T0 T : Nat} (h1 : Tk (tak tk) n T0) (h2 : Tk (cal tk cl) n T) : T0 ≤ T := by
  have := cal_le (tk := tk) (cl := cl) (T + 1)
  have := h2.2
  exact Tk.le (fun h => tak_mono h) h1 (by omega)
include ht hc in
/-- each ticket of three periods waits no longer -/
theorem Long.all (gz : wt tk cl (p + 1) = wt tk cl (p + 1 + p)) {W : Nat} (L : Long tk cl p W) {n T0 T : Nat} (hn : n < tak tk (3 * p)) (h1 : Tk (tak tk) n T0) (h2 : Tk (cal tk cl) n T) : T - T0 ≤ W := by
  have monoT : ∀ {a b : Nat}, a ≤ b → tak tk a ≤ tak tk b := fun h => tak_mono h
  have monoC : ∀ {a b : Nat}, a ≤ b → cal tk cl a ≤ cal tk cl b := fun h => cal_mono h
  have lt3 : T0 < 3 * p := by
    rcases Nat.lt_or_ge T0 (3 * p) with z | z
    · exact z
    · have := monoT z
      have := h1.1
      omega
  have some1 : tak tk T0 < tak tk (T0 + 1) := Nat.lt_of_le_of_lt h1.1 h1.2
  -- n is called no later than the last ticket of its tick
  have key : ∀ S, Tk (cal tk cl) (tak tk (T0 + 1) - 1) S → T ≤ S := fun S hS => Tk.le monoC h2 (Nat.lt_of_le_of_lt (by have := h1.2; omega) hS.2)
  by_cases c1 : T0 < p
  · have a1 := tak_add p ht T0
    have a2 := tak_add p ht (T0 + 1)
    rw [show T0 + 1 + p = T0 + p + 1 by omega] at a2
    obtain ⟨S, hS, hW⟩ := L.up (T0 + p) (by omega) (by omega) (by omega)
    have hSp : T0 + p ≤ S := by
      have := cal_le (tk := tk) (cl := cl) (S + 1)
      have := hS.2
      have z : tak tk (T0 + p) < tak tk (S + 1) := by omega
      rcases Nat.lt_or_ge S (T0 + p) with q | q
      · have := monoT (show S + 1 ≤ T0 + p by omega)
        omega
      · exact q
    have up := cal_up ht hc (tk := tk) (cl := cl) (S + 1 - p)
    rw [show S + 1 - p + p = S + 1 by omega] at up
    have := hS.2
    have le : T ≤ S - p := Tk.le monoC h2 (by
      rw [show S - p + 1 = S + 1 - p by omega]
      have := h1.2
      omega)
    omega
  · by_cases c2 : T0 < 2 * p
    · obtain ⟨S, hS, hW⟩ := L.up T0 (by omega) c2 some1
      have := key S hS
      omega
    · obtain ⟨u, rfl⟩ : ∃ u, T0 = u + p := ⟨T0 - p, by omega⟩
      have a1 := tak_add p ht u
      have a2 := tak_add p ht (u + 1)
      rw [show u + 1 + p = u + p + 1 by omega] at a2
      obtain ⟨S, hS, hW⟩ := L.up u (by omega) (by omega) (by omega)
      have hSu : u ≤ S := by
        have := cal_le (tk := tk) (cl := cl) (S + 1)
        have := hS.2
        rcases Nat.lt_or_ge S u with q | q
        · have := monoT (show S + 1 ≤ u by omega)
          omega
        · exact q
      have sm := cal_same ht hc gz (t := S + 1) (by omega)
      have := hS.2
      have le : T ≤ S + p := Tk.le monoC h2 (by
        rw [show S + p + 1 = S + 1 + p by omega]
        have := h1.2
        omega)
      omega
include hp ht hc in
/-- all tickets of three periods are called within four and a tick -/
theorem called_all (gz : wt tk cl (p + 1) = wt tk cl (p + 1 + p)) {n : Nat} (hn : n < tak tk (3 * p)) : ∃ T, T < 4 * p + 1 ∧ Tk (cal tk cl) n T := by
  refine Tk.ex rfl ?_
  have h := cal_same_k ht hc gz 3
  have a1 := tak_add p ht p
  have a2 := tak_add p ht (2 * p)
  rw [show p + p = 2 * p by omega] at a1
  rw [show 2 * p + p = 3 * p by omega] at a2
  rw [show 4 * p + 1 = p + 1 + 3 * p by omega, h]
  omega
/-- what is called in a stretch without an empty room -/
theorem full_calls {a : Nat} : ∀ k, (∀ t, a < t → t ≤ a + k → 0 < wt tk cl t) → cal tk cl (a + k) + tak cl a = cal tk cl a + tak cl (a + k)
  | 0, _ => by simp
  | k + 1, h => by
    have ih := full_calls (a := a) k fun t h1 h2 => h t h1 (by omega)
    have w := h (a + k + 1) (by omega) (by omega)
    rw [wt_succ] at w
    have c := cal_succ (tk := tk) (cl := cl) (a + k)
    have e : tak cl (a + k + 1) = tak cl (a + k) + atp cl (a + k) := rfl
    rw [show a + (k + 1) = a + k + 1 by omega, c, e]
    omega
theorem some_calls {a : Nat} : ∀ k, cal tk cl (a + k) + tak cl a ≤ cal tk cl a + tak cl (a + k)
  | 0 => by simp
  | k + 1 => by
    have ih := some_calls (a := a) k
    have c := cal_succ (tk := tk) (cl := cl) (a + k)
    have e : tak cl (a + k + 1) = tak cl (a + k) + atp cl (a + k) := rfl
    rw [show a + (k + 1) = a + k + 1 by omega, c, e]
    omega
include hp ht hc in
/-- nobody more waits after a period iff no more are taken than can be called -/
theorem grow_iff : wt tk cl (p + 1) = wt tk cl (p + 1 + p) ↔ tak tk p ≤ tak cl p := by
  have a1 := tak_add p ht (p + 1)
  have a2 := tak_add (tk := cl) p hc (p + 1)
  have w1 := wt_cal (tk := tk) (cl := cl) (p + 1)
  have w2 := wt_cal (tk := tk) (cl := cl) (p + 1 + p)
  constructor
  · intro h
    have s := some_calls (tk := tk) (cl := cl) (a := p + 1) p
    omega
  · intro h
    by_cases z : ∀ t, p + 1 < t → t ≤ p + 1 + p → 0 < wt tk cl t
    · have f := full_calls (tk := tk) (cl := cl) (a := p + 1) p z
      have u := wt_up (tk := tk) (cl := cl) ht hc (p + 1)
      omega
    · obtain ⟨t, h1, h2, h3⟩ : ∃ t, p + 1 < t ∧ t ≤ p + 1 + p ∧ wt tk cl t = 0 := by
        refine Classical.byContradiction fun q => z fun t h1 h2 => ?_
        rcases Nat.eq_zero_or_pos (wt tk cl t) with e | e
        · exact absurd ⟨t, h1, h2, e⟩ q
        · exact e
      have u := wt_up (tk := tk) (cl := cl) ht hc (t - p)
      rw [show t - p + p = t by omega, h3] at u
      refine wt_same ht hc (s := t - p) ?_ (p + 1) (by omega)
      rw [show t - p + p = t by omega, h3]
      omega
end
end Mm

/-! ### Open tickets -/
namespace Mm
/-- how many tickets are open at t, with the lateness lt -/
def opn (tk cl : List Nat) (lt t : Nat) : Nat := tak tk (t + 1) - cal tk cl (t - lt)
structure MaxIs (f : Nat → Nat) (M : Nat) : Prop where
  le : ∀ t, f t ≤ M
  at_ : ∃ t, f t = M
theorem MaxIs.uniq {f : Nat → Nat} {M N : Nat} (a : MaxIs f M) (b : MaxIs f N) : M = N := by
  obtain ⟨t, h⟩ := a.at_
  obtain ⟨s, k⟩ := b.at_
  have := a.le s
  have := b.le t
  omega
section
variable {tk cl : List Nat} {p lt : Nat}
theorem opn_add (t : Nat) : opn tk cl lt t + cal tk cl (t - lt) = tak tk (t + 1) := by
  have h1 := cal_le (tk := tk) (cl := cl) (t - lt)
  have h2 := tak_mono (tk := tk) (show t - lt ≤ t + 1 by omega)
  unfold opn
  omega
variable (hp : 0 < p) (ht : tk.length ∣ p) (hc : cl.length ∣ p)
include ht hc in
theorem opn_up (t : Nat) : opn tk cl lt t ≤ opn tk cl lt (t + p) := by
  have h1 := opn_add (tk := tk) (cl := cl) (lt := lt) t
  have h2 := opn_add (tk := tk) (cl := cl) (lt := lt) (t + p)
  have h3 := tak_add p ht (t + 1)
  rw [show t + 1 + p = t + p + 1 by omega] at h3
  rcases Nat.lt_or_ge t lt with z | z
  · have h4 := cal_mono (tk := tk) (cl := cl) (show t + p - lt ≤ p by omega)
    have h5 := cal_le (tk := tk) (cl := cl) p
    omega
  · have h4 := cal_up (tk := tk) (cl := cl) ht hc (t - lt)
    rw [show t - lt + p = t + p - lt by omega] at h4
    omega
include hp ht hc in
theorem opn_same (gz : wt tk cl (p + 1) = wt tk cl (p + 1 + p)) {t : Nat} (h : p + lt ≤ t) : opn tk cl lt (t + p) = opn tk cl lt t := by
  have h1 := opn_add (tk := tk) (cl := cl) (lt := lt) t
  have h2 := opn_add (tk := tk) (cl := cl) (lt := lt) (t + p)
  have h3 := tak_add p ht (t + 1)
  rw [show t + 1 + p = t + p + 1 by omega] at h3
  have h4 := cal_per (tk := tk) (cl := cl) hp ht hc (t := t - lt) (by omega)
  rw [show t - lt + p = t + p - lt by omega] at h4
  have h5 := per_calls (tk := tk) (cl := cl) ht hc gz hp
  omega
include ht hc in
theorem opn_ups (t : Nat) : ∀ k, opn tk cl lt t ≤ opn tk cl lt (t + k * p)
  | 0 => by simp
  | k + 1 => by
    have ih := opn_ups t k
    have h := opn_up (tk := tk) (cl := cl) (lt := lt) ht hc (t + k * p)
    rw [Nat.succ_mul, ← Nat.add_assoc]
    omega
include hp ht hc in
theorem opn_red (gz : wt tk cl (p + 1) = wt tk cl (p + 1 + p)) : ∀ n, opn tk cl lt (p + lt + n) = opn tk cl lt (p + lt + n % p) := by
  intro n
  induction n using Nat.strongRecOn with
  | _ n ih =>
    rcases Nat.lt_or_ge n p with z | z
    · rw [Nat.mod_eq_of_lt z]
    · have h := opn_same (tk := tk) (cl := cl) (lt := lt) hp ht hc gz (t := p + lt + (n - p)) (by omega)
      rw [show p + lt + (n - p) + p = p + lt + n by omega] at h
      rw [h, ih (n - p) (by omega), Nat.mod_eq_sub_mod z]
include hp ht hc in
theorem opn_max (gz : wt tk cl (p + 1) = wt tk cl (p + 1 + p)) {M : Nat} (h1 : ∀ i, i < p → opn tk cl lt (p + lt + i) ≤ M) (h2 : ∃ t, opn tk cl lt t = M) : MaxIs (opn tk cl lt) M := by
  refine ⟨fun t => ?_, h2⟩
  have a := opn_ups (tk := tk) (cl := cl) (lt := lt) ht hc t (p + lt)
  have b : p + lt ≤ t + (p + lt) * p := by
    have := Nat.le_mul_of_pos_right (p + lt) hp
    omega
  obtain ⟨n, hn⟩ : ∃ n, t + (p + lt) * p = p + lt + n := ⟨t + (p + lt) * p - (p + lt), by omega⟩
  rw [hn, opn_red hp ht hc gz n] at a
  have := h1 (n % p) (Nat.mod_lt n hp)
  omega
include hp ht hc in
/-- over more than two periods and the lateness -/
theorem opn_window (gz : wt tk cl (p + 1) = wt tk cl (p + 1 + p)) {M N : Nat} (hN : 2 * p + lt ≤ N) (h1 : ∀ i, i < N → opn tk cl lt i ≤ M) (h2 : ∃ t, opn tk cl lt t = M) : MaxIs (opn tk cl lt) M :=
  opn_max hp ht hc gz (fun i hi => h1 _ (by omega)) h2
theorem opn_le (h9 : ∀ x ∈ tk, x ≤ 9) (t : Nat) : opn tk cl lt t ≤ 9 * (t + 1) := by
  have h1 := opn_add (tk := tk) (cl := cl) (lt := lt) t
  have h2 := tak_le h9 (t + 1)
  omega
end
end Mm

/-! ### The law's open tickets and their greatest number -/
namespace Tk
open PySem PySem.Spec PyProof.Rows L2 Mm
def spOpens : Sp := fun vs H Q _ => ∃ (t tp cp : Addr) (m lt : Nat) (tk cl : List Nat) (n : Nat), vs = [.ref t, vn n] ∧ PartsAt H t m tp tk cp cl lt ∧ n ≤ 900 ∧
  ∀ (l : Addr) (rs : List Addr) H', Same H H' → H' l = some (.lst (rs.map V.ref)) → rs.length = n → (∀ r ∈ rs, ∃ a b : Nat, H' r = some (.tup [vn a, vn b])) → Q (.ref l) H'
def spMost : Sp := fun vs H Q _ => ∃ (t tp cp : Addr) (m lt : Nat) (tk cl : List Nat), vs = [.ref t] ∧ PartsAt H t m tp tk cp cl lt ∧
  ∀ v H', Same H H' → ((tak cl (per tk cl) < tak tk (per tk cl) ∧ v = .non) ∨ (tak tk (per tk cl) ≤ tak cl (per tk cl) ∧ ∃ z : Int, v = .int z)) → Q v H'
theorem sum_per (tk : List Nat) (h : 0 < tk.length) (q : Nat) : tak tk (q * tk.length) = q * tk.sum := by
  have z := tak_mul tk q 0
  rw [Nat.zero_add] at z
  rw [z]
  rfl
theorem cmp_sums {tk cl : List Nat} (n0 : 0 < tk.length) (c0 : 0 < cl.length) : (cl.sum * tk.length < tk.sum * cl.length) ↔ (tak cl (per tk cl) < tak tk (per tk cl)) := by
  have p0 := per_pos n0 c0
  obtain ⟨a, ha⟩ := per_tk (tk := tk) (cl := cl)
  obtain ⟨b, hb⟩ := per_cl (tk := tk) (cl := cl)
  have e1 : tak tk (per tk cl) = a * tk.sum := by rw [ha, Nat.mul_comm]; exact sum_per tk n0 a
  have e2 : tak cl (per tk cl) = b * cl.sum := by rw [hb, Nat.mul_comm]; exact sum_per cl c0 b
  rw [e1, e2]
  -- times the period
  have f1 : per tk cl * (cl.sum * tk.length) = (b * cl.sum) * (cl.length * tk.length) := by
    rw [hb]
    simp only [Nat.mul_comm, Nat.mul_left_comm, Nat.mul_assoc]
  have f2 : per tk cl * (tk.sum * cl.length) = (a * tk.sum) * (cl.length * tk.length) := by
    rw [ha]
    simp only [Nat.mul_comm, Nat.mul_left_comm, Nat.mul_assoc]
  have pl : 0 < cl.length * tk.length := Nat.mul_pos c0 n0
  constructor
  · intro h
    have := Nat.mul_lt_mul_of_pos_left h p0
    rw [f1, f2] at this
    exact Nat.lt_of_mul_lt_mul_right this
  · intro h
    have := Nat.mul_lt_mul_of_pos_right h pl
    rw [← f1, ← f2] at this
    exact Nat.lt_of_mul_lt_mul_left this
section
variable {P : Program} {w : World} {K : PySem.W.Frag} {mg : Str → Option Value} {base : Heap}
end
end Tk

/-! ### Open tickets, their greatest number -/
namespace Tk
open PySem PySem.Spec PyProof.Rows L2 Mm
def MostV (tk cl : List Nat) (lt : Nat) (v : V) : Prop := (0 < grow tk cl ∧ v = .non) ∨ (grow tk cl = 0 ∧ ∃ M : Nat, v = vn M ∧ MaxIs (opn tk cl lt) M)
def spCo (C : Addr) : Sp := fun vs H Q _ => ∃ (h lp : Addr) (m lt : Nat) (tk cl : List Nat) (t l : Nat), vs = [.ref h, vn t, vn l] ∧ HallAt C H h m tk cl lt lp ∧ ∀ H', Same H H' → Q (vn (opn tk cl l t)) H'
def spMow (C : Addr) : Sp := fun vs H Q _ => ∃ (h lp : Addr) (m lt : Nat) (tk cl : List Nat) (l : Nat), vs = [.ref h, vn l] ∧ HallAt C H h m tk cl lt lp ∧ l ≤ 1000 ∧ ∀ v H', Same H H' → MostV tk cl l v → Q v H'
def spMo (C : Addr) : Sp := fun vs H Q _ => ∃ (h lp : Addr) (m lt : Nat) (tk cl : List Nat), vs = [.ref h] ∧ HallAt C H h m tk cl lt lp ∧ ∀ v H', Same H H' → MostV tk cl lt v → Q v H'
def spOt (C : Addr) : Sp := fun vs H Q _ => ∃ (h lp : Addr) (m lt : Nat) (tk cl : List Nat) (t : Nat), vs = [.ref h, vn t] ∧ HallAt C H h m tk cl lt lp ∧ t ≤ 1000000000000000000 ∧
  ∀ r H', H r = none → Same H H' → H' r = some (.tup [vn (cal tk cl (t - lt)), vn (opn tk cl lt t)]) → Q (.ref r) H'
def spLc (C : Addr) : Sp := fun vs H Q _ => ∃ (h lp : Addr) (m lt : Nat) (tk cl : List Nat), vs = [.ref h] ∧ HallAt C H h m tk cl lt lp ∧ ∀ v H', Same H H' → ((0 < grow tk cl ∧ v = .non) ∨ (grow tk cl = 0 ∧ ∃ M : Nat, v = vn (max 1 ((M + m - 1) / m)) ∧ MaxIs (opn tk cl lt) M)) → Q v H'
def spLm (C : Addr) : Sp := fun vs H Q _ => ∃ (h lp : Addr) (m lt : Nat) (tk cl : List Nat), vs = [.ref h] ∧ HallAt C H h m tk cl lt lp ∧ ∀ v H', Same H H' → ((0 < grow tk cl ∧ v = .non) ∨ (grow tk cl = 0 ∧ ∃ M : Nat, v = vn (max 2 M) ∧ MaxIs (opn tk cl lt) M)) → Q v H'
/-- with the lateness l nothing clashes -/
def Fits (tk cl : List Nat) (m l : Nat) : Prop := grow tk cl = 0 ∧ ∀ t, opn tk cl l t ≤ m
inductive GrL (tk cl : List Nat) (m : Nat) : V → Prop where
  | no (h : ∀ l, l ≤ 99 → ¬ Fits tk cl m l) : GrL tk cl m .non
  | some (L : Nat) (h0 : L ≤ 99) (h1 : Fits tk cl m L) (h2 : ∀ l, L < l → l ≤ 99 → ¬ Fits tk cl m l) : GrL tk cl m (vn L)
def spGl (C : Addr) : Sp := fun vs H Q _ => ∃ (h lp : Addr) (m lt : Nat) (tk cl : List Nat), vs = [.ref h] ∧ HallAt C H h m tk cl lt lp ∧ ∀ v H', Same H H' → GrL tk cl m v → Q v H'
def spTickN : Sp := fun vs H Q _ => ∃ t : Nat, vs = [vn t] ∧ t ≤ 1000000000000000000 ∧ Q .non H
section
variable {P : Program} {w : World} {K : PySem.W.Frag} {mg : Str → Option Value} {base : Heap}
theorem grow_gz {tk cl : List Nat} (h : grow tk cl = 0) : wt tk cl (per tk cl + 1) = wt tk cl (per tk cl + 1 + per tk cl) := by
  have u := wt_up (tk := tk) (cl := cl) per_tk per_cl (per tk cl + 1)
  unfold grow at h
  rw [show 2 * per tk cl + 1 = per tk cl + 1 + per tk cl by omega] at h
  omega
theorem grow0 {tk cl : List Nat} : grow tk cl = 0 ↔ wt tk cl (per tk cl + 1) = wt tk cl (per tk cl + 1 + per tk cl) := by
  have u := wt_up (tk := tk) (cl := cl) per_tk per_cl (per tk cl + 1)
  unfold grow
  rw [show 2 * per tk cl + 1 = per tk cl + 1 + per tk cl by omega]
  omega
theorem opn_int {tk cl : List Nat} {l t : Nat} : V.int ((tak tk (t + 1) : Int) - (cal tk cl (t - l) : Int)) = vn (opn tk cl l t) := vn_int (by have := opn_add (tk := tk) (cl := cl) (lt := l) t; omega)
end
end Tk
namespace Tk
open PySem PySem.Spec PyProof.Rows L2 Mm
def ColV (tk cl : List Nat) (m lt : Nat) (v : V) : Prop := (0 < grow tk cl ∧ v = .non) ∨ (grow tk cl = 0 ∧ ∃ M : Nat, v = vn (max 1 ((M + m - 1) / m)) ∧ MaxIs (opn tk cl lt) M)
def LmV (tk cl : List Nat) (lt : Nat) (v : V) : Prop := (0 < grow tk cl ∧ v = .non) ∨ (grow tk cl = 0 ∧ ∃ M : Nat, v = vn (max 2 M) ∧ MaxIs (opn tk cl lt) M)
theorem MostV.uniq {tk cl : List Nat} {lt : Nat} {v u : V} (a : MostV tk cl lt v) (b : MostV tk cl lt u) : v = u := by
  rcases a with ⟨a, rfl⟩ | ⟨a, M, rfl, hM⟩ <;> rcases b with ⟨b, rfl⟩ | ⟨b, N, rfl, hN⟩
  · rfl
  · omega
  · omega
  · rw [hM.uniq hN]
theorem ColV.uniq {tk cl : List Nat} {m lt : Nat} {v u : V} (a : ColV tk cl m lt v) (b : ColV tk cl m lt u) : v = u := by
  rcases a with ⟨a, rfl⟩ | ⟨a, M, rfl, hM⟩ <;> rcases b with ⟨b, rfl⟩ | ⟨b, N, rfl, hN⟩
  · rfl
  · omega
  · omega
  · rw [hM.uniq hN]
theorem LmV.uniq {tk cl : List Nat} {lt : Nat} {v u : V} (a : LmV tk cl lt v) (b : LmV tk cl lt u) : v = u := by
  rcases a with ⟨a, rfl⟩ | ⟨a, M, rfl, hM⟩ <;> rcases b with ⟨b, rfl⟩ | ⟨b, N, rfl, hN⟩
  · rfl
  · omega
  · omega
  · rw [hM.uniq hN]
theorem GrL.uniq {tk cl : List Nat} {m : Nat} {v u : V} (a : GrL tk cl m v) (b : GrL tk cl m u) : v = u := by
  cases a with
  | no h =>
    cases b with
    | no _ => rfl
    | some L h0 h1 h2 => exact absurd h1 (h L h0)
  | some L h0 h1 h2 =>
    cases b with
    | no h => exact absurd h1 (h L h0)
    | some N k0 k1 k2 =>
      rcases Nat.lt_trichotomy L N with z | z | z
      · exact absurd k1 (h2 N z k0)
      · rw [z]
      · exact absurd h1 (k2 L z h0)
namespace Rd
variable {K : PySem.W.Frag} {H : Hp} {Q : VK} {E : XK} {C h lp : Addr} {m lt : Nat} {tk cl : List Nat}
theorem h_mo (hA : HallAt C H h m tk cl lt lp) (k : ∀ v H', Same H H' → MostV tk cl lt v → Q v H') : spMo C [.ref h] H Q E := ⟨h, lp, m, lt, tk, cl, rfl, hA, k⟩
theorem h_lc (hA : HallAt C H h m tk cl lt lp) (k : ∀ v H', Same H H' → ColV tk cl m lt v → Q v H') : spLc C [.ref h] H Q E := ⟨h, lp, m, lt, tk, cl, rfl, hA, k⟩
theorem h_lm (hA : HallAt C H h m tk cl lt lp) (k : ∀ v H', Same H H' → LmV tk cl lt v → Q v H') : spLm C [.ref h] H Q E := ⟨h, lp, m, lt, tk, cl, rfl, hA, k⟩
theorem h_gl (hA : HallAt C H h m tk cl lt lp) (k : ∀ v H', Same H H' → GrL tk cl m v → Q v H') : spGl C [.ref h] H Q E := ⟨h, lp, m, lt, tk, cl, rfl, hA, k⟩
theorem h_ot {t : Nat} (hA : HallAt C H h m tk cl lt lp) (ht : t ≤ 1000000000000000000) (k : ∀ r H', H r = none → Same H H' → H' r = some (.tup [vn (cal tk cl (t - lt)), vn (opn tk cl lt t)]) → Q (.ref r) H') : spOt C [.ref h, .int (t : Int)] H Q E := ⟨h, lp, m, lt, tk, cl, t, rfl, hA, ht, k⟩
end Rd
end Tk

/-! ### first_clash -/
namespace Tk
open PySem PySem.Spec PyProof.Rows L2 Mm LamX Cz
/-- all but functions, cells and such stays -/
def Rm (H G : Hp) : Prop := ∀ b o, H b = some o → (∀ φ, o ≠ .ext φ) → G b = some o
theorem HallAt.rm {C h lp : Addr} {H H1 : Hp} {m lt : Nat} {tk cl : List Nat} (p : HallAt C H h m tk cl lt lp) (b : Rm H H1) : HallAt C H1 h m tk cl lt lp := by
  obtain ⟨dx, tp, cp, h1, h2, h3⟩ := p.ex
  exact ⟨⟨dx, tp, cp, b _ _ h1 (fun _ z => by cases z), b _ _ h2 (fun _ z => by cases z), b _ _ h3 (fun _ z => by cases z)⟩, b _ _ p.lst (fun _ z => by cases z), p.ok⟩
section
variable {X : Cx} {scope : Scope}
theorem capt_cels0 {σ : L2.St} {H : Hp} (h : Capt X scope σ H) : Cels H (kap X scope) := fun c hc => by
  obtain ⟨⟨q, d⟩, hm, rfl⟩ := List.mem_map.mp hc
  rcases cloFrom_mem hm with m | ⟨z1, z2⟩
  · cases m
  · obtain ⟨i, v, o, _, _, e, r⟩ := h _ z1 rfl
    exact ⟨o, v, by rw [show d = kapA X q from z2]; exact e, r⟩
theorem lamR_same {c' : Addr} {tb : TE} {y v : V} {H : Hp} {Q : VK} (σ : L2.St) (hl : σ.length = X.N.length) (hC : Capt X scope σ H) (hcode : H c' = some (CodeO c' (X.env.qual ++ "<lambda>")))
    (h : ∀ (G : Hp) (Q1 : VK), Rm H G → (∀ G', Same G G' → Q1 v G') → tb (σ ++ [some y]) G Q1) (q : ∀ H'', Same H H'' → Q v H'') : LamR X scope c' tb y H Q := by
  have hc := capt_cels0 hC
  refine ⟨σ, hl, hC, hcode, h _ _ (fun b o e n => remL_keep hc e n) fun G' S => q _ fun b o e => ?_⟩
  by_cases z : b ∈ kap X scope
  · rw [putB_in z]
    exact e
  · rw [putB_out z]
    exact S _ _ (by rw [remL_out z]; exact e)
/-- a call of first_excess by a lambda of the caller -/
theorem callCK_fe {σ : L2.St} {Q : VK} {H1 : Hp} {C h lp ts f cd : Addr} {m lt st : Nat} {tk cl ns : List Nat} {fd : FuncData} {tb : TE} {ex : Nat → Int} (hA : HallAt C H1 h m tk cl lt lp) (hts : H1 ts = some (.lst (ns.map vn))) (hn : ns.length ≤ 1000)
    (hns : ∀ n ∈ ns, n ≤ 1000 ∧ -1000000 ≤ ex n ∧ ex n ≤ 1000000) (hf : H1 f = some (FnO f { cls := .type "function", data := .func fd })) (hcd : H1 cd = some (CodeO cd (lnm X))) (LO : LamOk X.prog X.w X.K X.mg X.base 6 { cls := .type "function", data := .func fd } (LamR X scope cd tb))
    (hσ : σ.length = X.N.length) (hcap : ∀ q, q ∈ scope.names → q.2 = .free → ∃ (i : Nat) (v : V), X.N[i]? = some q.1 ∧ X.env.scope.names.lookup q.1 = some .cell ∧ σ[i]? = some (some v))
    (hbody : ∀ n ∈ ns, ∀ (G : Hp) (Q1 : VK), Rm H1 G → (∀ G', Same G G' → Q1 (.int (ex n)) G') → tb (σ ++ [some (vn n)]) G Q1) (k : ∀ v H5, Same H1 H5 → FeV tk cl ns st ex v → Q v H5) :
    callCK X (spFe X.prog X.w X.K X.mg X.base C) σ Q [.ref h, .ref ts, vn st, .ref f] H1 := by
  intro H3 S3 cells
  refine ⟨h, lp, ts, f, m, lt, st, tk, cl, ns, fd, _, ex, rfl, hA.same S3, S3 _ _ hts, hn, hns, S3 _ _ hf, LO, fun n hm H' Q' S' q => ?_, fun v H4 S4 hv => ⟨fun b o e => S4 _ _ e, fun H5 e1 _ => k v H5 (fun b o e => ?_) hv⟩⟩
  · refine lamR_same σ hσ (fun q hq hk => ?_) (S' _ _ (S3 _ _ hcd)) (fun G Q1 R q1 => hbody n hm G Q1 (fun b o e n2 => R b o (S' _ _ (S3 _ _ e)) n2) q1) q
    obtain ⟨i, v, h1, h2, h3⟩ := hcap q hq hk
    obtain ⟨o, h4, h5⟩ := cells i q.1 v h1 h2 h3
    exact ⟨i, v, o, h1, h3, S' _ _ h4, h5⟩
  · rw [e1 b (by rw [e]; simp)]
    exact S4 _ _ (S3 _ _ e)
end
namespace Rd
variable {σ : L2.St} {H : Hp} {Q : VK}
theorem callC {X : Cx} {sp : Sp} {t : TA} (k : t σ H (callCK X sp σ Q)) : tCallC X sp t σ H Q := k
theorem lamV {X : Cx} {T : List (Addr × Str)} {n : Nat} {scope : Scope} {tb : TE} (hT : Tabs T H) (k : ∀ (f cd : Addr) (fd : FuncData) (H1 : Hp), H f = none → ExtN H H1 → Tabs T H1 → H1 f = some (FnO f { cls := .type "function", data := .func fd }) → H1 cd = some (CodeO cd (lnm X)) →
  LamOk X.prog X.w X.K X.mg X.base n { cls := .type "function", data := .func fd } (LamR X scope cd tb) → Q (.ref f) H1) : tLamV X T n scope tb σ H Q := ⟨hT, k⟩
theorem h_co {C h lp : Addr} {m lt t l : Nat} {tk cl : List Nat} {E : XK} (hA : HallAt C H h m tk cl lt lp) (k : ∀ H', Same H H' → Q (vn (opn tk cl l t)) H') : spCo C [.ref h, .int (t : Int), .int (l : Int)] H Q E := ⟨h, lp, m, lt, tk, cl, t, l, rfl, hA, k⟩
end Rd
/-- the first tick with an excess, whichever way it was found -/
inductive FcV (tk cl : List Nat) (m lt : Nat) (H : Hp) : V → Prop where
  | none (h : FeV tk cl (List.range (2 * per tk cl + lt)) (per tk cl + lt) (fun t => (opn tk cl lt t : Int) - (m : Int)) .non) : FcV tk cl m lt H .non
  | some (t : Int) (r : Addr) (h : FeV tk cl (List.range (2 * per tk cl + lt)) (per tk cl + lt) (fun t => (opn tk cl lt t : Int) - (m : Int)) (.int t))
      (hr : H r = some (.tup [.int t, vn (cal tk cl (t - (lt : Int)).toNat), .int ((cal tk cl (t - (lt : Int)).toNat : Int) + (m : Int))])) : FcV tk cl m lt H (.ref r)
section
variable {P : Program} {w : World} {K : PySem.W.Frag} {mg : Str → Option Value} {base : Heap}
def spFc (K : PySem.W.Frag) (C : Addr) : Sp := fun vs H Q _ => ∃ (h lp : Addr) (m lt : Nat) (tk cl : List Nat), vs = [.ref h] ∧ HallAt C H h m tk cl lt lp ∧ Tabs (TT K) H ∧ ∀ v H', Ext K H H' → FcV tk cl m lt H' v → Q v H'
theorem opn_le {tk cl : List Nat} (h : Pat tk) {l t : Nat} : opn tk cl l t ≤ 9 * (t + 1) := by
  have := tak_le h.nine (t + 1)
  unfold opn
  omega
end
end Tk

/-! ### The first excess, said plainly -/
namespace Tk
open PySem PySem.Spec PyProof.Rows L2 Mm LamX
/-- the first t with c t at which ex is above 0 -/
inductive FirstV (c : Nat → Bool) (ex : Nat → Int) : V → Prop where
  | none (h : ∀ t, c t = true → ex t ≤ 0) : FirstV c ex .non
  | some (t : Nat) (h0 : c t = true) (h1 : 0 < ex t) (h2 : ∀ s, s < t → c s = true → ex s ≤ 0) : FirstV c ex (vn t)
theorem FirstV.uniq {c : Nat → Bool} {ex : Nat → Int} {v u : V} (a : FirstV c ex v) (b : FirstV c ex u) : v = u := by
  cases a with
  | none h =>
    cases b with
    | none _ => rfl
    | some t h0 h1 h2 =>
      have := h t h0
      omega
  | some t h0 h1 h2 =>
    cases b with
    | none h =>
      have := h t h0
      omega
    | some s k0 k1 k2 =>
      rcases Nat.lt_trichotomy t s with z | z | z
      · have := k2 t z h0
        omega
      · rw [z]
      · have := h2 s z k0
        omega
theorem mem_later {tk cl ns : List Nat} {st : Nat} {ex : Nat → Int} {z : Int} : z ∈ laterT tk cl ns st ex ↔ ∃ n ∈ ns, st ≤ n ∧ z = (n : Int) + (per tk cl : Int) * (-(ex n) / (grow tk cl : Int) + 1) := by
  unfold laterT
  rw [List.mem_map]
  constructor
  · rintro ⟨i, hi, rfl⟩
    rw [List.mem_filter, List.mem_range] at hi
    obtain ⟨h1, h2⟩ := hi
    refine ⟨ns.getD i 0, ?_, of_decide_eq_true h2, rfl⟩
    rw [List.getD_eq_getElem?_getD, List.getElem?_eq_getElem h1]
    exact List.getElem_mem h1
  · rintro ⟨n, hn, h1, rfl⟩
    obtain ⟨i, hi⟩ := List.getElem?_of_mem hn
    refine ⟨i, ?_, by rw [Rd.getD_of hi]⟩
    rw [List.mem_filter, List.mem_range, Rd.getD_of hi]
    exact ⟨(List.getElem?_eq_some_iff.mp hi).1, decide_eq_true h1⟩
theorem step_k {c : Nat → Bool} {st p : Nat} (hc : ∀ t, st ≤ t → c (t + p) = c t) {t : Nat} (ht : st ≤ t) : ∀ k, c (t + k * p) = c t
  | 0 => by rw [Nat.zero_mul, Nat.add_zero]
  | k + 1 => by
    rw [show t + (k + 1) * p = (t + k * p) + p by rw [Nat.add_mul]; omega, hc _ (by omega), step_k hc ht k]
theorem step_e {ex : Nat → Int} {st p : Nat} {g : Int} (he : ∀ t, st ≤ t → ex (t + p) = ex t + g) {t : Nat} (ht : st ≤ t) : ∀ k : Nat, ex (t + k * p) = ex t + (k : Int) * g
  | 0 => by rw [Nat.zero_mul, Nat.add_zero]; simp
  | k + 1 => by
    rw [show t + (k + 1) * p = (t + k * p) + p by rw [Nat.add_mul]; omega, he _ (by omega), step_e he ht k, Int.natCast_add, Int.add_mul]
    omega
theorem red_p {st p t : Nat} (hp : 0 < p) (h : st ≤ t) : ∃ n k, st ≤ n ∧ n < st + p ∧ t = n + k * p := by
  refine ⟨st + (t - st) % p, (t - st) / p, by omega, ?_, ?_⟩
  · have := Nat.mod_lt (t - st) hp
    omega
  · have := Nat.div_add_mod (t - st) p
    rw [Nat.mul_comm] at this
    omega
theorem fe_first {tk cl : List Nat} {c : Nat → Bool} {ex : Nat → Int} {st : Nat} (hp : 0 < per tk cl) (hc : ∀ t, st ≤ t → c (t + per tk cl) = c t) (he : ∀ t, st ≤ t → ex (t + per tk cl) = ex t + (grow tk cl : Int)) {v : V}
    (h : FeV tk cl ((List.range (st + per tk cl)).filter c) st ex v) : FirstV c ex v := by
  have mem : ∀ {n}, n < st + per tk cl → c n = true → n ∈ (List.range (st + per tk cl)).filter c := fun h1 h2 => List.mem_filter.mpr ⟨List.mem_range.mpr h1, h2⟩
  have mem2 : ∀ {n}, n ∈ (List.range (st + per tk cl)).filter c → n < st + per tk cl ∧ c n = true := fun h => by
    obtain ⟨a, b⟩ := List.mem_filter.mp h
    exact ⟨List.mem_range.mp a, b⟩
  cases h with
  | first i n hi h0 hb =>
    have hn := mem2 (List.mem_of_getElem? hi)
    refine .some n hn.2 h0 fun s hs hcs => ?_
    obtain ⟨j, hj⟩ := List.getElem?_of_mem (mem (n := s) (by omega) hcs)
    refine hb j s ?_ hj
    rcases Nat.lt_trichotomy j i with z | z | z
    · exact z
    · subst z
      have := Option.some.inj (hi.symm.trans hj)
      omega
    · exfalso
      have srt : ((List.range (st + per tk cl)).filter c).Pairwise (· < ·) := List.Pairwise.filter c List.pairwise_lt_range
      have a1 := (List.getElem?_eq_some_iff.mp hi)
      have a2 := (List.getElem?_eq_some_iff.mp hj)
      have := List.pairwise_iff_getElem.mp srt i j a1.1 a2.1 z
      rw [a1.2, a2.2] at this
      omega
  | none hb g =>
    refine .none fun t ht => ?_
    rcases Nat.lt_or_ge t st with z | z
    · exact hb t (mem (by omega) ht)
    · obtain ⟨n, k, h1, h2, rfl⟩ := red_p hp z
      rw [step_k hc h1] at ht
      rw [step_e he h1, g]
      have := hb n (mem h2 ht)
      simp only [Int.natCast_zero, Int.mul_zero]
      omega
  | never hb g hl =>
    refine .none fun t ht => ?_
    rcases Nat.lt_or_ge t st with z | z
    · exact hb t (mem (by omega) ht)
    · obtain ⟨n, k, h1, h2, rfl⟩ := red_p hp z
      rw [step_k hc h1] at ht
      have : (n : Int) + (per tk cl : Int) * (-(ex n) / (grow tk cl : Int) + 1) ∈ laterT tk cl ((List.range (st + per tk cl)).filter c) st ex := mem_later.mpr ⟨n, mem h2 ht, h1, rfl⟩
      rw [hl] at this
      cases this
  | later hb g z hz hm =>
    obtain ⟨n, hn, h1, rfl⟩ := mem_later.mp hz
    have hn := mem2 hn
    have g0 : (0 : Int) < (grow tk cl : Int) := by omega
    have key : ∀ n, n < st + per tk cl → c n = true → st ≤ n → ∃ k : Nat, (k : Int) = -(ex n) / (grow tk cl : Int) + 1 ∧ ∀ j : Nat, (0 < ex (n + j * per tk cl) ↔ k ≤ j) := fun n a b d => by
      have e0 := hb n (mem a b)
      have q0 : 0 ≤ -(ex n) / (grow tk cl : Int) := Int.ediv_nonneg (by omega) (by omega)
      refine ⟨(-(ex n) / (grow tk cl : Int) + 1).toNat, by omega, fun j => ?_⟩
      rw [step_e he d]
      have dm := Int.mul_ediv_add_emod (-(ex n)) (grow tk cl : Int)
      have m0 := Int.emod_nonneg (-(ex n)) (show (grow tk cl : Int) ≠ 0 by omega)
      have m1 := Int.emod_lt_of_pos (-(ex n)) g0
      generalize hq : -(ex n) / (grow tk cl : Int) = q at *
      constructor
      · intro lt
        have : q < (j : Int) := by
          refine Int.not_le.mp fun le => ?_
          have := Int.mul_le_mul_of_nonneg_right le (Int.le_of_lt g0)
          have c1 : (grow tk cl : Int) * q = q * (grow tk cl : Int) := Int.mul_comm _ _
          omega
        omega
      · intro le
        have : q + 1 ≤ (j : Int) := by omega
        have := Int.mul_le_mul_of_nonneg_right this (Int.le_of_lt g0)
        have c1 : (grow tk cl : Int) * q = q * (grow tk cl : Int) := Int.mul_comm _ _
        rw [Int.add_mul] at this
        omega
    obtain ⟨k, hk, kk⟩ := key n hn.1 hn.2 h1
    have ez : (n : Int) + (per tk cl : Int) * (-(ex n) / (grow tk cl : Int) + 1) = ((n + k * per tk cl : Nat) : Int) := by
      rw [← hk, Int.natCast_add, Int.natCast_mul, Int.mul_comm]
    rw [ez] at hm
    show FirstV c ex (V.int _)
    rw [ez]
    refine .some _ (by rw [step_k hc h1]; exact hn.2) ((kk k).mpr (Nat.le_refl _)) fun s hs hcs => ?_
    rcases Nat.lt_or_ge s st with z | z
    · exact hb s (mem (by omega) hcs)
    · obtain ⟨n2, j, d1, d2, rfl⟩ := red_p hp z
      rw [step_k hc d1] at hcs
      obtain ⟨k2, hk2, kk2⟩ := key n2 d2 hcs d1
      refine Int.not_lt.mp fun lt => ?_
      have le := (kk2 j).mp lt
      have hm2 := hm _ (mem_later.mpr ⟨n2, mem d2 hcs, d1, rfl⟩)
      have ez2 : (n2 : Int) + (per tk cl : Int) * (-(ex n2) / (grow tk cl : Int) + 1) = ((n2 + k2 * per tk cl : Nat) : Int) := by
        rw [← hk2, Int.natCast_add, Int.natCast_mul, Int.mul_comm]
      rw [ez2] at hm2
      have := Nat.mul_le_mul_right (per tk cl) le
      omega
theorem opn_step {tk cl : List Nat} (h1 : Pat tk) (h2 : Pat cl) {lt t : Nat} (ht : per tk cl + lt ≤ t) : opn tk cl lt (t + per tk cl) = opn tk cl lt t + grow tk cl := by
  have p0 := per_pos h1.pos h2.pos
  have a1 := opn_add (tk := tk) (cl := cl) (lt := lt) (t + per tk cl)
  have a2 := opn_add (tk := tk) (cl := cl) (lt := lt) t
  rw [show t + per tk cl + 1 = (t + 1) + per tk cl by omega, tak_add _ per_tk] at a1
  have b1 := cal_per (tk := tk) (cl := cl) p0 per_tk per_cl (t := t - lt) (by omega)
  rw [show t - lt + per tk cl = t + per tk cl - lt by omega] at b1
  have b2 := cal_per (tk := tk) (cl := cl) p0 per_tk per_cl (t := per tk cl + 1) (by omega)
  have w1 := wt_cal (tk := tk) (cl := cl) (2 * per tk cl + 1)
  have w2 := wt_cal (tk := tk) (cl := cl) (per tk cl + 1)
  have t1 := tak_add (tk := tk) (per tk cl) per_tk (per tk cl + 1)
  rw [show per tk cl + 1 + per tk cl = 2 * per tk cl + 1 by omega] at b2 t1
  have wu := wt_up (tk := tk) (cl := cl) per_tk per_cl (per tk cl + 1)
  rw [show per tk cl + 1 + per tk cl = 2 * per tk cl + 1 by omega] at wu
  unfold grow
  omega
/-- the first tick with more than m open tickets -/
abbrev OverV (tk cl : List Nat) (lt m : Nat) : V → Prop := FirstV (fun _ => true) fun t => (opn tk cl lt t : Int) - (m : Int)
theorem filter_true (n : Nat) : (List.range n).filter (fun _ => true) = List.range n := List.filter_eq_self.mpr fun _ _ => rfl
theorem over_of {tk cl : List Nat} (h1 : Pat tk) (h2 : Pat cl) {lt m : Nat} {v : V} (h : FeV tk cl (List.range (2 * per tk cl + lt)) (per tk cl + lt) (fun t => (opn tk cl lt t : Int) - (m : Int)) v) : OverV tk cl lt m v := by
  refine fe_first (per_pos h1.pos h2.pos) (fun _ _ => rfl) (fun t ht => ?_) (st := per tk cl + lt) ?_
  · rw [opn_step h1 h2 ht]
    omega
  · rw [filter_true, show per tk cl + lt + per tk cl = 2 * per tk cl + lt by omega]
    exact h
theorem filter_head {c : Nat → Bool} {t : Nat} (h0 : c t = true) (h1 : ∀ s, s < t → c s = true → False) : ∀ {n : Nat}, t < n → ∃ r, (List.range n).filter c = t :: r
  | 0, h => by omega
  | n + 1, h => by
    rw [List.range_succ, List.filter_append]
    rcases Nat.lt_or_ge t n with z | z
    · obtain ⟨r, e⟩ := filter_head h0 h1 z
      rw [e]
      exact ⟨_, rfl⟩
    · obtain rfl : t = n := by omega
      have e : (List.range t).filter c = [] := List.filter_eq_nil_iff.mpr fun s hs hc => h1 s (List.mem_range.mp hs) hc
      rw [e]
      exact ⟨[], by simp [h0]⟩
theorem opn_steps {tk cl : List Nat} (h1 : Pat tk) (h2 : Pat cl) {lt t : Nat} (ht : per tk cl + lt ≤ t) : ∀ k, opn tk cl lt (t + k * per tk cl) = opn tk cl lt t + k * grow tk cl
  | 0 => by simp
  | k + 1 => by
    rw [show t + (k + 1) * per tk cl = (t + k * per tk cl) + per tk cl by rw [Nat.add_mul]; omega, opn_step h1 h2 (by omega), opn_steps h1 h2 ht k, Nat.add_mul]
    omega
theorem over_bound {tk cl : List Nat} (h1 : Pat tk) (h2 : Pat cl) {lt m t : Nat} (hp : per tk cl ≤ 9) (hm : m ≤ 10) (hl : lt ≤ 5) (a : m < opn tk cl lt t) (b : ∀ s, s < t → opn tk cl lt s ≤ m) : t < 200 := by
  refine Nat.lt_of_not_le fun ge => ?_
  have p0 := per_pos h1.pos h2.pos
  by_cases g : grow tk cl = 0
  · have s := opn_step h1 h2 (lt := lt) (t := t - per tk cl) (by omega)
    rw [show t - per tk cl + per tk cl = t by omega, g] at s
    have := b (t - per tk cl) (by omega)
    omega
  · have s := opn_steps h1 h2 (lt := lt) (t := t - 12 * per tk cl) (by omega) 11
    have := b (t - 12 * per tk cl + 11 * per tk cl) (by omega)
    omega
/-- first_clash's answer -/
inductive ClashAt (tk cl : List Nat) (m lt : Nat) (H : Hp) : V → Prop where
  | none (h : ∀ t, opn tk cl lt t ≤ m) : ClashAt tk cl m lt H .non
  | some (t : Nat) (r : Addr) (h0 : m < opn tk cl lt t) (h1 : ∀ s, s < t → opn tk cl lt s ≤ m) (hr : H r = some (.tup [vn t, vn (cal tk cl (t - lt)), vn (cal tk cl (t - lt) + m)])) : ClashAt tk cl m lt H (.ref r)
theorem ClashAt.ext {K : PySem.W.Frag} {tk cl : List Nat} {m lt : Nat} {H H' : Hp} {v : V} (X : Ext K H H') (h : ClashAt tk cl m lt H v) : ClashAt tk cl m lt H' v := by
  cases h with
  | none h => exact .none h
  | some t r h0 h1 hr => exact .some t r h0 h1 (X.tup hr)
theorem clash_of {tk cl : List Nat} (h1 : Pat tk) (h2 : Pat cl) {m lt : Nat} {H : Hp} {v : V} (h : FcV tk cl m lt H v) : ClashAt tk cl m lt H v := by
  cases h with
  | none h =>
    refine .none fun t => ?_
    cases over_of h1 h2 h with
    | none h =>
      have := h t rfl
      omega
  | some z r h hr =>
    have o := over_of h1 h2 h
    generalize hv : V.int z = v at o
    cases o with
    | none _ => cases hv
    | some t h0 h1 h2 =>
      obtain rfl : z = (t : Int) := by injection hv
      rw [show ((t : Int) - (lt : Int)).toNat = t - lt by omega] at hr
      refine .some t r (by omega) (fun s hs => ?_) hr
      have := h2 s hs rfl
      omega
namespace Rd
theorem h_fc {K : PySem.W.Frag} {H : Hp} {Q : VK} {E : XK} {C h lp : Addr} {m lt : Nat} {tk cl : List Nat} (hA : HallAt C H h m tk cl lt lp) (hT : Tabs (TT K) H) (k : ∀ v H', Ext K H H' → ClashAt tk cl m lt H' v → Q v H') : spFc K C [.ref h] H Q E :=
  ⟨h, lp, m, lt, tk, cl, rfl, hA, hT, fun v H' X hv => k v H' X (clash_of hA.ok.tkP hA.ok.clP hv)⟩
end Rd
end Tk

/-! ### Holders of digits, mistaken visitors -/
namespace Tk
open PySem PySem.Spec PyProof.Rows L2 Mm LamX Cz
def misP (s c e m : Nat) : List (Nat × Nat) := (List.range (c - s)).flatMap fun i => (resL c e ((s + i) % m) m).map fun o => (s + i, o)
abbrev dPair (p : Nat × Nat) : PyData := .tuple [dN p.1, dN p.2]
def misD (s c e m : Nat) : List PyData := (List.range (c - s)).flatMap fun i => (resL c e ((s + i) % m) m).map fun o => dPair (s + i, o)
theorem misD_map {s c e m : Nat} : misD s c e m = (misP s c e m).map dPair := by
  unfold misD misP
  rw [List.map_flatMap]
  simp only [List.map_map]
  rfl
theorem resL_len {a b d m : Nat} (hm : 0 < m) (hd : d < m) : (resL a b d m).length ≤ (b - a) / m + 1 := by
  rw [res_steps hm hd, List.length_map, List.length_range]
  generalize (d + (m - a % m)) % m = z
  have : (b - (a + z) + m - 1) / m ≤ ((b - a) + m) / m := Nat.div_le_div_right (by omega)
  rw [Nat.add_div_right _ hm] at this
  exact this
theorem flat_len {α β : Type} {N : Nat} (f : α → List β) : ∀ {l : List α}, (∀ x ∈ l, (f x).length ≤ N) → (l.flatMap f).length ≤ l.length * N
  | [], _ => by simp
  | a :: l, h => by
    have h1 := h a List.mem_cons_self
    have h2 := flat_len f (l := l) fun x hx => h x (List.mem_cons_of_mem _ hx)
    rw [List.flatMap_cons, List.length_append, List.length_cons, Nat.add_mul]
    omega
theorem misD_len {s c e m : Nat} (hm : 0 < m) : (misD s c e m).length ≤ (c - s) * ((e - c) / m + 1) := by
  unfold misD
  have := flat_len (N := (e - c) / m + 1) (fun i => (resL c e ((s + i) % m) m).map fun o => dPair (s + i, o)) (l := List.range (c - s)) fun x hx => by
    rw [List.length_map]
    exact resL_len hm (Nat.mod_lt _ hm)
  rw [List.length_range] at this
  exact this
def spSame : Sp := fun vs H Q _ => ∃ (x a b m : Nat), vs = [vn x, vn a, vn b, vn m] ∧ 0 < m ∧ m ≤ 10000 ∧ a ≤ 4000000000000000000 ∧ b ≤ 4000000000000000000 ∧ (b - a) / m ≤ 1000000 ∧
  ∀ l H', H l = none → Same H H' → H' l = some (.lst ((resL a b (x % m) m).map vn)) → Q (.ref l) H'
def spHold (C : Addr) : Sp := fun vs H Q _ => ∃ (h lp : Addr) (m lt t d : Nat) (tk cl : List Nat), vs = [.ref h, vn t, vn d] ∧ HallAt C H h m tk cl lt lp ∧ t ≤ 400000000000000000 ∧ d < m ∧ opn tk cl lt t / m ≤ 1000 ∧
  ∀ l H', H l = none → Same H H' → H' l = some (.lst ((resL (cal tk cl (t - lt)) (tak tk (t + 1)) d m).map vn)) → Q (.ref l) H'
def spMis (K : PySem.W.Frag) (C : Addr) : Sp := fun vs H Q _ => ∃ (h lp : Addr) (m lt t : Nat) (tk cl : List Nat), vs = [.ref h, vn t] ∧ HallAt C H h m tk cl lt lp ∧ t ≤ 400000000000000000 ∧ wt tk cl (t + 1) / m * (cal tk cl (t + 1) - cal tk cl t) ≤ 1000 ∧
  ∀ l ys H', H l = none → Same H H' → H' l = some (.lst ys) → DpAll K H' ys (misD (cal tk cl t) (cal tk cl (t + 1)) (tak tk (t + 1)) m) → Q (.ref l) H'
def mex (tk cl : List Nat) (m t : Nat) : Int := min (wt tk cl (t + 1) : Int) ((tak tk (t + 1) : Int) - (cal tk cl t : Int) - (m : Int))
def spMex (C : Addr) : Sp := fun vs H Q _ => ∃ (h lp : Addr) (m lt t : Nat) (tk cl : List Nat), vs = [.ref h, vn t] ∧ HallAt C H h m tk cl lt lp ∧ ∀ H', Same H H' → Q (.int (mex tk cl m t)) H'
def calls (tk cl : List Nat) (t : Nat) : Bool := decide (cal tk cl t < cal tk cl (t + 1))
abbrev MistV (tk cl : List Nat) (m : Nat) : V → Prop := FirstV (calls tk cl) (mex tk cl m)
def spFm (K : PySem.W.Frag) (C : Addr) : Sp := fun vs H Q _ => ∃ (h lp : Addr) (m lt : Nat) (tk cl : List Nat), vs = [.ref h] ∧ HallAt C H h m tk cl lt lp ∧ Tabs (TT K) H ∧ ∀ v H', Ext K H H' → MistV tk cl m v → Q v H'
def spDig : Sp := fun vs H Q _ => ∃ (d m : Nat), vs = [vn d, vn m] ∧ d < m ∧ Q .non H
section
variable {P : Program} {w : World} {K : PySem.W.Frag} {mg : Str → Option Value} {base : Heap}
theorem wt_step {tk cl : List Nat} (h1 : Pat tk) (h2 : Pat cl) {t : Nat} (ht : per tk cl ≤ t) : wt tk cl (t + 1 + per tk cl) = wt tk cl (t + 1) + grow tk cl := by
  have z := opn_step h1 h2 (lt := 0) (t := t) (by omega)
  have a := opn_add (tk := tk) (cl := cl) (lt := 0) t
  have b := opn_add (tk := tk) (cl := cl) (lt := 0) (t + per tk cl)
  have p0 := per_pos h1.pos h2.pos
  have c1 := cal_per (tk := tk) (cl := cl) p0 per_tk per_cl (t := t) ht
  have c2 := cal_per (tk := tk) (cl := cl) p0 per_tk per_cl (t := t + 1) (by omega)
  have w1 := wt_cal (tk := tk) (cl := cl) (t + 1)
  have w2 := wt_cal (tk := tk) (cl := cl) (t + 1 + per tk cl)
  rw [Nat.sub_zero] at a b
  rw [show t + per tk cl + 1 = t + 1 + per tk cl by omega] at b
  omega
theorem mex_step {tk cl : List Nat} (h1 : Pat tk) (h2 : Pat cl) {m t : Nat} (ht : per tk cl ≤ t) : mex tk cl m (t + per tk cl) = mex tk cl m t + (grow tk cl : Int) := by
  have z := opn_step h1 h2 (lt := 0) (t := t) (by omega)
  have a := opn_add (tk := tk) (cl := cl) (lt := 0) t
  have b := opn_add (tk := tk) (cl := cl) (lt := 0) (t + per tk cl)
  have w := wt_step h1 h2 ht
  rw [Nat.sub_zero] at a b
  unfold mex
  rw [show t + per tk cl + 1 = t + 1 + per tk cl by omega] at b ⊢
  omega
theorem calls_step {tk cl : List Nat} (h1 : Pat tk) (h2 : Pat cl) {t : Nat} (ht : per tk cl ≤ t) : calls tk cl (t + per tk cl) = calls tk cl t := by
  have p0 := per_pos h1.pos h2.pos
  have c1 := cal_per (tk := tk) (cl := cl) p0 per_tk per_cl (t := t) ht
  have c2 := cal_per (tk := tk) (cl := cl) p0 per_tk per_cl (t := t + 1) (by omega)
  unfold calls
  rw [show t + per tk cl + 1 = t + 1 + per tk cl by omega]
  exact decide_eq_decide.mpr (by omega)
end
theorem opn_up1 {tk cl : List Nat} (h1 : Pat tk) {lt t : Nat} : opn tk cl lt (t + 1) ≤ opn tk cl lt t + 9 := by
  have a := opn_add (tk := tk) (cl := cl) (lt := lt) t
  have b := opn_add (tk := tk) (cl := cl) (lt := lt) (t + 1)
  have c := cal_mono (tk := tk) (cl := cl) (show t - lt ≤ t + 1 - lt by omega)
  have d : tak tk (t + 1 + 1) = tak tk (t + 1) + atp tk (t + 1) := rfl
  have e := atp_le h1.nine (t + 1)
  omega
theorem clash_grow {tk cl : List Nat} (h1 : Pat tk) (h2 : Pat cl) {lt m : Nat} (h : ∀ t, opn tk cl lt t ≤ m) : grow tk cl = 0 := by
  refine Nat.eq_zero_of_not_pos fun g => ?_
  have s := opn_steps h1 h2 (lt := lt) (t := per tk cl + lt) (Nat.le_refl _) (m + 1)
  have := h (per tk cl + lt + (m + 1) * per tk cl)
  have : (m + 1) * 1 ≤ (m + 1) * grow tk cl := Nat.mul_le_mul_left _ g
  omega
theorem clash_bound {tk cl : List Nat} (h1 : Pat tk) (h2 : Pat cl) {lt m t : Nat} (hm : m ≤ 10000) (hl : lt ≤ 99) (a : m < opn tk cl lt t) (b : ∀ s, s < t → opn tk cl lt s ≤ m) : t ≤ 2000000 ∧ opn tk cl lt t ≤ m + 9 := by
  have p0 := per_pos h1.pos h2.pos
  have p144 := per_144 h1 h2
  refine ⟨Nat.le_of_not_lt fun ge => ?_, ?_⟩
  · by_cases g : grow tk cl = 0
    · have s := opn_step h1 h2 (lt := lt) (t := t - per tk cl) (by omega)
      rw [show t - per tk cl + per tk cl = t by omega, g] at s
      have := b (t - per tk cl) (by omega)
      omega
    · have hq : 10002 * per tk cl ≤ 10002 * 144 := Nat.mul_le_mul_left _ p144
      have s := opn_steps h1 h2 (lt := lt) (t := t - 10002 * per tk cl) (by omega) 10001
      have := b (t - 10002 * per tk cl + 10001 * per tk cl) (by omega)
      have : 10001 * 1 ≤ 10001 * grow tk cl := Nat.mul_le_mul_left _ (by omega)
      omega
  · cases t with
    | zero =>
      have := opn_le (cl := cl) h1 (l := lt) (t := 0)
      omega
    | succ t =>
      have := opn_up1 (cl := cl) h1 (lt := lt) (t := t)
      have := b t (by omega)
      omega
theorem resL_cons {a b d m : Nat} (hm : 0 < m) (e : a % m = d) (h : a < b) : resL a b d m = a :: resL (a + m) b d m := by
  have hd : d < m := by rw [← e]; exact Nat.mod_lt _ hm
  have z : (d + (m - a % m)) % m = 0 := by
    rw [e, show d + (m - d) = m by omega, Nat.mod_self]
  have z2 : (d + (m - (a + m) % m)) % m = 0 := by
    rw [Nat.add_mod_right]
    exact z
  rw [res_steps hm hd, res_steps hm hd, z, z2, Nat.add_zero, Nat.add_zero]
  rw [show b - a + m - 1 = (b - (a + 1)) + m by omega, Nat.add_div_right _ hm, List.range_succ_eq_map, List.map_cons, List.map_map, Nat.zero_mul, Nat.add_zero]
  congr 1
  have e3 : (b - (a + m) + m - 1) / m = (b - (a + 1)) / m := by
    rcases Nat.lt_or_ge b (a + m) with q | q
    · rw [show b - (a + m) = 0 by omega, Nat.zero_add, Nat.div_eq_of_lt (by omega), Nat.div_eq_of_lt (by omega)]
    · rw [show b - (a + m) + m - 1 = b - (a + 1) by omega]
  rw [e3]
  refine List.map_congr_left fun k _ => ?_
  show a + (k + 1) * m = a + m + k * m
  rw [Nat.add_mul]
  omega
namespace Rd
variable {K : PySem.W.Frag} {H : Hp} {Q : VK} {E : XK} {C h lp : Addr} {m lt : Nat} {tk cl : List Nat}
theorem h_hold {t d : Nat} (hA : HallAt C H h m tk cl lt lp) (ht : t ≤ 400000000000000000) (hd : d < m) (hz : opn tk cl lt t / m ≤ 1000) (k : ∀ l H', H l = none → Same H H' → H' l = some (.lst ((resL (cal tk cl (t - lt)) (tak tk (t + 1)) d m).map vn)) → Q (.ref l) H') :
    spHold C [.ref h, .int (t : Int), .int (d : Int)] H Q E := ⟨h, lp, m, lt, t, d, tk, cl, rfl, hA, ht, hd, hz, k⟩
theorem h_mis {t : Nat} (hA : HallAt C H h m tk cl lt lp) (ht : t ≤ 400000000000000000) (hz : wt tk cl (t + 1) / m * (cal tk cl (t + 1) - cal tk cl t) ≤ 1000)
    (k : ∀ l ys H', H l = none → Same H H' → H' l = some (.lst ys) → DpAll K H' ys (misD (cal tk cl t) (cal tk cl (t + 1)) (tak tk (t + 1)) m) → Q (.ref l) H') : spMis K C [.ref h, .int (t : Int)] H Q E := ⟨h, lp, m, lt, t, tk, cl, rfl, hA, ht, hz, k⟩
theorem h_fm (hA : HallAt C H h m tk cl lt lp) (hT : Tabs (TT K) H) (k : ∀ v H', Ext K H H' → MistV tk cl m v → Q v H') : spFm K C [.ref h] H Q E := ⟨h, lp, m, lt, tk, cl, rfl, hA, hT, k⟩
end Rd
end Tk

/-! ### Mistakes: when there are some -/
namespace Tk
open PySem PySem.Spec PyProof.Rows L2 Mm LamX
theorem mem_res {a b d m x : Nat} : x ∈ resL a b d m ↔ a ≤ x ∧ x < b ∧ x % m = d := by
  unfold resL
  rw [List.mem_filter, List.mem_map]
  constructor
  · rintro ⟨⟨i, hi, rfl⟩, h⟩
    have := List.mem_range.mp hi
    exact ⟨by omega, by omega, of_decide_eq_true h⟩
  · rintro ⟨h1, h2, h3⟩
    exact ⟨⟨x - a, List.mem_range.mpr (by omega), by omega⟩, decide_eq_true h3⟩
theorem mem_misP {s c e m n o : Nat} : (n, o) ∈ misP s c e m ↔ s ≤ n ∧ n < c ∧ c ≤ o ∧ o < e ∧ o % m = n % m := by
  unfold misP
  rw [List.mem_flatMap]
  constructor
  · rintro ⟨i, hi, h⟩
    have := List.mem_range.mp hi
    obtain ⟨x, hx, ex⟩ := List.mem_map.mp h
    obtain ⟨rfl, rfl⟩ := Prod.mk.inj ex
    obtain ⟨a1, a2, a3⟩ := mem_res.mp hx
    exact ⟨by omega, by omega, a1, a2, a3⟩
  · rintro ⟨h1, h2, h3, h4, h5⟩
    exact ⟨n - s, List.mem_range.mpr (by omega), List.mem_map.mpr ⟨o, mem_res.mpr ⟨h3, h4, by rw [show s + (n - s) = n by omega]; exact h5⟩, by rw [show s + (n - s) = n by omega]⟩⟩
theorem misP_nil {s c e m : Nat} (h : ¬ (s < c ∧ c < e ∧ m < e - s)) (hm : 0 < m) : misP s c e m = [] := by
  refine List.eq_nil_iff_forall_not_mem.mpr fun ⟨n, o⟩ hx => h ?_
  obtain ⟨h1, h2, h3, h4, h5⟩ := mem_misP.mp hx
  refine ⟨by omega, by omega, ?_⟩
  have e : (o - n) % m = 0 := Nat.sub_mod_eq_zero_of_mod_eq h5
  have := Nat.le_of_dvd (by omega) (Nat.dvd_of_mod_eq_zero e)
  omega
theorem misP_some {s c e m : Nat} (h1 : s < c) (h2 : c < e) (h3 : m < e - s) (hm : 0 < m) : misP s c e m ≠ [] := by
  intro z
  have : (max s (c - m), max s (c - m) + m) ∈ misP s c e m := mem_misP.mpr ⟨by omega, by omega, by omega, by omega, Nat.add_mod_right _ _⟩
  rw [z] at this
  cases this
section
variable {tk cl : List Nat} {m t : Nat}
theorem mex_pos (h : 0 < mex tk cl m t) : cal tk cl (t + 1) < tak tk (t + 1) ∧ m < tak tk (t + 1) - cal tk cl t := by
  unfold mex at h
  have := wt_cal (tk := tk) (cl := cl) (t + 1)
  omega
theorem mex_neg (h : mex tk cl m t ≤ 0) : ¬ (cal tk cl (t + 1) < tak tk (t + 1) ∧ m < tak tk (t + 1) - cal tk cl t) := by
  unfold mex at h
  have := wt_cal (tk := tk) (cl := cl) (t + 1)
  omega
/-- no mistake in a tick -/
theorem mis_none (hm : 0 < m) (h : calls tk cl t = true → mex tk cl m t ≤ 0) : misD (cal tk cl t) (cal tk cl (t + 1)) (tak tk (t + 1)) m = [] ∧ (calls tk cl t = true → wt tk cl (t + 1) ≤ m) := by
  have c0 := cal_mono (tk := tk) (cl := cl) (show t ≤ t + 1 by omega)
  have w := wt_cal (tk := tk) (cl := cl) (t + 1)
  refine ⟨?_, fun hc => ?_⟩
  · rw [misD_map, misP_nil ?_ hm]
    · rfl
    · rintro ⟨a, b, c⟩
      exact mex_neg (h (decide_eq_true a)) ⟨b, c⟩
  · have := mex_neg (h hc)
    omega
theorem none_few (h2 : Pat cl) (hm : 0 < m) (h : calls tk cl t = true → mex tk cl m t ≤ 0) : wt tk cl (t + 1) / m * (cal tk cl (t + 1) - cal tk cl t) ≤ 1000 := by
  by_cases hc : calls tk cl t = true
  · have a := (mis_none hm h).2 hc
    have b : wt tk cl (t + 1) / m ≤ 1 := by
      have := Nat.div_le_div_right (c := m) a
      rwa [Nat.div_self hm] at this
    have c : cal tk cl (t + 1) - cal tk cl t ≤ 9 := by
      rw [cal_succ]
      have := atp_le h2.nine t
      omega
    have := Nat.mul_le_mul b c
    omega
  · have : ¬ cal tk cl t < cal tk cl (t + 1) := fun q => hc (decide_eq_true q)
    rw [show cal tk cl (t + 1) - cal tk cl t = 0 by omega, Nat.mul_zero]
    exact Nat.zero_le _
/-- the waiting ones grow by nine a tick at most -/
theorem wt_ups (h1 : Pat tk) (t : Nat) : ∀ k, wt tk cl (t + k) ≤ wt tk cl t + 9 * k
  | 0 => Nat.le_refl _
  | k + 1 => by
    have := wt_ups h1 t k
    have a := wt_succ (tk := tk) (cl := cl) (t + k)
    have b := atp_le h1.nine (t + k)
    rw [show t + (k + 1) = t + k + 1 by omega]
    omega
theorem atp_back {ps : List Nat} (h : 0 < ps.length) {t s : Nat} (e : t % ps.length = s % ps.length) : atp ps t = atp ps s := by
  unfold atp
  rw [e]
/-- few wait in the first tick with a mistake -/
theorem first_few (h1 : Pat tk) (h2 : Pat cl) (hm : 2 ≤ m) (hc : calls tk cl t = true) (hb : ∀ s, s < t → calls tk cl s = true → mex tk cl m s ≤ 0) : wt tk cl (t + 1) ≤ m + 108 ∧ wt tk cl (t + 1) / m * (cal tk cl (t + 1) - cal tk cl t) ≤ 1000 := by
  have l12 := h2.len
  have l0 := h2.pos
  have at0 : 0 < atp cl t := by
    have : cal tk cl t < cal tk cl (t + 1) := of_decide_eq_true hc
    rw [cal_succ] at this
    omega
  have key : wt tk cl (t + 1) ≤ m + 108 := by
    rcases Nat.lt_or_ge t cl.length with q | q
    · have := wt_ups (cl := cl) h1 0 (t + 1)
      have w0 : wt tk cl 0 = 0 := by
        have := wt_cal (tk := tk) (cl := cl) 0
        have : tak tk 0 = 0 := rfl
        omega
      rw [Nat.zero_add, w0] at this
      omega
    · have e : atp cl (t - cl.length) = atp cl t := atp_back l0 (by
        have := Nat.add_mod_right (t - cl.length) cl.length
        rw [show t - cl.length + cl.length = t by omega] at this
        exact this.symm)
      have up := wt_ups (cl := cl) h1 (t - cl.length + 1) cl.length
      rw [show t - cl.length + 1 + cl.length = t + 1 by omega] at up
      have : wt tk cl (t - cl.length + 1) ≤ m := by
        by_cases hc2 : calls tk cl (t - cl.length) = true
        · exact (mis_none (by omega) fun _ => hb _ (by omega) hc2).2 hc2
        · have n : ¬ cal tk cl (t - cl.length) < cal tk cl (t - cl.length + 1) := fun q => hc2 (decide_eq_true q)
          rw [cal_succ] at n
          rw [wt_succ]
          omega
      omega
  refine ⟨key, ?_⟩
  have c : cal tk cl (t + 1) - cal tk cl t ≤ 9 := by
    rw [cal_succ]
    have := atp_le h2.nine t
    omega
  have d : wt tk cl (t + 1) / m ≤ 59 := by
    refine Nat.div_le_of_le_mul ?_
    have : m * 59 ≥ m + 116 := by omega
    omega
  have := Nat.mul_le_mul d c
  omega
theorem mex_steps (h1 : Pat tk) (h2 : Pat cl) (ht : per tk cl ≤ t) : ∀ k : Nat, mex tk cl m (t + k * per tk cl) = mex tk cl m t + (k : Int) * (grow tk cl : Int) :=
  fun k => step_e (fun _ h => mex_step h1 h2 h) ht k
theorem calls_steps (h1 : Pat tk) (h2 : Pat cl) (ht : per tk cl ≤ t) : ∀ k : Nat, calls tk cl (t + k * per tk cl) = calls tk cl t := fun k => step_k (fun _ h => calls_step h1 h2 h) ht k
theorem mex_low : -(m : Int) ≤ mex tk cl m t := by
  unfold mex
  have := cal_le (tk := tk) (cl := cl) t
  have := tak_mono (tk := tk) (show t ≤ t + 1 by omega)
  omega
theorem mist_bound (h1 : Pat tk) (h2 : Pat cl) (hm : m ≤ 10000) (hc : calls tk cl t = true) (h0 : 0 < mex tk cl m t) (hb : ∀ s, s < t → calls tk cl s = true → mex tk cl m s ≤ 0) : t ≤ 2000000 := by
  refine Nat.le_of_not_lt fun ge => ?_
  have p0 := per_pos h1.pos h2.pos
  have p144 := per_144 h1 h2
  have hq : 10002 * per tk cl ≤ 10002 * 144 := Nat.mul_le_mul_left _ p144
  have back : ∀ k, k ≤ 10002 → per tk cl ≤ t - k * per tk cl ∧ t - k * per tk cl + k * per tk cl = t := fun k hk => by
    have := Nat.mul_le_mul_right (per tk cl) hk
    exact ⟨by omega, by omega⟩
  obtain ⟨b1, b2⟩ := back 10002 (Nat.le_refl _)
  have m1 := mex_steps (m := m) h1 h2 b1 10002
  have c1 := calls_steps h1 h2 b1 10002
  rw [b2] at m1 c1
  have lo := mex_low (tk := tk) (cl := cl) (m := m) (t := t - 10002 * per tk cl)
  by_cases g : grow tk cl = 0
  · have := hb (t - 10002 * per tk cl) (by omega) (by rw [← c1]; exact hc)
    rw [g] at m1
    simp at m1
    omega
  · have m2 := mex_steps (m := m) h1 h2 b1 10001
    have c2 := calls_steps h1 h2 b1 10001
    have := hb (t - 10002 * per tk cl + 10001 * per tk cl) (by omega) (by rw [c2, ← c1]; exact hc)
    have g1 : (1 : Int) ≤ (grow tk cl : Int) := by omega
    have := Int.mul_le_mul_of_nonneg_left g1 (show (0 : Int) ≤ ((10001 : Nat) : Int) by omega)
    omega
/-- a hall that grows and calls has a mistake -/
theorem grow_mist (h1 : Pat tk) (h2 : Pat cl) (g : 0 < grow tk cl) (hs : 0 < cl.sum) (h : ∀ t, calls tk cl t = true → mex tk cl m t ≤ 0) : False := by
  have p0 := per_pos h1.pos h2.pos
  have l0 := h2.pos
  -- a tick with calls
  obtain ⟨i, hi, hx⟩ : ∃ i, i < cl.length ∧ 0 < atp cl i := by
    refine Classical.byContradiction fun no => ?_
    have z : ∀ i, i ≤ cl.length → tak cl i = 0 := fun i => by
      induction i with
      | zero => intro _; rfl
      | succ i ih =>
        intro hi
        have a := ih (by omega)
        have b : ¬ 0 < atp cl i := fun q => no ⟨i, by omega, q⟩
        show tak cl i + atp cl i = 0
        omega
    have e := take_sum cl cl.length (Nat.le_refl _)
    rw [List.take_length, z _ (Nat.le_refl _)] at e
    omega
  obtain ⟨q, hq⟩ := per_cl (tk := tk) (cl := cl)
  have at2 : atp cl (i + 3 * per tk cl) = atp cl i := atp_back l0 (by rw [hq, show 3 * (cl.length * q) = cl.length * (3 * q) by rw [Nat.mul_left_comm], Nat.add_mul_mod_self_left])
  have w2 : 0 < wt tk cl (i + 3 * per tk cl) := by
    have := wt_step h1 h2 (t := i + 2 * per tk cl - 1) (by omega)
    rw [show i + 2 * per tk cl - 1 + 1 + per tk cl = i + 3 * per tk cl by omega] at this
    omega
  have hc : calls tk cl (i + 3 * per tk cl) = true := by
    refine decide_eq_true ?_
    rw [cal_succ, at2]
    omega
  have b1 : per tk cl ≤ i + 3 * per tk cl := by omega
  have := h _ ((calls_steps h1 h2 b1 (m + 1)).trans hc)
  rw [mex_steps h1 h2 b1] at this
  have lo := mex_low (tk := tk) (cl := cl) (m := m) (t := i + 3 * per tk cl)
  have g1 : (1 : Int) ≤ (grow tk cl : Int) := by omega
  have := Int.mul_le_mul_of_nonneg_left g1 (show (0 : Int) ≤ ((m + 1 : Nat) : Int) by omega)
  omega
end
/-- a pair's reading -/
theorem dp_pair {K : PySem.W.Frag} {H : Hp} {v : V} {p : Nat × Nat} (h : L2.Dp K H v (dPair p)) : ∃ r, v = .ref r ∧ SqT K H r [vn p.1, vn p.2] := by
  cases h with
  | tup h1 h2 =>
    cases h2 with
    | cons a b =>
      cases b with
      | cons c d =>
        cases d
        cases a
        cases c
        exact ⟨_, rfl, h1⟩
end Tk
namespace Tk
open PySem PySem.Spec PyProof.Rows L2 Mm LamX
theorem sml_mis {tk cl : List Nat} {m t n : Nat} (h2 : Pat cl) (hm : 0 < m) (hz : wt tk cl (t + 1) / m * (cal tk cl (t + 1) - cal tk cl t) ≤ 1000) : (misD (cal tk cl t) (cal tk cl (t + 1)) (tak tk (t + 1)) m).length ≤ 1009 ∧ Sml (n + 3) (.list (misD (cal tk cl t) (cal tk cl (t + 1)) (tak tk (t + 1)) m)) := by
  have c : cal tk cl (t + 1) - cal tk cl t ≤ 9 := by
    rw [cal_succ]
    have := atp_le h2.nine t
    omega
  have w := wt_cal (tk := tk) (cl := cl) (t + 1)
  have l := misD_len (s := cal tk cl t) (c := cal tk cl (t + 1)) (e := tak tk (t + 1)) (m := m) hm
  rw [show tak tk (t + 1) - cal tk cl (t + 1) = wt tk cl (t + 1) by omega, Nat.mul_add, Nat.mul_one, Nat.mul_comm] at l
  have l2 : (misD (cal tk cl t) (cal tk cl (t + 1)) (tak tk (t + 1)) m).length ≤ 1009 := by omega
  refine ⟨l2, by omega, fun x hx => ?_⟩
  rw [misD_map] at hx
  obtain ⟨p, _, rfl⟩ := List.mem_map.mp hx
  exact ⟨by show 2 ≤ 100000; decide, fun y hy => by
    rcases List.mem_cons.mp hy with rfl | hy
    · trivial
    · rw [List.mem_singleton.mp hy]
      trivial⟩
theorem sml_nil {n : Nat} : Sml (n + 1) (.list []) := ⟨by decide, fun _ h => by cases h⟩
theorem sum_vn (ns : List Nat) : (ns.map fun n : Nat => (n : Int)).sum = ((ns.sum : Nat) : Int) := by
  induction ns with
  | nil => rfl
  | cons x r ih => simp [ih]
end Tk

namespace Tk
open PySem PySem.Spec PyProof.Rows L2 Mm LamX
/-- what holds all along -/
structure Env4 (K : PySem.W.Frag) (C : Addr) (H : Hp) (d : Addr) (cs : List V) (t hh : Addr) (m : Nat) (tp : Addr) (tk : List Nat) (cp : Addr) (cl : List Nat) (lt : Nat) (lp : Addr) : Prop where
  prt : PartsAt H t m tp tk cp cl lt
  hall : HallAt C H hh m tk cl lt lp
  tb : Tabs (TT K) H
  src : H d = some (.lst cs)
section
variable {K : PySem.W.Frag} {C : Addr} {H H' : Hp} {d t hh lp tp cp : Addr} {cs : List V} {m lt : Nat} {tk cl : List Nat}
theorem Env4.ext (e : Env4 K C H d cs t hh m tp tk cp cl lt lp) (b : Ext K H H') : Env4 K C H' d cs t hh m tp tk cp cl lt lp := ⟨e.prt.ext b, e.hall.ext b, b.2, b.lst e.src⟩
theorem Env4.same (e : Env4 K C H d cs t hh m tp tk cp cl lt lp) (b : Same H H') : Env4 K C H' d cs t hh m tp tk cp cl lt lp := e.ext (.of e.tb b)
end
end Tk

/-! ### Errors of decode as data -/
namespace Tk
open PySem PySem.Spec PyProof.Rows L2 Mm LamX
section
variable {K : PySem.W.Frag} {C : Addr} {H : Hp} {Q : VK} {E : XK} {σ : L2.St}
theorem Ext.sameT {H H' : Hp} (e : ExtN H H') (t : Tabs (TT K) H') : Ext K H H' := ⟨e, t⟩
/-- what _law_error_of does with a call -/
theorem Rd.err {t : XK → TE} (ht : Tabs (TT K) H) (k : ∀ H1, Ext K H H1 → ∀ E : XK, (∀ (e : Ex.Er) cls d H', e.Is K cls d H' → (∀ r H'', Same H' H'' → L2.Dp K H'' (.ref r) e.data → Q (.ref r) H'') → E cls d H') → t E σ H1 fun _ H' => Q .non H') : LamX.tLam (TT K) (Ex.TTerr K) t σ H Q :=
  ⟨ht, fun H1 e1 t1 => k H1 ⟨e1, t1⟩ _ fun e cls d H' he kq => ⟨e, he, kq⟩⟩
theorem raise_code {p : Nat} {R : Addr → Hp → Prop} (hE : ∀ (e : Ex.Er) cls d H', e.Is K cls d H' → (∀ r H'', Same H' H'' → L2.Dp K H'' (.ref r) e.data → R r H'') → E cls d H')
    (kq : ∀ r H'', Same H H'' → L2.Dp K H'' (.ref r) (.tuple [.str "code", .int (p : Int)]) → R r H'') : RaisesC K E H p := fun d H' _ S h =>
  hE (.at_ "code" p) _ _ _ ⟨"InvalidCode", "place", by decide, rfl, d, rfl, h⟩ fun r H'' S2 D => kq r H'' (S.trans S2) D
theorem h_decPre {c : Addr} {xs : List V} {pre : List Nat} (hc : H c = some (.lst xs)) (ha : ∀ v ∈ xs, Arg H v) (ht : xs.take pre.length = pre.map vn) (hv : Bt.Vld pre) (hs : Bt.Stop xs pre) (r : RaisesC K E H pre.length) : spDecX K C [.ref c] H Q E :=
  ⟨_, rfl, .lst hc, fun no => absurd rfl (no c xs hc), fun c' xs' e hc' => by
    cases e
    rw [hc] at hc'
    cases hc'
    exact ⟨ha, fun p b => by rw [Bt.bad_at hv ht hs b]; exact r, fun m tk cl lt e hP => absurd e (Bt.not_whole (Bt.vld_enc hP).1 (Bt.vld_enc hP).2 ht hv hs)⟩⟩
theorem h_decNo {v : V} (hv : Arg H v) (no : ∀ c xs, H c = some (.lst xs) → v ≠ .ref c) (r : RaisesC K E H 0) : spDecX K C [v] H Q E :=
  ⟨_, rfl, hv, fun _ => r, fun c xs e hc => absurd e (no c xs hc)⟩
theorem largest : ([V.int 84, V.int 39, V.int 16, V.int 1, V.int 9, V.int 1, V.int 0, V.int 99] ++ [V.int (([84, 39, 16, 1, 9, 1, 0, 99] : List Int).sum % 256)] : List V) = (encN 10000 [9] [0] 99).map vn := by rfl
theorem enc_m {m m' lt lt' : Nat} {tk tk' cl cl' : List Nat} (e : encN m tk cl lt = encN m' tk' cl' lt') : m = m' := by
  unfold encN encH at e
  simp only [List.cons_append, List.cons.injEq] at e
  omega
theorem ne_new2 {H : Hp} {b d : Addr} {cs : List V} (n : H b = none) (hd : H d = some (.lst cs)) : b ≠ d := fun e => by rw [e, hd] at n; cases n
theorem Arg.ext {H H' : Hp} {v : V} (a : Arg H v) (X : Ext K H H') : Arg H' v := by
  cases a with
  | lst e => exact .lst (X.lst e)
  | tup e => exact .tup (X.tup e)
  | _ => constructor
theorem enc_last {m lt : Nat} {tk cl : List Nat} : atI ((encN m tk cl lt).map vn) (-1) = some (vn ((encH m tk cl lt).sum % 256)) := by
  refine at_last (n := (encH m tk cl lt).length) (by unfold encN; simp) ?_
  unfold encN
  rw [List.getElem?_map, List.getElem?_append_right (Nat.le_refl _)]
  simp
theorem args_nat {H : Hp} {ns : List Nat} : ∀ v ∈ ns.map vn, Arg H v := fun v hv => by
  obtain ⟨n, _, rfl⟩ := List.mem_map.mp hv
  exact .int _
theorem h_decGood {c : Addr} {m lt : Nat} {tk cl : List Nat} (hc : H c = some (.lst ((encN m tk cl lt).map vn))) (hP : Parts m tk cl lt) (k : ∀ m2 tk2 cl2 lt2, encN m2 tk2 cl2 lt2 = encN m tk cl lt → ∀ h lp H', Same H H' → HallAt C H' h m2 tk2 cl2 lt2 lp → Q (.ref h) H') : spDecX K C [.ref c] H Q E :=
  ⟨_, rfl, .lst hc, fun no => absurd rfl (no c _ hc), fun c' xs' e hc' => by
    cases e
    rw [hc] at hc'
    cases hc'
    exact ⟨args_nat, fun p b => absurd b (Bt.no_bad (Bt.vld_enc hP).1 (Bt.vld_enc hP).2 rfl), fun m2 tk2 cl2 lt2 e _ h lp H' _ _ S hA => k m2 tk2 cl2 lt2 (Bt.map_inj e).symm h lp H' S hA⟩⟩
end
namespace Bt
theorem lim_range : ∀ {ns : List Nat} {lo hi : Int}, lim ns = some (lo, hi) → 0 ≤ lo ∧ hi ≤ 255
  | [], _, _, h => by cases h; decide
  | [_], _, _, h => by cases h; decide
  | [_, a], _, _, h => by
    have h : some (max (2 - (a : Int) * 256) 0, min (10000 - (a : Int) * 256) 255) = some (_, _) := h
    cases h
    omega
  | [_, _, _], _, _, h => by cases h; decide
  | x :: a :: b :: n :: r, lo, hi, h => by
    rcases Nat.lt_or_ge r.length n with hl | hl
    · rw [lim_tk hl] at h
      cases h
      decide
    · rw [lim_r hl] at h
      revert h
      generalize hs : (((x :: a :: b :: n :: r).sum % 256 : Nat) : Int) = s
      intro h
      have s0 : 0 ≤ s ∧ s ≤ 255 := by omega
      cases e : r.drop n with
      | nil => rw [e] at h; cases h; decide
      | cons c r2 =>
        rw [e] at h
        have h : (if r2.length < c then some ((0 : Int), (9 : Int)) else lim2 s (r2.drop c)) = some (lo, hi) := h
        split at h
        · cases h; decide
        · cases e2 : r2.drop c with
          | nil => rw [e2] at h; cases h; decide
          | cons y r3 =>
            rw [e2] at h
            cases r3 with
            | nil => cases h; exact s0
            | cons _ _ => cases h
/-- a place of whole bytes where something else stands -/
theorem stop_at {c : List Nat} {xs : List V} {p : Nat} (hv : Vld c) (hp : p < c.length) (hb : ∀ lo hi, 0 ≤ lo → hi ≤ 255 → byteAt xs p lo hi = none) : Stop xs (c.take p) := by
  obtain ⟨lo, hi, hl, _⟩ := hv p c[p] (List.getElem?_eq_getElem hp)
  unfold Stop
  rw [hl]
  show byteAt xs (c.take p).length lo hi = none
  rw [List.length_take, Nat.min_eq_left (Nat.le_of_lt hp)]
  exact hb lo hi (lim_range hl).1 (lim_range hl).2
theorem byte_none {xs : List V} {p : Nat} {v : V} {lo hi : Int} (h : xs[p]? = some v) (hb : inB lo hi v = false) : byteAt xs p lo hi = none := by
  unfold byteAt
  rw [h]
  show (if inB lo hi v = true then some v else none) = none
  rw [hb]
  rfl
def vldB (ns : List Nat) : Bool := (List.range ns.length).all fun q => match lim (ns.take q), ns[q]? with
  | some (lo, hi), some x => decide (lo ≤ (x : Int)) && decide ((x : Int) ≤ hi)
  | _, _ => false
theorem vld_by {ns : List Nat} (h : vldB ns = true) : Vld ns := fun q x hx => by
  have hq := (List.getElem?_eq_some_iff.mp hx).1
  have := List.all_eq_true.mp h q (List.mem_range.mpr hq)
  rw [hx] at this
  cases e : lim (ns.take q) with
  | none => rw [e] at this; cases this
  | some lh =>
    obtain ⟨lo, hi⟩ := lh
    rw [e] at this
    have this : (decide (lo ≤ (x : Int)) && decide ((x : Int) ≤ hi)) = true := this
    simp only [Bool.and_eq_true, decide_eq_true_eq] at this
    exact ⟨lo, hi, rfl, this.1, this.2⟩
/-- bytes that are bad at p -/
def badB (b : List Nat) (p : Nat) : Bool := vldB (b.take p) && match lim (b.take p), b[p]? with
  | some (lo, hi), some x => !(decide (lo ≤ (x : Int)) && decide ((x : Int) ≤ hi))
  | _, _ => false
theorem bad_by {b r : List Nat} {p : Nat} (h : badB b p = true) : (b.take p).length = p ∧ Vld (b.take p) ∧ ((b ++ r).map vn).take (b.take p).length = (b.take p).map vn ∧ Stop ((b ++ r).map vn) (b.take p) := by
  unfold badB at h
  rw [Bool.and_eq_true] at h
  obtain ⟨h1, h2⟩ := h
  cases e : lim (b.take p) with
  | none => rw [e] at h2; cases h2
  | some lh =>
    obtain ⟨lo, hi⟩ := lh
    cases ex : b[p]? with
    | none => rw [e, ex] at h2; cases h2
    | some x =>
      rw [e, ex] at h2
      have h2 : (!(decide (lo ≤ (x : Int)) && decide ((x : Int) ≤ hi))) = true := h2
      have hp := (List.getElem?_eq_some_iff.mp ex).1
      have el : (b.take p).length = p := by rw [List.length_take]; omega
      refine ⟨el, vld_by h1, ?_, ?_⟩
      · rw [el, ← List.map_take, List.take_append_of_le_length (Nat.le_of_lt hp)]
      · unfold Stop
        rw [e]
        show byteAt _ (b.take p).length lo hi = none
        rw [el, byte_eq (x := x) (by rw [List.getElem?_map, List.getElem?_append_left hp, ex]; rfl), if_neg]
        rintro ⟨a1, a2⟩
        simp [a1, a2] at h2
end Bt
namespace Rd
variable {K : PySem.W.Frag} {C : Addr} {H : Hp} {Q : VK} {E : XK} {σ : L2.St}
theorem ne_code {r q : Addr} {p : Nat} {i : Int} (D : L2.Dp K H (.ref r) (.tuple [.str "code", .int (p : Int)])) (hq : H q = some (.tup [.str "code", .int i])) (e : i = (p : Int)) (k : Q (.bl false) H) : rNeD K (.ref r) (.ref q) H Q := by
  subst e
  have sm : Sml 8 (Ex.Er.at_ "code" (p : Int)).data := (Ex.Er.sml (n := 5) (e := .at_ "code" (p : Int)) (show ("code" : Str) ∈ Ex.ats.map (·.2.1) from by decide)).up (by decide)
  refine ned (d := .tuple [.str "code", .int (p : Int)]) (e := .tuple [.str "code", .int (p : Int)]) D (.tup (SqT.of hq) (.cons (.str _) (.cons (.int _) .nil))) sm sm ?_
  simp only [decide_true, Bool.not_true]
  exact k
/-- [_law_below(d, lim) for i in range(n)] -/
theorem lc_draw {n i1 j : Nat} {lim : Int} {d : Addr} {cs : List V} {vs : List Nat} (hd : H d = some (.lst cs)) (hcs : DSt cs) (hn : n ≤ 1000) (h0 : 0 < lim) (h1 : lim < 1073741824) (hw1 : ∀ v : V, wipe ((wipe σ vs).set i1 (some v)) vs = wipe σ vs) (hj : ∀ v : V, ((wipe σ vs).set i1 (some v))[j]? = some (some (.ref d)))
    (k : ∀ (D : Addr) (ys : List Nat) H' cs', H D = none → D ≠ d → But d H H' → H' d = some (.lst cs') → DSt cs' → H' D = some (.lst (ys.map vn)) → ys.length = n → Q (.ref D) H') :
    lcK (gName i1) tYes (tCall spBelow [] E (tCons (tVar j) (tCons (tC (.int lim)) tNil))) vs σ Q (Itr 0 n) H := fun D hD => by
  have dD : d ≠ D := fun q => by rw [q, hD] at hd; cases hd
  refine lc_range (lo := 0) (n := n) (fun i H2 => But d H H2 ∧ ∃ cs' ys, H2 d = some (.lst cs') ∧ DSt cs' ∧ (ys : List Nat).length = i ∧ H2 D = some (.lst (ys.map vn)))
    ⟨But.new hD, cs, [], by rw [upd_ne dD]; exact hd, hcs, rfl, upd_same⟩ ?_ fun H2 ⟨B2, cs', ys, e1, e2, e3, e4⟩ => k D ys H2 cs' hD dD.symm B2 e1 e2 e4 e3
  rintro i H2 hi ⟨B2, cs', ys, e1, e2, e3, e4⟩
  refine ⟨hw1 _, yes (ift (call (cons (var (hj _) (cons (c (nil ?_)))))))⟩
  refine h_below e1 e2 h0 h1 fun r H3 c3 _ B3 hd3 hc3 => ⟨_, B3 _ _ dD.symm e4, Nat.lt_of_le_of_lt (m := 1000) (by rw [List.length_map]; omega) (by decide), fun b o nb e => ?_, c3, ys ++ [r], ?_, hc3, by simp [e3], ?_⟩
  · rw [upd_ne (ne_of_none e hD)]
    exact B3 _ _ nb (B2 _ _ nb e)
  · rw [upd_ne dD]
    exact hd3
  · rw [upd_same, List.map_append]
    rfl
end Rd
end Tk

section
local macro_rules | `(tactic| walk_at "hp") => `(tactic| first
  | assumption
  | with_reducible exact L2.upd_same
  | ((with_reducible refine' Tk.Same.get ?k0 ?k1); (case k0 => assumption); (case k1 => walk_at "hp"))
  | fail "hp")
local macro_rules | `(tactic| walk_at "same") => `(tactic| first
  | assumption
  | exact L2.Same.refl _
  | ((with_reducible refine' Tk.Same.nw ?k0 ?k1); (case k0 => assumption); (case k1 => walk_at "same"))
  | ((with_reducible refine' Tk.Same.tr ?k0 ?k1); (case k0 => assumption); (case k1 => walk_at "same")))
local macro_rules | `(tactic| walk_at "sql") => `(tactic| first
  | assumption
  | ((with_reducible refine' L2.SqL.of ?k0); (case k0 => walk_at "hp"))
  | ((with_reducible refine' L2.Same.seq ?k0 ?k1); (case k0 => assumption); (case k1 => walk_at "sql")))
local macro_rules | `(tactic| walk_at "sqt") => `(tactic| first
  | assumption
  | ((with_reducible refine' L2.SqT.of ?k0); (case k0 => walk_at "hp"))
  | ((with_reducible refine' Tk.sqt_sm ?k0 ?k1); (case k0 => assumption); (case k1 => walk_at "sqt")))
local macro_rules | `(tactic| walk_at "sz") => `(tactic| first
  | (show (_ : Nat) ≤ 1000; decide)
  | (simp; done)
  | (simp; omega))
local macro_rules | `(tactic| walk_at "szb") => `(tactic| first
  | assumption
  | (show (_ : Nat) ≤ 100000; decide)
  | (simp; done)
  | (simp; omega))
local macro_rules | `(tactic| walk_at "dp") => `(tactic| first
  | assumption
  | with_reducible exact L2.Dp.non
  | with_reducible exact L2.Dp.int _
  | with_reducible exact L2.Dp.str _
  | with_reducible exact L2.Dp.bl _
  | ((with_reducible refine' L2.Dp.lst ?k0 ?k1); (case k0 => walk_at "sql"); (case k1 => walk_at "dpa"))
  | ((with_reducible refine' L2.Dp.tup ?k0 ?k1); (case k0 => walk_at "sqt"); (case k1 => walk_at "dpa"))
  | ((with_reducible refine' Tk.dp_sm ?k0 ?k1); (case k0 => assumption); (case k1 => walk_at "dp"))
  | fail "dp")
local macro_rules | `(tactic| walk_at "dpa") => `(tactic| first
  | assumption
  | with_reducible exact L2.DpAll.nil
  | ((with_reducible refine' L2.DpAll.cons ?k0 ?k1); (case k0 => walk_at "dp"); (case k1 => walk_at "dpa"))
  | with_reducible exact Tk.dp_nats _
  | ((with_reducible refine' Tk.dpA_sm ?k0 ?k1); (case k0 => assumption); (case k1 => walk_at "dpa"))
  | fail "dpa")
local macro_rules | `(tactic| walk_at "ci") => `(tactic| first
  | exact .inl ⟨by decide, by decide⟩
  | exact .inr ⟨by decide, by decide⟩
  | exact .inl ⟨by omega, by omega⟩
  | exact .inr ⟨by omega, by omega⟩
  | exact ⟨by decide, by decide⟩
  | exact ⟨by omega, by omega⟩
  | (show (0 : Int) < _; decide)
  | (show (0 : Int) < _; omega))
local macro_rules | `(tactic| walk_at "rd1") => `(tactic| first
  | with_reducible refine Tk.Rd.seq ?_
  | with_reducible refine Tk.Rd.star ?_
  | with_reducible refine Tk.Rd.int1_i ?_
  | with_reducible refine Tk.Rd.int1_b ?_
  | with_reducible refine Tk.Rd.tlc2 ?_
  | with_reducible refine Tk.Rd.lrg3 ?_
  | with_reducible refine Tk.Rd.lrg ?_
  | with_reducible refine Tk.Rd.rg1 ?_
  | with_reducible refine Tk.Rd.rg1K_i ?_
  | with_reducible refine Tk.Rd.rg2 ?_
  | with_reducible refine Tk.Rd.rg2K_i ?_
  | ((with_reducible refine' Tk.Rd.catL ?k0 ?k1 ?k2 fun p H' np S hp => ?_); (case k0 => walk_at "hp"); (case k1 => walk_at "hp"); (case k2 => walk_at "szb"))
  | ((with_reducible refine' Tk.Rd.starK_t ?k0 ?_); (case k0 => walk_at "sqt"))
  | ((with_reducible refine' Tk.Rd.starK_l ?k0 ?_); (case k0 => walk_at "sql"))
  | ((with_reducible refine' Tk.Rd.var ?k0 ?_); (case k0 => exact rfl))
  | with_reducible refine Tk.Rd.c ?_
  | with_reducible refine Tk.Rd.op ?_
  | with_reducible refine Tk.Rd.i0 ?_
  | with_reducible refine Tk.Rd.asg ?_
  | with_reducible refine Tk.Rd.name ?_
  | with_reducible refine Tk.Rd.cons ?_
  | with_reducible refine Tk.Rd.nil ?_
  | with_reducible refine Tk.Rd.call ?_
  | with_reducible refine Tk.Rd.callK_i ?_
  | with_reducible refine Tk.Rd.tst ?_
  | with_reducible refine Tk.Rd.bv ?_
  | with_reducible refine Tk.Rd.toB_i ?_
  | with_reducible refine Tk.Rd.ift ?_
  | with_reducible refine Tk.Rd.iff ?_
  | with_reducible refine Tk.Rd.ifnt ?_
  | with_reducible refine Tk.Rd.ifnf ?_
  | with_reducible refine Tk.Rd.not ?_
  | with_reducible refine Tk.Rd.and ?_
  | with_reducible refine Tk.Rd.or ?_
  | with_reducible refine Tk.Rd.andV ?_
  | with_reducible refine Tk.Rd.andK_i ?_
  | with_reducible refine Tk.Rd.orV ?_
  | with_reducible refine Tk.Rd.orK_i ?_
  | with_reducible refine Tk.Rd.notV ?_
  | with_reducible refine Tk.Rd.notK_i ?_
  | with_reducible refine Tk.Rd.tif ?_
  | with_reducible refine Tk.Rd.yes ?_
  | with_reducible refine Tk.Rd.tfor ?_
  | with_reducible refine Tk.Rd.tlc ?_
  | with_reducible refine Tk.Rd.rng ?_
  | ((with_reducible refine' Tk.Rd.rngK_n ?k0 ?_); (case k0 => first | decide | omega))
  | ((with_reducible refine' Tk.Rd.rngK_lit ?k0 ?_); (case k0 => decide))
  | with_reducible refine Tk.Rd.rng2 ?_
  | with_reducible refine Tk.Rd.rng3 ?_
  | with_reducible refine Tk.Rd.ilist ?_
  | with_reducible refine Tk.Rd.zip ?_
  | with_reducible refine Tk.Rd.itup ?_
  | ((with_reducible refine' Tk.Rd.listK_i ?k0 ?_); (case k0 => walk_at "sql"))
  | ((with_reducible refine' Tk.Rd.ituK_i ?k0 ?_); (case k0 => walk_at "sqt"))
  | with_reducible refine Tk.Rd.chain ?_
  | with_reducible refine Tk.Rd.chainL_i ?_
  | with_reducible refine Tk.Rd.un ?_
  | with_reducible refine Tk.Rd.u1 ?_
  | ((with_reducible refine' Tk.Rd.i1 ?k0 ?_); (case k0 => walk_at "ci"))
  | ((with_reducible refine' Tk.Rd.eq ?k0 ?_); (case k0 => exact rfl))
  | ((with_reducible refine' Tk.Rd.ne ?k0 ?_); (case k0 => exact rfl))
  | with_reducible refine Tk.Rd.isN ?_
  | with_reducible refine Tk.Rd.notN ?_
  | with_reducible refine Tk.Rd.fld ?_
  | with_reducible refine Tk.Rd.meth ?_
  | with_reducible refine Tk.Rd.prop ?_
  | with_reducible refine Tk.Rd.cb ?_
  | with_reducible refine Tk.Rd.bm ?_
  | with_reducible refine Tk.Rd.m0 ?_
  | with_reducible refine Tk.Rd.m0K_i ?_
  | with_reducible refine Tk.Rd.m1 ?_
  | with_reducible refine Tk.Rd.m1K_i ?_
  | with_reducible refine Tk.Rd.tup ?_
  | ((with_reducible refine' Tk.Rd.tupK_i ?k0 fun p H' np S hp => ?_); (case k0 => walk_at "sz"))
  | with_reducible refine Tk.Rd.lst ?_
  | ((with_reducible refine' Tk.Rd.lstK_i ?k0 fun p H' np S hp => ?_); (case k0 => walk_at "sz"))
  | ((with_reducible refine' Tk.Rd.ixF ?k0 ?k1 ?_); (case k0 => walk_at "hp"); (case k1 => omega))
  | ((with_reducible refine' Tk.Rd.ixF1 ?k0 ?k1 ?_); (case k0 => walk_at "hp"); (case k1 => omega))
  | ((with_reducible refine' Tk.Rd.ixT ?k0 ?k1 ?_); (case k0 => walk_at "sqt"); (case k1 => exact rfl))
  | ((with_reducible refine' Tk.Rd.ixL ?k0 ?k1 ?_); (case k0 => walk_at "sql"); (case k1 => exact rfl))
  | ((with_reducible refine' Tk.Rd.lenL ?k0 ?_); (case k0 => walk_at "sql"))
  | ((with_reducible refine' Tk.Rd.lenT ?k0 ?_); (case k0 => walk_at "sqt"))
  | ((with_reducible refine' Tk.Rd.lenS ?k0 ?_); (case k0 => first | assumption | omega | (simp; omega)))
  | ((with_reducible refine' Tk.Rd.slTr ?k0 fun p H' S hp => ?_); (case k0 => walk_at "hp"))
  | ((with_reducible refine' Tk.Rd.slT ?k0 fun p H' S hq => ?_); (case k0 => walk_at "sqt"))
  | ((with_reducible refine' Tk.Rd.catTr ?k0 ?k1 ?k2 fun p H' S hp => ?_); (case k0 => walk_at "hp"); (case k1 => walk_at "hp"); (case k2 => walk_at "sz"))
  | ((with_reducible refine' Tk.Rd.catA ?k0 ?k1 ?k2 ?k3 ?k4 fun p H' np S hp => ?_); (case k0 => walk_at "sqt"); (case k1 => walk_at "sqt"); (case k2 => simp); (case k3 => simp); (case k4 => first | (simp; done) | (simp; omega)))
  | with_reducible refine Tk.Rd.make ?_
  | ((with_reducible refine' Tk.Rd.tplL ?k0 fun q H' nq S hq => ?_); (case k0 => walk_at "sql"))
  | ((with_reducible refine' Tk.Rd.lstL ?k0 fun q H' nq S hq => ?_); (case k0 => walk_at "sql"))
  | ((with_reducible refine' Tk.Rd.lstT ?k0 fun q H' nq S hq => ?_); (case k0 => walk_at "sqt"))
  | ((with_reducible refine' Tk.Rd.join ?k0 ?k1 ?_); (case k0 => walk_at "sql"); (case k1 => first | assumption | omega))
  | with_reducible refine Tk.Rd.mx ?_
  | with_reducible refine Tk.Rd.mn ?_
  | with_reducible refine Tk.Rd.noPart ?_
  | with_reducible refine Tk.Rd.part ?_
  | with_reducible refine Tk.Rd.partK_i ?_
  | with_reducible refine Tk.Rd.slc ?_
  | ((with_reducible refine' Tk.Rd.gtup ?k0 ?k1 ?_); (case k0 => walk_at "sqt"); (case k1 => exact rfl))
  | ((with_reducible refine' Tk.Rd.glst ?k0 ?k1 ?_); (case k0 => walk_at "sql"); (case k1 => exact rfl))
  | with_reducible refine Tk.Rd.gcons ?_
  | with_reducible refine Tk.Rd.gnil ?_
  | with_reducible refine Tk.Rd.next ?_
  | with_reducible refine Tk.Rd.drop ?_
  | with_reducible refine Tk.Rd.ret ?_
  | with_reducible refine Tk.Rd.retN ?_
  | with_reducible refine Tk.Rd.par ?_
  | with_reducible refine Tk.Rd.parK_i ?_
  | with_reducible refine Tk.Rd.par3 ?_
  | with_reducible refine Tk.Rd.par3K_i ?_
  | ((with_reducible refine' Tk.Rd.aug ?k0 ?_); (case k0 => exact rfl))
  | with_reducible refine Tk.Rd.ip ?_
  | ((with_reducible refine' Tk.Rd.bmK_l ?k0 ?_); (case k0 => walk_at "sql"))
  | ((with_reducible refine' Tk.Rd.addS ?k0 ?_); (case k0 => walk_at "sz"))
  | fail "rd1")
local macro_rules | `(tactic| walk_at "rd1i") => `(tactic| first
  | walk_at "rd1"
  | with_reducible refine Tk.Rd.ifS ?_
  | fail "rd1i")
local macro_rules | `(tactic| walk_at "rd") => `(tactic| (repeat' walk_at "rd1i"))
local macro_rules | `(tactic| walk_at "rs") => `(tactic| ((repeat' walk_at "rd1"); (try dsimp only)))
local macro_rules | `(tactic| walk_at "hall") => `(tactic| first
  | assumption
  | ((with_reducible refine' Tk.HallAt.sm ?k0 ?k1); (case k0 => assumption); (case k1 => walk_at "hall"))
  | fail "hall")
local macro_rules | `(tactic| walk_at "parts") => `(tactic| first
  | assumption
  | ((with_reducible refine' Tk.PartsAt.sm ?k0 ?k1); (case k0 => assumption); (case k1 => walk_at "parts"))
  | fail "parts")
local macro_rules | `(tactic| walk_at "sm") => `(tactic| first
  | assumption
  | exact Tk.Sm.int rfl
  | exact Tk.Sm.flat1 rfl
  | ((with_reducible refine' Tk.Sm.sm ?k0 ?k1); (case k0 => assumption); (case k1 => walk_at "sm"))
  | fail "sm")
local macro_rules | `(tactic| walk_at "rd1") => `(tactic| first
  | ((with_reducible refine' Tk.Rd.f_modulus ?k0 ?k1 ?_); (case k0 => assumption); (case k1 => walk_at "hall"))
  | ((with_reducible refine' Tk.Rd.f_lateness ?k0 ?k1 ?_); (case k0 => assumption); (case k1 => walk_at "hall"))
  | ((with_reducible refine' Tk.Rd.f_takes ?k0 ?k1 fun tp htp => ?_); (case k0 => assumption); (case k1 => walk_at "hall"))
  | ((with_reducible refine' Tk.Rd.f_calls ?k0 ?k1 fun cp hcp => ?_); (case k0 => assumption); (case k1 => walk_at "hall"))
  | ((with_reducible refine' Tk.Rd.h_meth ?k0 ?k1 ?_); (case k0 => walk_at "hall"); (case k1 => decide +kernel))
  | ((with_reducible refine' Tk.Rd.h_prop ?k0 ?_); (case k0 => walk_at "hall"))
  | ((with_reducible refine' Tk.Rd.h_taken0 ?k0 fun H' S => ?_); (case k0 => walk_at "hall"))
  | ((with_reducible refine' Tk.Rd.h_taken1 ?k0 fun H' S => ?_); (case k0 => walk_at "hall"))
  | ((with_reducible refine' Tk.Rd.h_takenL ?k0 fun H' S => ?_); (case k0 => walk_at "hall"))
  | ((with_reducible refine' Tk.Rd.h_called0 ?k0 ?_); (case k0 => walk_at "hall"))
  | ((with_reducible refine' Tk.Rd.h_called1 ?k0 ?_); (case k0 => walk_at "hall"))
  | ((with_reducible refine' Tk.Rd.h_calledL ?k0 ?_); (case k0 => walk_at "hall"))
  | ((with_reducible refine' Tk.Rd.h_waiting ?k0 ?k1 fun H' S => ?_); (case k0 => walk_at "hall"); (case k1 => omega))
  | ((with_reducible refine' Tk.Rd.h_growth ?k0 fun H' S => ?_); (case k0 => walk_at "hall"))
  | ((with_reducible refine' Tk.Rd.h_period ?k0 ?_); (case k0 => walk_at "hall"))
  | ((with_reducible refine' Tk.Rd.h_lhall ?k0 fun h lp H' nh nl S hA => ?_); (case k0 => walk_at "parts"))
  | ((with_reducible refine' Tk.Rd.h_length ?k0 ?_); (case k0 => walk_at "parts"))
  | ((with_reducible refine' Tk.Rd.h_counts ?k0 ?k1 fun r a b H' nr na nb nab S hr ha hb => ?_); (case k0 => walk_at "parts"); (case k1 => omega))
  | ((with_reducible refine' Tk.Rd.h_countsL ?k0 ?k1 fun r a b H' nr na nb nab S hr ha hb => ?_); (case k0 => walk_at "parts"); (case k1 => decide))
  | ((with_reducible refine' Tk.Rd.h_make ?k0 ?k1 ?k2 fun h lp H' nh nl S hA => ?_); (case k0 => assumption); (case k1 => walk_at "hp"); (case k2 => walk_at "hp"))
  | ((with_reducible refine' Tk.Rd.p_0 ?k0 ?_); (case k0 => walk_at "parts"))
  | ((with_reducible refine' Tk.Rd.p_1 ?k0 fun htp => ?_); (case k0 => walk_at "parts"))
  | ((with_reducible refine' Tk.Rd.p_2 ?k0 fun hcp => ?_); (case k0 => walk_at "parts"))
  | ((with_reducible refine' Tk.Rd.p_3 ?k0 ?_); (case k0 => walk_at "parts"))
  | fail "rd1")
local macro_rules | `(tactic| walk_at "sqt") => `(tactic| first | ((with_reducible refine' Tk.PartsAt.sq ?k0); (case k0 => walk_at "parts")) | fail "sqt")
local macro_rules | `(tactic| walk_at "free") => `(tactic| first
  | assumption
  | ((with_reducible refine' Tk.Same.fr ?k0 ?k1); (case k0 => assumption); (case k1 => walk_at "free")))
local macro_rules | `(tactic| walk_at "hp") => `(tactic| first
  | ((with_reducible refine' Tk.But.gt ?k0 ?k1 ?k2); (case k0 => assumption); (case k1 => assumption); (case k2 => walk_at "hp"))
  | ((with_reducible refine' Tk.But.gl ?k0 ?k1 ?k2); (case k0 => assumption); (case k1 => assumption); (case k2 => walk_at "hp"))
  | fail "hp")
local macro_rules | `(tactic| walk_at "hall") => `(tactic| first | ((with_reducible refine' Tk.HallAt.bt ?k0 ?k1 ?k2 ?k3); (case k0 => assumption); (case k1 => assumption); (case k2 => assumption); (case k3 => walk_at "hall")) | fail "hall")
local macro_rules | `(tactic| walk_at "parts") => `(tactic| first | ((with_reducible refine' Tk.PartsAt.bt ?k0 ?k1 ?k2); (case k0 => assumption); (case k1 => assumption); (case k2 => walk_at "parts")) | fail "parts")
local macro_rules | `(tactic| walk_at "rd1") => `(tactic| first
  | ((with_reducible refine' Tk.Rd.h_below ?k0 ?k1 ?k2 ?k3 fun r H' cs hr B hd hcs => ?_); (case k0 => walk_at "hp"); (case k1 => assumption); (case k2 => first | decide | omega); (case k3 => first | decide | omega))
  | ((with_reducible refine' Tk.Rd.h_parts ?k0 ?k1 ?k2 ?k3 fun t tp cp m lt tk cl H' cs nt B hd hcs hP l1 l2 => ?_); (case k0 => walk_at "hp"); (case k1 => assumption); (case k2 => first | decide | omega); (case k3 => first | decide | omega))
  | ((with_reducible refine' Tk.Rd.h_partsL ?k0 ?k1 ?k2 ?k3 fun t tp cp m lt tk cl H' cs nt B hd hcs hP l1 l2 => ?_); (case k0 => walk_at "hp"); (case k1 => assumption); (case k2 => first | decide | omega); (case k3 => first | decide | omega))
  | ((with_reducible refine' Tk.Rd.h_small ?k0 ?k1 fun t tp cp m lt tk cl H' cs nt B hd hcs hP m1 l1 l2 l3 => ?_); (case k0 => walk_at "hp"); (case k1 => assumption))
  | ((with_reducible refine' Tk.Rd.h_tick ?k0 ?k1 fun t H' cs ht B hd hcs => ?_); (case k0 => walk_at "hp"); (case k1 => assumption))
  | ((with_reducible refine' Tk.Rd.h_mo ?k0 fun v H' S hv => ?_); (case k0 => walk_at "hall"))
  | ((with_reducible refine' Tk.Rd.h_lc ?k0 fun v H' S hv => ?_); (case k0 => walk_at "hall"))
  | ((with_reducible refine' Tk.Rd.h_lm ?k0 fun v H' S hv => ?_); (case k0 => walk_at "hall"))
  | ((with_reducible refine' Tk.Rd.h_gl ?k0 fun v H' S hv => ?_); (case k0 => walk_at "hall"))
  | ((with_reducible refine' Tk.Rd.h_ot ?k0 ?k1 fun r H' nr S hr => ?_); (case k0 => walk_at "hall"); (case k1 => first | assumption | omega))
  | ((with_reducible refine' Tk.Rd.h_most2 ?k0 fun v H' S hv => ?_); (case k0 => walk_at "parts"))
  | ((with_reducible refine' Tk.Rd.h_opens2L ?k0 ?k1 fun l ys H' nl S hl hlen hR => ?_); (case k0 => walk_at "parts"); (case k1 => decide))
  | ((with_reducible refine' Tk.Rd.h_opens2 ?k0 ?k1 fun l ys H' nl S hl hlen hR => ?_); (case k0 => walk_at "parts"); (case k1 => first | decide | omega))
  | fail "rd1")
local macro_rules | `(tactic| walk_at "ok") => `(tactic| first
  | assumption
  | ((with_reducible refine' Tk.HallAt.ok ?k0); (case k0 => walk_at "hall"))
  | ((with_reducible refine' Tk.PartsAt.ok ?k0); (case k0 => walk_at "parts"))
  | fail "ok")
local macro_rules | `(tactic| walk_at "sml") => `(tactic| first
  | exact Tk.Sml.ints (by walk_at "szb")
  | exact Tk.Sml.intsT (by walk_at "szb")
  | trivial
  | (simp [Tk.Sml]; done)
  | (simp [Tk.Sml]; omega)
  | fail "sml")
local macro_rules | `(tactic| walk_at "rd1") => `(tactic| first
  | ((with_reducible refine' Tk.Rd.nT ?k0 ?_); (case k0 => with_reducible exact rfl))
  | ((with_reducible refine' Tk.Rd.dT ?k0 ?_); (case k0 => with_reducible exact rfl))
  | with_reducible refine Tk.Rd.nF Tk.Rd.int_non ?_
  | with_reducible refine Tk.Rd.nF Tk.Rd.ref_non ?_
  | with_reducible refine Tk.Rd.dF Tk.Rd.int_non ?_
  | with_reducible refine Tk.Rd.dF Tk.Rd.ref_non ?_
  | ((with_reducible refine' Tk.Rd.h_disp ?k0 ?k1 ?_); (case k0 => first | assumption | omega); (case k1 => walk_at "hall"))
  | ((with_reducible refine' Tk.Rd.h_hold ?k0 ?k1 ?k2 ?k3 fun l H' nl S hl => ?_); (case k0 => walk_at "hall"); (case k1 => first | assumption | omega); (case k2 => first | assumption | omega); (case k3 => first | assumption | omega))
  | ((with_reducible refine' Tk.Rd.h_mis ?k0 ?k1 ?k2 fun l ys H' nl S hl hd => ?_); (case k0 => walk_at "hall"); (case k1 => first | assumption | omega); (case k2 => first | assumption | omega))
  | ((with_reducible refine' Tk.Rd.h_enc ?k0 fun l H' nl S hl => ?_); (case k0 => walk_at "hall"))
  | ((with_reducible refine' Tk.Rd.h_dec ?k0 ?k1 fun h lp H' nh nl S hA => ?_); (case k0 => walk_at "hp"); (case k1 => walk_at "ok"))
  | ((with_reducible refine' Tk.Rd.h_text ?k0 fun H' S => ?_); (case k0 => walk_at "hall"))
  | ((with_reducible refine' Tk.Rd.h_eqd ?k0 ?k1 ?k2 fun H' S => ?_); (case k0 => walk_at "dp"); (case k1 => walk_at "dp"); (case k2 => walk_at "sml"))
  | ((with_reducible refine' Tk.Rd.eqd ?k0 ?k1 ?k2 ?k3 ?_); (case k0 => walk_at "dp"); (case k1 => walk_at "dp"); (case k2 => walk_at "sml"); (case k3 => walk_at "sml"))
  | ((with_reducible refine' Tk.Rd.ned ?k0 ?k1 ?k2 ?k3 ?_); (case k0 => walk_at "dp"); (case k1 => walk_at "dp"); (case k2 => walk_at "sml"); (case k3 => walk_at "sml"))
  | fail "rd1")
namespace Tk
open PySem PySem.Spec PyProof.Rows L2 Mm LamX
section
variable {P : Program} {w : World} {K : PySem.W.Frag} {mg : Str → Option Value} {base : Heap}
set_option maxHeartbeats 0 in
theorem ok_law (T : Txt K mg) (B : Tbs K mg base) (hP : Ex.PF P) {fd : FuncData} (F : FnP K "law" "law" s_law (He.ga K "law") fd) : FnOk P w K mg base CX0 12 (He.ga K "law") fd ["_law_script"] (spLawT K (TT K)) := by
  have G__law_random : OkF P w K mg base 1 (He.ga K "_law_random") ["_law_script", "_law_salt"] (spRandom K) := ok__law_random T
  have G__law_below : OkF P w K mg base 1 (He.ga K "_law_below") ["_law_d", "_law_limit"] spBelow := ok__law_below T
  have G__law_parts : OkF P w K mg base 3 (He.ga K "_law_parts") ["_law_d", "_law_most"] spParts := ok__law_parts T
  have G__law_hall : OkF P w K mg base 8 (He.ga K "_law_hall") ["_law_parts_here"] (spLHall (He.ga K "Hall")) := ok__law_hall T
  have G_encode : OkF P w K mg base 2 (He.ga K "encode") ["hall"] (spEnc (He.ga K "Hall")) := ok_encode T
  have G_decode : OkF P w K mg base 8 (He.ga K "decode") ["code"] (spDecX K (He.ga K "Hall")) := ok_decodeX T hP
  refine okLawC F sc_law (fun vs H Q E h => ?_) (fun cdv A outer s H vs Q E hcd hr h => ?_)
  · obtain ⟨a, ns, rfl, _⟩ := h
    rfl
  obtain ⟨a, ns, rfl, hS, hlen, hT, k⟩ := h
  have tx : TabX (cxOf CX0 P w K mg base N_law "law" (defScope s_law) (He.ga K "law") cdv A outer s H E) (TT K) := B.tx (p := (fun K => He.ga K "law", "law")) (by simp [mkl]) hcd
  refine ⟨_, (pss_cons (ps_set (i := 8) sc_law.nd rfl (Or.inr rfl) (pe_call G__law_random.one (hr.mono (by decide)) (by rfl) T.g__law_random G__law_random.kp G__law_random.two .nil passL (pa_cons (pv 0) (pa_cons pe_int pa_nil))))
    (pss_cons (ps_set (i := 7) sc_law.nd rfl (Or.inr rfl) (pe_call G_encode.one (hr.mono (by decide)) (by rfl) T.g_encode G_encode.kp G_encode.two .nil passL (pa_cons (pe_call G__law_hall.one (hr.mono (by decide)) (by rfl) T.g__law_hall G__law_hall.kp G__law_hall.two .nil passL (pa_cons (pe_call G__law_parts.one (hr.mono (by decide)) (by rfl) T.g__law_parts G__law_parts.kp G__law_parts.two .nil passL (pa_cons (pv 8) (pa_cons pe_int pa_nil))) pa_nil)) pa_nil)))
    (pss_cons (ps_set (i := 5) sc_law.nd rfl (Or.inr rfl) (pe_call G__law_below.one (hr.mono (by decide)) (by rfl) T.g__law_below G__law_below.kp G__law_below.two .nil passL (pa_cons (pv 8) (pa_cons (pe_callB (lenK (K := K)) (by rfl) T.g_len (by decide +kernel) (pa_cons (pv 7) pa_nil)) pa_nil))))
    (pss_cons (ps_if (pt_cmpR (neDK (K := K) hr.units) (Ex.pe_lamE (k := 9) (by rfl) T.g__law_error_of T.f__law_error_of sc__law_error_of bd__law_error_of (gv__law_error_of T) tx (hr.mono (by decide)) (show LamX.LamS (defScope s_law) _ from LamX.lamS_by (by decide +kernel)) rfl (fun _ _ _ _ _ => rfl) (fun A outer s H E f c' hr => (pe_call (X := LamX.lamCx _ A outer s H E _ f c') G_decode.one (hr.mono (by decide)) (by rfl) T.g_decode G_decode.kp G_decode.two .nil (passes_call (takes_of rfl rfl rfl rfl) fun _ _ _ _ h => h) (pa_cons (pe_slice (slLK (K := K)) (pv 7) po_none (po_some (pv 5))) pa_nil)))) (pe_tup (pa_cons pe_str (pa_cons (pv 5) pa_nil))) (nomark _)) (pss_one (ps_ret pe_bl)) pss_nil)
    (pss_cons (ps_set (i := 9) sc_law.nd rfl (Or.inr rfl) (pe_op op_cat (pv 7) (pe_lc (own := [("_law_k", 13)]) (g := gName 13) (tt := tYes) (by rfl) sc_law.nd (pi_range1 (by rfl) T.g_range (pa_cons (pe_op op_add pe_int (pe_call G__law_below.one (hr.mono (by decide)) (by rfl) T.g__law_below G__law_below.kp G__law_below.two .nil passL (pa_cons (pv 8) (pa_cons pe_int pa_nil)))) pa_nil)) (blkOk_by (own := [("_law_k", 13)]) (N := N_law) (sc := (defScope s_law)) (by decide +kernel)) (fun _ _ _ _ _ => pg_name (i := 13) sc_law.nd rfl (Or.inl rfl)) (fun _ _ _ _ _ => pts_nil) (fun _ _ _ _ _ => (pe_call G__law_below.one (hr.mono (by decide)) (by rfl) T.g__law_below G__law_below.kp G__law_below.two .nil passL (pa_cons (pv 8) (pa_cons pe_int pa_nil)))))))
    (pss_cons (ps_if (pt_cmpR (neDK (K := K) hr.units) (Ex.pe_lamE (k := 9) (by rfl) T.g__law_error_of T.f__law_error_of sc__law_error_of bd__law_error_of (gv__law_error_of T) tx (hr.mono (by decide)) (show LamX.LamS (defScope s_law) _ from LamX.lamS_by (by decide +kernel)) rfl (fun _ _ _ _ _ => rfl) (fun A outer s H E f c' hr => (pe_call (X := LamX.lamCx _ A outer s H E _ f c') G_decode.one (hr.mono (by decide)) (by rfl) T.g_decode G_decode.kp G_decode.two .nil (passes_call (takes_of rfl rfl rfl rfl) fun _ _ _ _ h => h) (pa_cons (pv 9) pa_nil)))) (pe_tup (pa_cons pe_str (pa_cons (pe_callB (lenK (K := K)) (by rfl) T.g_len (by decide +kernel) (pa_cons (pv 7) pa_nil)) pa_nil))) (nomark _)) (pss_one (ps_ret pe_bl)) pss_nil)
    (pss_cons (ps_set (i := 11) sc_law.nd rfl (Or.inr rfl) (pe_ix (ixLK (K := K)) (pe_lst (pa_cons pe_non (pa_cons pe_bl (pa_cons pe_str (pa_cons pe_int (pa_cons (pe_op op_sub pe_int pe_int) (pa_cons (pe_tup (pa_cons pe_int pa_nil)) pa_nil))))))) (pe_call G__law_below.one (hr.mono (by decide)) (by rfl) T.g__law_below G__law_below.kp G__law_below.two .nil passL (pa_cons (pv 8) (pa_cons pe_int pa_nil))) (fun _ _ => rfl)))
    (pss_cons (ps_if (pt_cmpR (neDK (K := K) hr.units) (Ex.pe_lamE (k := 9) (by rfl) T.g__law_error_of T.f__law_error_of sc__law_error_of bd__law_error_of (gv__law_error_of T) tx (hr.mono (by decide)) (show LamX.LamS (defScope s_law) _ from LamX.lamS_by (by decide +kernel)) rfl (fun _ _ _ _ _ => rfl) (fun A outer s H E f c' hr => (pe_call (X := LamX.lamCx _ A outer s H E _ f c') G_decode.one (hr.mono (by decide)) (by rfl) T.g_decode G_decode.kp G_decode.two .nil (passes_call (takes_of rfl rfl rfl rfl) fun _ _ _ _ h => h) (pa_cons (pe_op op_cat (pe_op op_cat (pe_slice (slLK (K := K)) (pv 7) po_none (po_some (pv 5))) (pe_lst (pa_cons (pv 11) pa_nil))) (pe_slice (slLK (K := K)) (pv 7) (po_some (pe_op op_add (pv 5) pe_int)) po_none)) pa_nil)))) (pe_tup (pa_cons pe_str (pa_cons (pv 5) pa_nil))) (nomark _)) (pss_one (ps_ret pe_bl)) pss_nil)
    (pss_cons (ps_set (i := 12) sc_law.nd rfl (Or.inr rfl) (pe_op op_cat (pe_slice (slLK (K := K)) (pv 7) po_none (po_some (pe_un un_neg pe_int))) (pe_lst (pa_cons (pe_op op_mod (pe_op op_add (pe_op op_add (pe_ix (ixLK (K := K)) (pv 7) (pe_un un_neg pe_int) (fun _ _ => rfl)) pe_int) (pe_call G__law_below.one (hr.mono (by decide)) (by rfl) T.g__law_below G__law_below.kp G__law_below.two .nil passL (pa_cons (pv 8) (pa_cons pe_int pa_nil)))) pe_int) pa_nil))))
    (pss_cons (ps_if (pt_cmpR (neDK (K := K) hr.units) (Ex.pe_lamE (k := 9) (by rfl) T.g__law_error_of T.f__law_error_of sc__law_error_of bd__law_error_of (gv__law_error_of T) tx (hr.mono (by decide)) (show LamX.LamS (defScope s_law) _ from LamX.lamS_by (by decide +kernel)) rfl (fun _ _ _ _ _ => rfl) (fun A outer s H E f c' hr => (pe_call (X := LamX.lamCx _ A outer s H E _ f c') G_decode.one (hr.mono (by decide)) (by rfl) T.g_decode G_decode.kp G_decode.two .nil (passes_call (takes_of rfl rfl rfl rfl) fun _ _ _ _ h => h) (pa_cons (pv 12) pa_nil)))) (pe_tup (pa_cons pe_str (pa_cons (pe_op op_sub (pe_callB (lenK (K := K)) (by rfl) T.g_len (by decide +kernel) (pa_cons (pv 7) pa_nil)) pe_int) pa_nil))) (nomark _)) (pss_one (ps_ret pe_bl)) pss_nil)
    (pss_cons (ps_set (i := 10) sc_law.nd rfl (Or.inr rfl) (pe_ix (ixLK (K := K)) (pe_lst (pa_cons pe_non (pa_cons pe_int (pa_cons (pe_tup (pa_cons pe_int (pa_cons pe_int pa_nil))) (pa_cons pe_str (pa_cons pe_bl pa_nil)))))) (pe_call G__law_below.one (hr.mono (by decide)) (by rfl) T.g__law_below G__law_below.kp G__law_below.two .nil passL (pa_cons (pv 8) (pa_cons pe_int pa_nil))) (fun _ _ => rfl)))
    (pss_cons (ps_if (pt_cmpR (neDK (K := K) hr.units) (Ex.pe_lamE (k := 9) (by rfl) T.g__law_error_of T.f__law_error_of sc__law_error_of bd__law_error_of (gv__law_error_of T) tx (hr.mono (by decide)) (show LamX.LamS (defScope s_law) _ from LamX.lamS_by (by decide +kernel)) rfl (fun _ _ _ _ _ => rfl) (fun A outer s H E f c' hr => (pe_call (X := LamX.lamCx _ A outer s H E _ f c') G_decode.one (hr.mono (by decide)) (by rfl) T.g_decode G_decode.kp G_decode.two .nil (passes_call (takes_of rfl rfl rfl rfl) fun _ _ _ _ h => h) (pa_cons (pv 10) pa_nil)))) (pe_tup (pa_cons pe_str (pa_cons pe_int pa_nil))) (nomark _)) (pss_one (ps_ret pe_bl)) pss_nil)
    (pss_cons (ps_set (i := 1) sc_law.nd rfl (Or.inl rfl) (pe_lst (pa_cons pe_int (pa_cons pe_int (pa_cons pe_int (pa_cons pe_int (pa_cons pe_int pa_nil)))))))
    (pss_cons (ps_set (i := 2) sc_law.nd rfl (Or.inl rfl) (pe_lst (pa_cons (pe_tup (pa_cons (pe_lst (pa_cons pe_int pa_nil)) (pa_cons pe_int pa_nil))) (pa_cons (pe_tup (pa_cons (pe_lst (pa_cons pe_int (pa_cons pe_int pa_nil))) (pa_cons pe_int pa_nil))) (pa_cons (pe_tup (pa_cons (pe_lst (pa_cons pe_int (pa_cons pe_int (pa_cons pe_int pa_nil)))) (pa_cons pe_int pa_nil))) (pa_cons (pe_tup (pa_cons (pe_lst (pa_cons pe_int (pa_cons pe_int (pa_cons pe_int pa_nil)))) (pa_cons pe_int pa_nil))) (pa_cons (pe_tup (pa_cons (pe_lst (pa_cons pe_int (pa_cons pe_int (pa_cons pe_int pa_nil)))) (pa_cons pe_int pa_nil))) (pa_cons (pe_tup (pa_cons (pe_lst (pa_cons pe_int (pa_cons pe_int (pa_cons pe_int (pa_cons pe_int pa_nil))))) (pa_cons pe_int pa_nil))) pa_nil))))))))
    (pss_cons (ps_set (i := 2) sc_law.nd rfl (Or.inl rfl) (pe_op op_cat (pv 2) (pe_lst (pa_cons (pe_tup (pa_cons (pe_lst (pa_cons pe_int (pa_cons pe_int (pa_cons pe_int (pa_cons pe_int pa_nil))))) (pa_cons pe_int pa_nil))) (pa_cons (pe_tup (pa_cons (pe_lst (pa_cons pe_int (pa_cons pe_int (pa_cons pe_int (pa_cons pe_int (pa_cons pe_int (pa_cons pe_int pa_nil))))))) (pa_cons pe_int pa_nil))) (pa_cons (pe_tup (pa_cons (pe_op op_cat (pv 1) (pe_lst (pa_cons pe_int pa_nil))) (pa_cons pe_int pa_nil))) (pa_cons (pe_tup (pa_cons (pe_op op_cat (pv 1) (pe_lst (pa_cons pe_int pa_nil))) (pa_cons pe_int pa_nil))) pa_nil)))))))
    (pss_cons (ps_set (i := 2) sc_law.nd rfl (Or.inl rfl) (pe_op op_cat (pv 2) (pe_lst (pa_cons (pe_tup (pa_cons (pe_op op_cat (pv 1) (pe_lst (pa_cons pe_int (pa_cons pe_int pa_nil)))) (pa_cons pe_int pa_nil))) (pa_cons (pe_tup (pa_cons (pe_op op_cat (pv 1) (pe_lst (pa_cons pe_int (pa_cons pe_int (pa_cons pe_int pa_nil))))) (pa_cons pe_int pa_nil))) (pa_cons (pe_tup (pa_cons (pe_op op_cat (pv 1) (pe_lst (pa_cons pe_int (pa_cons pe_int (pa_cons pe_int (pa_cons pe_int pa_nil)))))) (pa_cons pe_int pa_nil))) pa_nil))))))
    (pss_cons (ps_asg (pe_ix (ixLK (K := K)) (pv 2) (pe_call G__law_below.one (hr.mono (by decide)) (by rfl) T.g__law_below G__law_below.kp G__law_below.two .nil passL (pa_cons (pv 8) (pa_cons pe_int pa_nil))) (fun _ _ => rfl)) (pg_tup rfl (pgs_cons (pg_name (i := 6) sc_law.nd rfl (Or.inr rfl)) (pgs_cons (pg_name (i := 3) sc_law.nd rfl (Or.inl rfl)) pgs_nil))))
    (pss_cons (ps_if (pt_cmpR (neDK (K := K) hr.units) (Ex.pe_lamE (k := 9) (by rfl) T.g__law_error_of T.f__law_error_of sc__law_error_of bd__law_error_of (gv__law_error_of T) tx (hr.mono (by decide)) (show LamX.LamS (defScope s_law) _ from LamX.lamS_by (by decide +kernel)) rfl (fun _ _ _ _ _ => rfl) (fun A outer s H E f c' hr => (pe_call (X := LamX.lamCx _ A outer s H E _ f c') G_decode.one (hr.mono (by decide)) (by rfl) T.g_decode G_decode.kp G_decode.two .nil (passes_call (takes_of rfl rfl rfl rfl) fun _ _ _ _ h => h) (pa_cons (pe_op op_cat (pv 6) (pe_lc (own := [("_law_k", 13)]) (g := gName 13) (tt := tYes) (by rfl) sc_law.nd (pi_range1 (by rfl) T.g_range (pa_cons pe_int pa_nil)) (blkNm (blkOk_by (own := [("_law_k", 13)]) (N := N_law) (sc := ({ kind := .function, names := [("_law_bad", .free), ("_law_d", .free), ("decode", .globalImplicit), ("range", .globalImplicit)], isGenerator := false, isCoroutine := false } : Scope)) (by decide +kernel)) rfl) (fun _ _ _ _ _ => pg_name (i := 13) sc_law.nd rfl (Or.inl rfl)) (fun _ _ _ _ _ => pts_nil) (fun _ _ _ _ _ => (pe_call G__law_below.one (hr.mono (by decide)) (by rfl) T.g__law_below G__law_below.kp G__law_below.two .nil passL (pa_cons (pv 8) (pa_cons pe_int pa_nil)))))) pa_nil)))) (pe_tup (pa_cons pe_str (pa_cons (pv 3) pa_nil))) (nomark _)) (pss_one (ps_ret pe_bl)) pss_nil)
    (pss_cons (ps_set (i := 4) sc_law.nd rfl (Or.inl rfl) (pe_lst (pa_cons pe_int (pa_cons pe_int (pa_cons pe_int (pa_cons pe_int (pa_cons pe_int (pa_cons pe_int (pa_cons pe_int (pa_cons pe_int pa_nil))))))))))
    (pss_one (ps_ret (pe_cmpR op_eq (pe_fld (pe_call G_decode.one (hr.mono (by decide)) (by rfl) T.g_decode G_decode.kp G_decode.two .nil passL (pa_cons (pe_op op_cat (pv 4) (pe_lst (pa_cons (pe_op op_mod (pe_callB (sumLK (K := K)) (by rfl) T.g_sum (by decide +kernel) (pa_cons (pv 4) pa_nil)) pe_int) pa_nil))) pa_nil)) rfl) pe_int (nomark _))))))))))))))))))))))), ?_⟩
  refine ⟨_, rfl, a, ns, 21, rfl, hS, hlen, by decide, by decide, fun d cs H1 hd0 S1 hd hcs => ?_⟩
  walk_at "rd"
  rename_i t tp cp m lt tk cl H2 c2 nt B2 hd2 hcs2 hP2 l1 l2 hh lp H3 nh nlp S3 hA l H4 nl S4 hl
  have hPt : Parts m tk cl lt := hP2.ok
  have VE := Bt.vld_enc hPt
  have lenE : (encN m tk cl lt).length = tk.length + cl.length + 7 := encN_len
  have ld : l ≠ d := fun q => by
    rw [q, S3 _ _ hd2] at nl
    cases nl
  have hT4 : Tabs (TT K) H4 := (tabs_but (hT.ext S1) hd B2).ext (S3.trans S4)
  have hd4 : H4 d = some (.lst c2) := S4 _ _ (S3 _ _ hd2)
  clear nt hP2 hA nl nh nlp hd2 hd B2 hS hlen hd0 hcs S1 hT S3 S4 H1 H2 H3
  refine Rd.h_below hd4 hcs2 (by simp; omega) (by simp; omega) fun at_ H5 c5 hat B5 hd5 hcs5 => ?_
  have hl5 := B5 _ _ ld hl
  have hT5 := tabs_but hT4 hd4 B5
  clear B5 hd4 hcs2 hT4 hl H4
  rw [List.length_map] at hat
  walk_at "rs"
  refine Rd.ifF (P := fun H' => Ext K H5 H') (fun Q hq => ?_) (fun H6 X6 => ?_)
  ·
    --<
    walk_at "rd"
    refine Rd.err hT5 fun H7 X7 E' hE => ?_
    walk_at "rd"
    refine Rd.slL (SqL.of (X7.lst hl5)) fun p8 H8 np S8 hp8 => ?_
    rw [cut_preI _ (n := at_) rfl] at hp8
    walk_at "rd"
    have lp : ((encN m tk cl lt).take at_).length = at_ := by rw [List.length_take]; omega
    refine h_decPre (pre := (encN m tk cl lt).take at_) hp8 (fun v hv => args_nat v (List.mem_of_mem_take hv)) ?_ (Bt.vld_pre VE.1 _) (Bt.stop_at VE.1 (by omega) fun lo hi _ _ => ?_) ?_
    · rw [lp, List.take_take, Nat.min_self, List.map_take]
    · unfold byteAt
      rw [List.getElem?_eq_none (by rw [List.length_take, List.length_map]; omega)]
    · rw [lp]
      refine raise_code hE fun r H9 S9 D9 => ?_
      walk_at "rd"
      rename_i q H10 _ S10 hq10
      refine Rd.ne_code (dp_sm S10 D9) hq10 rfl ?_
      walk_at "rd"
      exact hq _ (((X7.same S8).same S9).same S10)
    -->
  -- more bytes
  have hl6 := X6.lst hl5
  have hd6 := X6.lst hd5
  have hT6 := X6.2
  clear X6 hl5 hd5 hT5 H5
  walk_at "rd"
  rename_i n1 H7 c7 hn1 B7 hd7 hcs7
  have hl7 := B7 _ _ ld hl6
  have hT7 := tabs_but hT6 hd6 B7
  clear B7 hd6 hl6 hT6 hcs5 H6 c5
  rw [show V.int (1 + (n1 : Int)) = vn (1 + n1) from vn_int (by omega)]
  refine Rd.rngK_n (by omega) (Rd.lc_draw hd7 hcs7 (by omega) (by decide) (by decide) (fun _ => rfl) (fun _ => rfl) fun D ys H8 c8 nD dD B8 hd8 hcs8 hD hlen => ?_)
  have hl8 := B8 _ _ ld hl7
  have hT8 := tabs_but hT7 hd7 B8
  clear B8 hd7 hl7 hT7 hcs7 nD dD H7 c7
  refine Rd.catL hl8 hD (by simp; omega) fun q H9 nq S9 hq9 => ?_
  have hl9 := S9 _ _ hl8
  have hd9 := S9 _ _ hd8
  have hT9 := hT8.ext S9
  clear hl8 hd8 hT8 S9 hD H8 nq
  rw [← List.map_append] at hq9
  walk_at "rs"
  refine Rd.ifF (P := fun H' => Ext K H9 H') (fun Q hq => ?_) (fun H10 X10 => ?_)
  ·
    --<
    walk_at "rd"
    refine Rd.err hT9 fun H10 X10 E' hE => ?_
    walk_at "rd"
    refine h_decPre (pre := encN m tk cl lt) (X10.lst hq9) args_nat ?_ VE.1 ?_ ?_
    · rw [← List.map_take, List.take_left']
      rfl
    · unfold Bt.Stop
      rw [VE.2]
      show _ < (List.map vn _).length
      rw [List.length_map, List.length_append]
      omega
    · refine raise_code hE fun r H11 S11 D11 => ?_
      have hl11 := S11 _ _ (X10.lst hl9)
      walk_at "rd"
      rename_i q2 H12 _ S12 hq12
      refine Rd.ne_code (dp_sm S12 D11) hq12 (by simp) ?_
      walk_at "rd"
      exact hq _ ((X10.same S11).same S12)
    -->
  -- an odd byte
  have hl10 := X10.lst hl9
  have hd10 := X10.lst hd9
  have hT10 := X10.2
  clear X10 hl9 hd9 hT9 hq9 H9 hlen ys hn1 n1 D
  walk_at "rd"
  rename_i p1 H11 n11 S11 h11 p2 H12 n12 S12 h12 r3 H13 c13 hr3 B13 hd13 hcs13
  have d12 : p2 ≠ d := fun e => by rw [e, S11 _ _ hd10] at n12; cases n12
  have h13 := B13 _ _ d12 h12
  have t13 : H13 p1 = some (.tup [V.int 1]) := B13.gt (S12 _ _ (S11 _ _ hd10)) (S12 _ _ h11)
  obtain ⟨v, hv, va, vb⟩ : ∃ v, [V.non, V.bl true, V.str ("a" : Str), V.int 256, V.int (0 - 1), V.ref p1][r3]? = some v ∧ Arg H13 v ∧ ∀ lo hi, 0 ≤ lo → hi ≤ 255 → inB lo hi v = false := by
    have : r3 = 0 ∨ r3 = 1 ∨ r3 = 2 ∨ r3 = 3 ∨ r3 = 4 ∨ r3 = 5 := by omega
    rcases this with rfl | rfl | rfl | rfl | rfl | rfl
    · exact ⟨_, rfl, .non, fun _ _ _ _ => rfl⟩
    · exact ⟨_, rfl, .bl _, fun _ _ _ _ => rfl⟩
    · exact ⟨_, rfl, .str _, fun _ _ _ _ => rfl⟩
    · refine ⟨_, rfl, .int _, fun lo hi _ h => ?_⟩
      show (decide (lo ≤ (256 : Int)) && decide ((256 : Int) ≤ hi)) = false
      rw [decide_eq_false (show ¬ (256 : Int) ≤ hi by omega), Bool.and_false]
    · refine ⟨_, rfl, .int _, fun lo hi h _ => ?_⟩
      show (decide (lo ≤ (0 - 1 : Int)) && decide ((0 - 1 : Int) ≤ hi)) = false
      rw [decide_eq_false (show ¬ lo ≤ (0 - 1 : Int) by omega), Bool.false_and]
    · exact ⟨_, rfl, .tup t13, fun _ _ _ _ => rfl⟩
  have hT13 : Tabs (TT K) H13 := tabs_but (hT10.ext (S11.trans S12)) (S12 _ _ (S11 _ _ hd10)) B13
  have hl13 := B13 _ _ ld (S12 _ _ (S11 _ _ hl10))
  refine Rd.ixL (SqL.of h13) (atn hv) ?_
  clear h13 hv t13 B13 h12 d12 S12 n12 h11 S11 n11 hl10 hd10 hT10 H10 hcs8 H11 H12 r3 hr3
  walk_at "rs"
  refine Rd.ifF (P := fun H' => Ext K H13 H') (fun Q hq => ?_) (fun H14 X14 => ?_)
  ·
    --<
    walk_at "rd"
    refine Rd.err hT13 fun H14 X14 E' hE => ?_
    walk_at "rd"
    refine Rd.slL (SqL.of (X14.lst hl13)) fun p15 H15 n15 S15 h15 => ?_
    rw [cut_preI _ (n := at_) rfl] at h15
    walk_at "rd"
    rename_i p16 H16 _ S16 _ p17 H17 _ S17 h17
    refine Rd.slL (SqL.of (S17 _ _ (S16 _ _ (S15 _ _ (X14.lst hl13))))) fun p18 H18 n18 S18 h18 => ?_
    rw [cut_sufI _ (n := at_ + 1) (by omega)] at h18
    refine Rd.catL (S18 _ _ h17) h18 (by simp; omega) fun p19 H19 n19 S19 h19 => ?_
    walk_at "rd"
    have S : Same H14 H19 := (((S15.trans S16).trans S17).trans S18).trans S19
    have lp : ((encN m tk cl lt).take at_).length = at_ := by rw [List.length_take]; omega
    have va19 : Arg H19 v := (va.ext X14).sm S
    refine h_decPre (pre := (encN m tk cl lt).take at_) h19 (fun u hu => ?_) ?_ (Bt.vld_pre VE.1 _) (Bt.stop_at VE.1 (by omega) fun lo hi b1 b2 => Bt.byte_none (v := v) ?_ (vb lo hi b1 b2)) ?_
    · rcases List.mem_append.mp hu with hu | hu
      · rcases List.mem_append.mp hu with hu | hu
        · exact args_nat u (List.mem_of_mem_take hu)
        · rw [List.mem_singleton.mp hu]
          exact va19
      · exact args_nat u (List.mem_of_mem_drop hu)
    · rw [lp, List.append_assoc, List.take_left' (by rw [List.length_take, List.length_map]; omega), List.map_take]
    · rw [List.append_assoc, List.getElem?_append_right (by rw [List.length_take, List.length_map]; omega), List.length_take, List.length_map, Nat.min_eq_left (by omega), Nat.sub_self]
      rfl
    · rw [lp]
      refine raise_code hE fun r H20 S20 D20 => ?_
      walk_at "rd"
      rename_i q2 H21 _ S21 hq21
      refine Rd.ne_code (dp_sm S21 D20) hq21 rfl ?_
      walk_at "rd"
      exact hq _ (((X14.same S).same S20).same S21)
    -->
  -- another last byte
  have hl14 := X14.lst hl13
  have hd14 := X14.lst hd13
  have hT14 := X14.2
  clear X14 hl13 hd13 hT13 va vb
  walk_at "rd"
  refine Rd.slL (SqL.of hl14) fun p15 H15 n15 S15 h15 => ?_
  rw [cut_init] at h15
  have eD : ((encN m tk cl lt).map vn).dropLast = (encH m tk cl lt).map vn := by unfold encN; rw [List.map_append]; exact List.dropLast_concat ..
  rw [eD] at h15
  have lenH : (encH m tk cl lt).length = tk.length + cl.length + 6 := encH_len
  obtain ⟨s9, hs⟩ : ∃ s9, s9 = (encH m tk cl lt).sum % 256 := ⟨_, rfl⟩
  have eL : atI ((encN m tk cl lt).map vn) (-1) = some (vn s9) := by rw [hs]; exact enc_last
  have e15 := S15 _ _ hl14
  walk_at "rd"
  refine Rd.ixL (SqL.of e15) eL ?_
  walk_at "rd"
  rename_i r H16 c16 hr16 B16 hd16 hcs16 p17 H17 n17 S17 h17
  have d15 : p15 ≠ d := fun e => by rw [e, hd14] at n15; cases n15
  have h16 := B16 _ _ d15 h15
  have hl16 := B16 _ _ ld e15
  have hT16 := tabs_but (hT14.ext S15) (S15 _ _ hd14) B16
  refine Rd.catL (S17 _ _ h16) h17 (by simp; omega) fun p18 H18 n18 S18 h18 => ?_
  have hl18 := S18 _ _ (S17 _ _ hl16)
  have hd18 := S18 _ _ (S17 _ _ hd16)
  have hT18 := (hT16.ext S17).ext S18
  clear hl16 hd16 hT16 h16 S18 S17 n18 n17 h17 B16 d15 h15 e15 hl14 hd14 hT14 S15 n15 hcs13 H14 H15 H16 H17
  obtain ⟨z, hz⟩ : ∃ z : Int, z = ((s9 : Int) + 1 + (r : Int)) % 256 := ⟨_, rfl⟩
  rw [← hz] at h18
  have zs : z ≠ s9 := by omega
  have VH : Bt.Vld (encH m tk cl lt) := by
    have := Bt.vld_pre VE.1 (encH m tk cl lt).length
    rwa [show (encN m tk cl lt).take (encH m tk cl lt).length = encH m tk cl lt by unfold encN; rw [List.take_left']; rfl] at this
  have lS : Bt.lim (encH m tk cl lt) = some (((s9 : Nat) : Int), ((s9 : Nat) : Int)) := by rw [hs]; exact Bt.lim_sum rfl rfl
  walk_at "rs"
  refine Rd.ifF (P := fun H' => Ext K H18 H') (fun Q hq => ?_) (fun H19 X19 => ?_)
  ·
    --<
    walk_at "rd"
    refine Rd.err hT18 fun H19 X19 E' hE => ?_
    walk_at "rd"
    refine h_decPre (pre := encH m tk cl lt) (X19.lst h18) (fun u hu => ?_) (by rw [List.take_left']; rw [List.length_map]) VH ?_ ?_
    · rcases List.mem_append.mp hu with hu | hu
      · exact args_nat u hu
      · rw [List.mem_singleton.mp hu]
        exact .int _
    · unfold Bt.Stop
      rw [lS]
      refine Bt.byte_none (v := .int z) (by rw [List.getElem?_append_right (by rw [List.length_map]; omega), List.length_map, Nat.sub_self]; rfl) ?_
      show (decide ((s9 : Int) ≤ z) && decide (z ≤ (s9 : Int))) = false
      by_cases c : (s9 : Int) ≤ z
      · rw [decide_eq_false (show ¬ z ≤ (s9 : Int) by omega), Bool.and_false]
      · rw [decide_eq_false c, Bool.false_and]
    · refine raise_code hE fun r H20 S20 D20 => ?_
      have hl20 := S20 _ _ (X19.lst hl18)
      walk_at "rd"
      rename_i q2 H21 _ S21 hq21
      refine Rd.ne_code (dp_sm S21 D20) hq21 (by rw [List.length_map]; omega) ?_
      walk_at "rd"
      exact hq _ ((X19.same S20).same S21)
    -->
  -- no list
  have hd19 := X19.lst hd18
  have hT19 := X19.2
  clear X19 hl18 hd18 hT18 h18 H18 zs hz z VH lS eL hs s9 eD
  walk_at "rd"
  rename_i p20 H20 n20 S20 h20 p21 H21 n21 S21 h21 r3 H22 c22 hr3 B22 hd22 hcs22
  have d21 : p21 ≠ d := fun e => by rw [e, S20 _ _ hd19] at n21; cases n21
  have h22 := B22 _ _ d21 h21
  have t22 : H22 p20 = some (.tup [V.int 84, V.int 0]) := B22.gt (S21 _ _ (S20 _ _ hd19)) (S21 _ _ h20)
  have hT22 : Tabs (TT K) H22 := tabs_but (hT19.ext (S20.trans S21)) (S21 _ _ (S20 _ _ hd19)) B22
  obtain ⟨u, hu, ua, ub⟩ : ∃ u, [V.non, V.int 5, V.ref p20, V.str ("a" : Str), V.bl true][r3]? = some u ∧ Arg H22 u ∧ ∀ c, u = .ref c → H22 c = some (.tup [V.int 84, V.int 0]) := by
    have : r3 = 0 ∨ r3 = 1 ∨ r3 = 2 ∨ r3 = 3 ∨ r3 = 4 := by omega
    rcases this with rfl | rfl | rfl | rfl | rfl
    · exact ⟨_, rfl, .non, fun _ e => nomatch e⟩
    · exact ⟨_, rfl, .int _, fun _ e => nomatch e⟩
    · exact ⟨_, rfl, .tup t22, fun c e => by cases e; exact t22⟩
    · exact ⟨_, rfl, .str _, fun _ e => nomatch e⟩
    · exact ⟨_, rfl, .bl _, fun _ e => nomatch e⟩
  refine Rd.ixL (SqL.of h22) (atn hu) ?_
  clear h22 hu t22 B22 h21 d21 S21 n21 h20 S20 n20 hd19 hT19 H19 hcs16 H20 H21 r3 hr3
  walk_at "rs"
  refine Rd.ifF (P := fun H' => Ext K H22 H') (fun Q hq => ?_) (fun H23 X23 => ?_)
  ·
    --<
    walk_at "rd"
    refine Rd.err hT22 fun H23 X23 E' hE => ?_
    walk_at "rd"
    refine h_decNo (ua.ext X23) (fun c xs hc e => ?_) ?_
    · have z := X23.tup (ub c e)
      rw [hc] at z
      cases z
    · refine raise_code hE fun r H24 S24 D24 => ?_
      walk_at "rd"
      rename_i q2 H25 _ S25 hq25
      refine Rd.ne_code (dp_sm S25 D24) hq25 rfl ?_
      walk_at "rd"
      exact hq _ ((X23.same S24).same S25)
    -->
  -- bad bytes
  have hd23 := X23.lst hd22
  have hT23 := X23.2
  clear X23 hd22 hT22 ua ub
  walk_at "rd"
  rename_i p70 H70 n70 S70 h70 r3 H71 c71 hr3 B71 hd71 hcs71
  have key : ∀ L, H70 p70 = some (.lst L) → ∃ (tt b : Addr) (xs : List V) (i : Int), L[r3]? = some (V.ref tt) ∧ H70 tt = some (.tup [.ref b, .int i]) ∧ H70 b = some (.lst xs) ∧ b ≠ d ∧ ∃ (bad : List Nat) (pl : Nat), xs = bad.map vn ∧ i = (pl : Int) ∧ bad.length ≤ 20 ∧ Bt.badB bad pl = true := by
    --<
    intro L hL
    have e := h70.symm.trans hL
    cases e
    have : r3 = 0 ∨ r3 = 1 ∨ r3 = 2 ∨ r3 = 3 ∨ r3 = 4 ∨ r3 = 5 ∨ r3 = 6 ∨ r3 = 7 ∨ r3 = 8 ∨ r3 = 9 ∨ r3 = 10 ∨ r3 = 11 ∨ r3 = 12 := by omega
    rcases this with rfl | rfl | rfl | rfl | rfl | rfl | rfl | rfl | rfl | rfl | rfl | rfl | rfl
    · exact ⟨_, _, _, _, rfl, (by walk_at "hp"), (by walk_at "hp"), ne_new2 (by assumption) (by walk_at "hp"), [83], 0, rfl, rfl, by decide, by decide⟩
    · exact ⟨_, _, _, _, rfl, (by walk_at "hp"), (by walk_at "hp"), ne_new2 (by assumption) (by walk_at "hp"), [84, 40], 1, rfl, rfl, by decide, by decide⟩
    · exact ⟨_, _, _, _, rfl, (by walk_at "hp"), (by walk_at "hp"), ne_new2 (by assumption) (by walk_at "hp"), [84, 0, 1], 2, rfl, rfl, by decide, by decide⟩
    · exact ⟨_, _, _, _, rfl, (by walk_at "hp"), (by walk_at "hp"), ne_new2 (by assumption) (by walk_at "hp"), [84, 0, 0], 2, rfl, rfl, by decide, by decide⟩
    · exact ⟨_, _, _, _, rfl, (by walk_at "hp"), (by walk_at "hp"), ne_new2 (by assumption) (by walk_at "hp"), [84, 39, 17], 2, rfl, rfl, by decide, by decide⟩
    · exact ⟨_, _, _, _, rfl, (by walk_at "hp"), (by walk_at "hp"), ne_new2 (by assumption) (by walk_at "hp"), [84, 1, 0, 0], 3, rfl, rfl, by decide, by decide⟩
    · exact ⟨_, _, _, _, rfl, (by walk_at "hp"), (by walk_at "hp"), ne_new2 (by assumption) (by walk_at "hp"), [84, 1, 0, 13], 3, rfl, rfl, by decide, by decide⟩
    · exact ⟨_, _, _, _, rfl, (by walk_at "hp"), (by walk_at "hp"), ne_new2 (by assumption) (by walk_at "hp"), [84, 1, 0, 2, 9, 10], 5, rfl, rfl, by decide, by decide⟩
    · exact ⟨_, _, _, _, rfl, (by walk_at "hp"), (by walk_at "hp"), ne_new2 (by assumption) (by walk_at "hp"), [84, 0, 2, 1, 9, 0], 5, rfl, rfl, by decide, by decide⟩
    · exact ⟨_, _, _, _, rfl, (by walk_at "hp"), (by walk_at "hp"), ne_new2 (by assumption) (by walk_at "hp"), [84, 0, 2, 1, 9, 13], 5, rfl, rfl, by decide, by decide⟩
    · exact ⟨_, _, _, _, rfl, (by walk_at "hp"), (by walk_at "hp"), ne_new2 (by assumption) (by walk_at "hp"), [84, 0, 2, 1, 9, 1, 10], 6, rfl, rfl, by decide, by decide⟩
    · exact ⟨_, _, _, _, rfl, (by walk_at "hp"), (by walk_at "hp"), ne_new2 (by assumption) (by walk_at "hp"), [84, 0, 2, 1, 9, 1, 9, 100], 7, rfl, rfl, by decide, by decide⟩
    · exact ⟨_, _, _, _, rfl, (by walk_at "hp"), (by walk_at "hp"), ne_new2 (by assumption) (by walk_at "hp"), [84, 0, 2, 1, 9, 2, 0, 0, 255], 8, rfl, rfl, by decide, by decide⟩
    -->
  obtain ⟨tt, b, xs, i, hv, ht, hb, nb, bad, pl, rfl, rfl, blen, hbad⟩ := key _ h70
  have hd70 : H70 d = some (.lst c22) := (by walk_at "hp")
  have n70d : p70 ≠ d := ne_new2 n70 (by walk_at "hp")
  have hT70 : Tabs (TT K) H70 := hT23.ext (show Same H23 H70 from (by walk_at "same"))
  clear key
  have h71 := B71.gl n70d h70
  have ht71 := B71.gt hd70 ht
  have hb71 := B71.gl nb hb
  have hT71 := tabs_but hT70 hd70 B71
  clear ht hb hT70 hd70 n70d B71 S70 h70 n70
  refine Rd.ixL (SqL.of h71) (atn hv) ?_
  have all : H71 d = some (.lst c71) ∧ H71 tt = some (.tup [.ref b, .int (pl : Int)]) ∧ H71 b = some (.lst (bad.map vn)) ∧ Tabs (TT K) H71 := ⟨hd71, ht71, hb71, hT71⟩
  clear hv h71 hd71 ht71 hb71 hT71 hd23 hT23
  repeat (rename L2.Same _ _ => zz; clear zz)
  repeat (rename _ = (none : Option HO) => zz; clear zz)
  repeat (rename _ = some (HO.lst _) => zz; clear zz)
  repeat (rename _ = some (HO.tup _) => zz; clear zz)
  obtain ⟨hd71, ht71, hb71, hT71⟩ := all
  walk_at "rs"
  refine Rd.ifF (P := fun _ => True) (fun Q hq => ?_) (fun H72 _ => ?_)
  ·
    --<
    walk_at "rd"
    refine Rd.err hT71 fun H72 X72 E' hE => ?_
    walk_at "rd"
    refine Rd.lc_draw (X72.lst hd71) hcs71 (by decide) (by decide) (by decide) (fun _ => rfl) (fun _ => rfl) fun D ys H73 c73 nD dD B73 hd73 hcs73 hD hlen => ?_
    refine Rd.catL (B73.gl nb (X72.lst hb71)) hD (by simp; omega) fun p74 H74 n74 S74 h74 => ?_
    rw [← List.map_append] at h74
    walk_at "rd"
    obtain ⟨el, b1, b2, b3⟩ := Bt.bad_by (r := ys) hbad
    refine h_decPre (pre := bad.take pl) h74 args_nat b2 b1 b3 ?_
    rw [el]
    refine raise_code hE fun r H75 S75 D75 => ?_
    walk_at "rd"
    rename_i q2 H76 _ S76 hq76
    refine Rd.ne_code (dp_sm S76 D75) hq76 rfl ?_
    walk_at "rd"
    exact hq _ trivial
    -->
  clear hd71 hcs71 ht71 hb71 hT71 H71 hbad nb
  walk_at "rd"
  rename_i p77 H77 _ S77 h77
  refine Rd.sumL (ns := [84, 39, 16, 1, 9, 1, 0, 99]) (SqL.of h77) ?_
  walk_at "rd"
  rename_i p79 H79 _ S79 h79
  rw [largest] at h79
  refine h_decGood (m := 10000) (tk := [9]) (cl := [0]) (lt := 99) h79 ⟨by decide, by decide, ⟨by decide, by decide, by decide⟩, ⟨by decide, by decide, by decide⟩, by decide⟩ fun m2 tk2 cl2 lt2 e h lp H80 S80 hA => ?_
  obtain rfl : m2 = 10000 := enc_m e
  walk_at "rd"
  first
    | exact k _
    | (rw [decide_eq_true rfl]; exact k _)
    | (simp only [decide_true]; exact k _)
end
end Tk

end

/-! ### The end -/
namespace Tk
open PySem PySem.Spec PyProof.Rows L2
theorem pf_law : Ex.PF (PySem.Challenge.rw_ticketwrap_k21_invalid_bytes).prog := ⟨by kernel_rfl, by kernel_rfl⟩
theorem facts {w : World} {K : PySem.W.Frag} {h : Heap} {mg : Str → Option Value} {f : Addr} (X : K.In h) (G : h.Ns mainGlobals mg) (hfa : mg ("law" : Str) = some (.ref f)) (c : Says fcts dps K) (t : Tells mks h K) :
    LamX.LawAtS PySem.Challenge.rw_ticketwrap_k21_invalid_bytes w K CX0 12 63 "_law_script" mg f h := by
  obtain ⟨fd, F⟩ := law_fn c
  have T := txt X G c
  have e := hfa.symm.trans (He.glo_ok X G (c.fact lawF rfl))
  cases e
  have b := FunD.bindsA (ps := ["_law_script"]) F fun _ _ _ _ _ _ us hl => match us, hl with | [_], _ => rfl
  have mem : ∀ p ∈ mkl.map (fun p => ctAt K (p.1 K)), ∃ q ∈ mks, p = ctAt K (q K) := fun p hp => by
    obtain ⟨q, hq, rfl⟩ := List.mem_map.mp hp
    exact ⟨q.1, List.mem_map.mpr ⟨q, hq, rfl⟩, rfl⟩
  refine ⟨fd, mkl.map (fun p => ctAt K (p.1 K)), spLawT K (TT K), fun p hp => ?_, fun p hp => ?_, fun p hp => ?_, fun s v => b s [v] rfl, fun H a ns hl _ ht hS => ⟨a, ns, rfl, hS, hl, tabs_nil fun p hp => ?_, fun _ => rfl⟩, fun base _ _ hB => ok_law T ⟨fun p hp => hB _ (List.mem_map.mpr ⟨p, hp, rfl⟩), ?_⟩ pf_law F⟩
  · obtain ⟨q, hq, rfl⟩ := mem p hp
    exact t.empty q hq
  · obtain ⟨q, hq, rfl⟩ := mem p hp
    exact t.out q hq
  · obtain ⟨q, hq, rfl⟩ := mem p hp
    exact PySem.W.codeHd_of_K X (t.hd q hq)
  · obtain ⟨q, hq, rfl⟩ := List.mem_map.mp hp
    exact ht _ (List.mem_map.mpr ⟨q, hq, rfl⟩)
  · have z := t.apart
    unfold mks at z
    rw [List.map_map] at z
    exact z
end Tk
open PySem PySem.W PySem.Calls PyProof.Rows
set_option maxRecDepth 100000 in
set_option maxHeartbeats 0 in
theorem PySem.Challenge.cw_ticketwrap_k21_invalid_bytes_holds : PySem.Challenge.rw_ticketwrap_k21_invalid_bytes.Holds := by
  w_on; o_law
  refine HeadRun.head_imp (r := OpenLaw.row PySem.Challenge.rw_ticketwrap_k21_invalid_bytes) (q := view (OpenLaw.row PySem.Challenge.rw_ticketwrap_k21_invalid_bytes).prog [0, 56]) (H := Tk.hk) (ob := Tk.ob) (M := 20000) (loose := Tk.names) (d := HeadRun.topDef (OpenLaw.row PySem.Challenge.rw_ticketwrap_k21_invalid_bytes).prog 56) (kwd := []) Tk.ob_eq Tk.run
    (by kernel_rfl) (by kernel_rfl) (by kernel_rfl) (by rfl) (by first | assumption | decide +kernel) (by decide +kernel) ⟨rfl, rfl, rfl, rfl, rfl, by decide +kernel⟩ ?hw ?hc
  case hw => w_witness2
  case hc =>
    refine LamX.walk_ofTsE (l := PySem.Challenge.rw_ticketwrap_k21_invalid_bytes) (n := 63) (k := 12) (x := "_law_script") (CX := fun _ => L2.CX0) rfl (by decide) (by kernel_rfl) ⟨rfl, by decide, by decide⟩ ?F (fun _ _ _ _ _ z => z)
    intro w mg fa h Y G hmg0
    obtain ⟨K, KX, c, t⟩ := Y
    have hmg : mg ("law" : PySem.Str) = some (.ref fa) := by
      have e : (HeadRun.topDef (OpenLaw.row PySem.Challenge.rw_ticketwrap_k21_invalid_bytes).prog 56).name = ("law" : PySem.Str) := by kernel_rfl
      rw [← e]
      exact hmg0
    exact ⟨K, KX, Tk.facts KX G hmg c t⟩
