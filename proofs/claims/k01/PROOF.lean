import PyProof.Rows.All
import Wide.All
import OpenK.AllK
import Wide.FinOn
import KE.KExcSuper
import HandS.ForExc
import HandS.ExcInit
import HandS.HeadWalk
import KE.KExcIs
import HandS.ExcValue
import HandS.ExcField
import HandS.IsInst
import HandS.ForMost
import HandS.Defaults
import HandS.Wide
import HandS.EndBits
import KE.KStateDown
import HandS.Head0
import HandS.Head1
import HandS.Head2
import HandS.HeadEnd
import HandS.HeadHook1
import HandS.HeadHook2
import HandS.HeadHook3
import PySem.Challenge.RW_fallranks_k01_limits_and_errors
set_option Elab.async false
set_option linter.all false
set_option maxRecDepth 100000
set_option maxHeartbeats 4000000
namespace Fx
open PySem PySem.W PySem.Calls PyProof.Rows PySem.HandSPX
open Builtin Builtin.ObjectAttr
/-- a built-in base of errors, as far as errors over it want it -/
structure Root (B newId initId : String) (bmB : List Value) : Prop where
  fb : ExcBaseFacts B newId initId bmB
  kx : KxsFacts B initId
  pass : ∀ self, refuseLoop self "__setattr__" bmB = pure ()
  obj : bmB.contains (.type "object") = true
theorem rootV : Root "ValueError" "ValueError.__new__" "ValueError.__init__" [.type "ValueError", .type "Exception", .type "BaseException", .type "object"] :=
  ⟨F.excBase_ValueError, kxs_ValueError, F.store_ValueError.passes, by decide +kernel⟩
theorem rootL : Root "LookupError" "LookupError.__new__" "LookupError.__init__" [.type "LookupError", .type "Exception", .type "BaseException", .type "object"] :=
  ⟨F.excBase_LookupError, kxs_LookupError, F.store_LookupError.passes, by decide +kernel⟩
theorem rootA : Root "ArithmeticError" "ArithmeticError.__new__" "ArithmeticError.__init__" [.type "ArithmeticError", .type "Exception", .type "BaseException", .type "object"] :=
  ⟨F.excBase_ArithmeticError, kxs_ArithmeticError, F.store_ArithmeticError.passes, by decide +kernel⟩
section
variable {prog : Program} {w : World} {A : Around} {R : Result → Shared → Prop} {g0 : Heap} {gs : Array GenState} {dr : Drawn} {tk0 : Nat} {oz : OsState} {B newId initId : String} {bmB : List Value}
/-- the first attribute of a new error: its dict is made -/
theorem osa (Z : Root B newId initId bmB) {K : Frag} {name : Str} {tk : Tok} {v : Value} {x C W : Addr} {fv : Array Value} {cd : ClassData}
    (X : K.In g0) (hx : g0.get? x = some { cls := .ref C, data := .fields fv }) (hcd : clsIn K C = some cd) (hm : cd.mro = .ref C :: .ref W :: bmB) (hh : cd.hasDict = true) (ha : findIn K (.ref C) name = some none)
    (hq : ∀ g1 tk1 dx, (∀ b o, b ≠ x → g0.get? b = some o → g1.get? b = some o) → g0.objs.size ≤ dx → dx ≠ x → g1.get? x = some { cls := .ref C, dict := some dx, data := .fields fv } →
      g1.Ns1 dx (fun y => if y = name then some v else none) → R (.ok (.ret .none)) ⟨g1, gs, dr, tk1, oz⟩) :
    codeAny (model prog w) A (.call (.builtin "object.__setattr__") ⟨[.ref x, .str name tk, v], []⟩) R ⟨g0, gs, dr, tk0, oz⟩ := by
  have J : PySem.W.InstAt g0 x { cls := .ref C, data := .fields fv } C none := ⟨hx, rfl, rfl, trivial⟩
  have ST := PySem.F.store_object
  have hob : (Value.ref C :: Value.ref W :: bmB).contains (.type "object") = true := by
    rw [List.contains_cons, List.contains_cons, Z.obj, Bool.or_true, Bool.or_true]
  have hxs : x ≠ g0.objs.size := Nat.ne_of_lt (Heap.lt_size hx)
  have hmi : mroIn K C (.type "object") = some true := by
    unfold mroIn
    rw [hcd, Option.bind_some, hm, if_neg (show ¬ (List.isEmpty (Value.ref C :: Value.ref W :: bmB) = true) from Bool.false_ne_true), hob]
  have sub : Looks (model prog w) g0 (isInstance (.ref x) (.type "object")) true := J.type.andThen (looks_mroIn X hmi)
  refine codeAny_call_builtin ST.slot.plain ST.entry (@check_slot (model prog w) _ _ ⟨g0, gs, dr, tk0, oz⟩ "object.__setattr__" "object" "__setattr__" (.ref x) [.str name tk, v] [] _ ST.kind ST.split sub (ST.args (.ref x) (.str name tk) v) ?_)
  have hmr : Looks (model prog w) g0 (mroOf (.ref C)) cd.mro := (looks_clsIn X hcd).andThen .now
  have L3 : Looks (model prog w) g0 (storeTaker? none) none := .now
  have hcls : Looks (model prog w) g0 (classData C) cd := looks_clsIn X hcd
  rw [osa_eq, refuse_eq]
  refine wpAny_bind (wpAny_bind (J.type.at (wpAny_bind (hmr.at ?_))))
  rw [hm, refuseLoop_ref, refuseLoop_ref, Z.pass]
  refine wpAny_pure (wpAny_bind (J.type.at (wpAny_bind ((looks_findIn X ha).at (wpAny_bind (L3.at ?_))))))
  show wpAny _ _ (storeInOwnDict (.ref x) (.ref C) (.str name tk) name v false) _ _ _
  obtain ⟨nm, bs, mro, ns, qn, hd, sn, sb, ab, col, del⟩ := cd
  dsimp only at hh
  subst hh
  unfold storeInOwnDict ownDictForStores
  repeat (first | with_reducible refine store_in_new ?_ ?_ | with_reducible refine wpAny_loadPart_at hx ?_ | with_reducible refine hcls.at ?_ | wp_step)
  · refine ⟨_, #[], _, (Heap.get?_update_ne _ _ _ _ hxs.symm).trans (Heap.get?_push_at rfl rfl), rfl, fun e he => absurd he (by simp), ?_⟩
    intro _
    rfl
  · intro g1 tk1 hn' hs
    have hx₁ : (g0.push { cls := .type "dict", data := .dict #[] }).get? x = some { cls := .ref C, data := .fields fv } := Heap.get?_push_of_some _ hx
    refine hq g1 tk1 g0.objs.size (fun b o hb ho => ?_) (Nat.le_refl _) hxs.symm ?_ hn'
    · exact (hs.2 b (Nat.ne_of_lt (Heap.lt_size ho))).trans ((Heap.get?_update_ne _ _ _ _ hb).trans (Heap.get?_push_of_some _ ho))
    · exact (hs.2 x hxs).trans (Heap.get?_update_self _ hx₁ rfl)
end
/-- the text of an error's __init__: super().__init__(msg), and one attribute or none -/
def iS0 : Scope := { kind := .function, names := [(Str.ofString "self", .local), (Str.ofString "__class__", .free), (Str.ofString "super", .globalImplicit)], isGenerator := false, isCoroutine := false, more := [] }
def iS1 (f : Str) : Scope := { kind := .function, names := [(Str.ofString "self", .local), (f, .local), (Str.ofString "__class__", .free), (Str.ofString "super", .globalImplicit)], isGenerator := false, isCoroutine := false, more := [] }
def iA0 (p1 : Pos) : Arguments := { posonlyargs := [], args := [{ arg := "self", annotation := none, pos := p1 }], vararg := none, kwonlyargs := [], kw_defaults := [], kwarg := none, defaults := [] }
def iA1 (f : Str) (p1 p2 : Pos) : Arguments := { posonlyargs := [], args := [{ arg := "self", annotation := none, pos := p1 }, { arg := f, annotation := none, pos := p2 }], vararg := none, kwonlyargs := [], kw_defaults := [], kwarg := none, defaults := [] }
def iSup (msg : Str) (k : Nat) (q1 q2 q3 q4 q5 q6 : Pos) : Stmt := .Expr (.Call (.Attribute (.Call (.Name "super" q1) [] [] q2) "__init__" q3) [.Constant (.str msg) k q4] [] q5) q6
def iSet (f : Str) (q1 q2 q3 q4 : Pos) : Stmt := .Assign [.Attribute (.Name "self" q1) f q2] (.Name f q3) q4
/-- what the written part says of the class at C, right under the own class at W; its __init__ at fI, which closes over its class in the cell at cc -/
structure ErrT (K : Frag) (mg : Str → Option Value) (newId initId : String) (bmB : List Value) (C W fI : Addr) : Prop where
  cls : ∃ nm q N bs sn sub ab col dd k0 k1 k2 k3 k5, K.lookup C = some (excClassObj nm q C N bs (.ref W :: bmB) true sn sub ab col dd k0 k1 k2 k3 k5 newId)
  sa : findIn K (.ref C) "__setattr__" = some (some (.builtin "object.__setattr__"))
  iC : findIn K (.ref C) "__init__" = some (some (.ref fI))
  tI : typeIn K (.ref fI) = some (.type "function")
  kC : keepIn K (.ref C) = true
  al : alongIn K "__init__" (.ref W :: bmB) = some (some (.builtin initId))
  th : nsIn K cStatics "thirdparty.any" = some none
  su : mg "super" = none
/-- its __init__ with one parameter -/
def Fn1 (prog : Program) (K : Frag) (C fI : Addr) (f : Str) : Prop := ∃ (oc : Value) (od : Option Addr) (qual msg : Str) (kM : Nat) (kV doc pm : Value) (an : Option Addr) (cda cc : Addr) (ct : Value) (osl : Array (Option Value)) (p1 p2 q1 q2 q3 q4 q5 q6 r1 r2 r3 r4 : Pos) (vs : Array Value) (file : Str) (tf : Tok) (ccl cl : Value) (cdd cld : Option Addr) (ccs csl : Array (Option Value)),
    K.lookup fI = some ⟨oc, od, .func (ksFn "__init__" qual (iA1 f p1 p2) [iSup msg kM q1 q2 q3 q4 q5 q6, iSet f r1 r2 r3 r4] (iS1 f) .none kV doc pm an (.ref cda) ct cc), osl⟩ ∧ codeIn K (.ref cda) qual = true ∧
    K.lookup cda = some ⟨ccl, cdd, .fields vs, ccs⟩ ∧ vs[2]? = some (.str file tf) ∧ ((prog.main.file : Str) == file) = true ∧ K.lookup cc = some ⟨cl, cld, .cell (some (.ref C)), csl⟩ ∧ (prog.main.scope.names.lookup ("super" : Str)).isSome = false ∧ (q3.endLine == q5.line) = true
end Fx
set_option Elab.async false
set_option linter.all false
set_option maxRecDepth 100000
set_option maxHeartbeats 4000000
namespace Fx
open PySem PySem.W PySem.Calls PyProof.Rows PySem.HandSPX
open Builtin Builtin.ObjectAttr
section
variable {prog : Program} {w : World} {A : Around} {R : Result → Shared → Prop} {s : Shared} {B newId initId : String} {bmB : List Value} {K : Frag} {mg : Str → Option Value} {base : Heap} {C W fI : Addr}
/-- super().__init__(msg) within the __init__ of a new error at x -/
theorem sup_stmt (Z : Root B newId initId bmB) (T : ErrT K mg newId initId bmB C W fI) (M : L2.Mod K mg base) (kb : ∀ b o, base.get? b = some o → s.heap.get? b = some o) {qual msg : Str} {sc : Scope} {kM : Nat} {kV doc pm ct oc ccl cl : Value} {od an cdd cld : Option Addr} {cda cc L x t0 : Addr} {osl ccs csl : Array (Option Value)} {vs : Array Value} {file : Str} {tf : Tok} {ps : Arguments} {body : List Stmt} {ar : Arg} {m : Str → Option Value} {q1 q2 q3 q4 q5 q6 : Pos} {Q : Flow → Shared → Prop} {E : Value → Shared → Prop}
    (lf : K.lookup fI = some ⟨oc, od, .func (ksFn "__init__" qual ps body sc .none kV doc pm an (.ref cda) ct cc), osl⟩) (hp : (ps.posonlyargs ++ ps.args).head? = some ar) (har : ar.arg = "self")
    (lc : K.lookup cda = some ⟨ccl, cdd, .fields vs, ccs⟩) (hvs : vs[2]? = some (.str file tf)) (hfile : ((prog.main.file : Str) == file) = true) (lcell : K.lookup cc = some ⟨cl, cld, .cell (some (.ref C)), csl⟩) (htop : (prog.main.scope.names.lookup ("super" : Str)).isSome = false)
    (hks : sc.names.lookup ("super" : Str) = some .globalImplicit) (hkc : sc.names.lookup ("__class__" : Str) = some .free) (hka : sc.names.lookup ("self" : Str) = some .local) (hl1 : (q3.endLine == q5.line) = true) (hk : sc.kind = .function) (hi : interactive (ksEnv qual sc L fI (.ref cda) cc) = false)
    (hn : s.heap.Ns L m) (hm : m "self" = some (.ref x)) (hx : s.heap.get? x = some (excO C t0))
    (hq : ∀ h' tk t1, (∀ b o, b ≠ x → s.heap.get? b = some o → h'.get? b = some o) → h'.get? x = some (excO C t1) → Q .next { s with heap := h', toks := tk }) :
    _root_.PySem.wpAt (model prog w) A (.func body (ksEnv qual sc L fI (.ref cda) cc)) (exec (iSup msg kM q1 q2 q3 q4 q5 q6) (ksEnv qual sc L fI (.ref cda) cc)) Q E s := by
  obtain ⟨nm, q, N, bs, sn, sub, ab, col, dd, k0, k1, k2, k3, k5, hC⟩ := T.cls
  have X : K.In s.heap := M.kin.keeps kb
  have hcl : clsIn K C = some { name := nm, bases := bs, mro := .ref C :: .ref W :: bmB, ns := N, qualname := q, hasDict := true, slotNames := sn, subclasses := sub, abstract := ab, collection := col, hasDel := false } := by unfold clsIn; rw [hC] <;> rfl
  obtain ⟨mb, hb1, hb2⟩ := M.blt
  have J : PySem.W.InstAt s.heap x (excO C t0) C none := ⟨hx, rfl, rfl, trivial⟩
  have hCh := X _ _ hC
  have hmC : mroIn K C (.ref C) = some true := by
    unfold mroIn
    rw [hcl, Option.bind_some]
    simp
  have hmB : mroIn K C (.type B) = some true := by
    unfold mroIn
    rw [hcl, Option.bind_some, if_neg (show ¬ (List.isEmpty (Value.ref C :: Value.ref W :: bmB) = true) from Bool.false_ne_true)]
    show some ((Value.ref C :: Value.ref W :: bmB).contains (.type B)) = some true
    rw [List.contains_cons, List.contains_cons, Z.fb.hasB, Bool.or_true, Bool.or_true]
  unfold iSup
  refine ks_wpAt_Expr_any ?_ hi
  refine ks_wpAt_MethodCall (pl := L2.plainOf (.Call (.Name "super" q1) [] [] q2) (ksEnv qual sc L fI (.ref cda) cc)) ?_ ?he
  case he =>
    have e1 := fun ov => L2.mcall_line (o := .Call (.Name "super" q1) [] [] q2) (m := "__init__") (apos := q3) (pos := q5) (env := ksEnv qual sc L fI (.ref cda) cc) (ov := ov) (n := 1) (args := backTo q5 (starEach [.Constant (.str msg) kM q4] (ksEnv qual sc L fI (.ref cda) cc))) (kws := []) (by rfl) hl1
    show (attributeBase _ _ _ _ >>= fun ov => standAt q3.atName >>= fun _ => methodCall _ _ _ _ _ ov _ _ _) = _
    refine congrArg _ (funext fun ov => congrArg _ (funext fun _ => ?_))
    exact e1 ov
  refine ks_wpAt_super_base (env := ksEnv qual sc L fI (.ref cda) cc) hks hkc (by decide) rfl (X _ _ lf) rfl hp rfl (X _ _ lc) rfl hvs hfile htop ?_
  refine ks_loadName_global hk hks (loadGlobal_builtin (env := ksEnv qual sc L fI (.ref cda) cc) (M.glob.keeps kb) T.su (hb1.keeps kb) ((hb2 _ (by decide +kernel)).trans (by first | boot_by_name | rfl | kernel_rfl)) ⟨rfl, ?_⟩)
  refine wpAny_loadName_free hk hkc rfl ⟨_, X _ _ lcell, rfl⟩ ?_
  rw [har]
  refine wpAny_loadName_local hk hka hn hm ?_
  refine ks_wpAny_isType_cls hCh rfl ⟨rfl, ?_⟩
  obtain ⟨hh, g, d, t, os⟩ := s
  refine ks_wpAny_call_super hCh rfl J.at_ J.cls (fun c e => ?_) (looks_mroIn X hmC) (fun h1 e1 kk1 => ?_)
  · cases e
  have X1 : K.In h1 := X.keeps kk1
  have J1 : PySem.W.InstAt h1 x (excO C t0) C none := ⟨kk1 _ _ hx, rfl, rfl, trivial⟩
  have hI : Looks (model prog w) h1 (isInstance (.ref x) (.type B)) true := J1.type.andThen (looks_mroIn X1 hmB)
  have hxC : x ≠ C := ks_ne X J hcl
  refine kxs_getMethod Z.kx e1 (looks_opaque X1 T.th) (l₀ := .ref C :: .ref W :: bmB) ?_ rfl X1 (name := "__init__") ?_ hI hxC (by decide) ?_
  · exact fun A Q E s k q => wpAny_bind ((looks_clsIn X1 hcl) A _ E s k (wpAny_pure q))
  · have e0 : ((Value.ref C :: Value.ref W :: bmB).dropWhile (· != .ref C)).drop 1 = .ref W :: bmB := by simp [List.dropWhile_cons]
    rw [e0]
    exact T.al
  refine kxs_callWith (i := initId) (x := x) (by rfl) ?_
  show wpAny _ _ (evalArgs _ true ((false, eval (.Constant (.str msg) kM q4) (ksEnv qual sc L fI (.ref cda) cc)) :: []) []) _ _ _
  refine evalArgs_plain (spliced_cons (wpAny_Constant_str (spliced_nil ⟨Heap.get?_push_at rfl rfl, ?_⟩)))
  have up2 : ∀ b o, h1.get? b = some o → (h1.push (kxs_mw initId x)).get? b = some o := fun b o e => Heap.get?_push_of_some _ e
  refine wpAny_call (codeAny_of_tree ?_)
  show wpAny _ A.in1 (callAny (.ref _) ⟨[.str msg _], []⟩) _ _ _
  simp only [callAny]
  refine wpAny_bind (wpAny_load (Heap.get?_push_at rfl rfl) ?_)
  simp only [kxs_mw, show (Value.type "method-wrapper" == Value.type "method" || Value.type "method-wrapper" == Value.type "builtin_function_or_method" || Value.type "method-wrapper" == Value.type "method-wrapper") = true by decide, if_true]
  refine KFB.if_so (by decide) ?_
  refine wpAny_bind (check_bound_init Z.fb.toExcCallFacts (up2 _ _ (kk1 _ _ hCh)) (up2 _ _ (kk1 _ _ hx)) rfl ?_)
  refine wpAny_bind (wpAny_pure (wpAny_pure ?_))
  refine ⟨plainId_quiet Z.fb.init.plain _, codeAny_builtin Z.fb.initEntry ?_⟩
  refine exc_init_tree (cls := .ref C) (t0 := t0) (dv := none) (c2 := .none) (c3 := .none) (b4 := .bool false) (up2 _ _ (kk1 _ _ hx)) (by show 1 ≤ sizeLine; rw [sizeLine_eq]; omega) fun h2 k2' he' _ => ?_
  exact hq h2 _ _ (fun b o hb e => k2' b o hb (up2 _ _ (kk1 _ _ e))) he'
end
end Fx
set_option Elab.async false
set_option linter.all false
set_option maxRecDepth 100000
set_option maxHeartbeats 4000000
namespace Fx
open PySem PySem.W PySem.Calls PyProof.Rows PySem.HandSPX
open Builtin Builtin.ObjectAttr
/-- an error made: at x, its dict at dx with the one attribute -/
abbrev excD (C t : Addr) (dx : Option Addr) : Obj := { cls := .ref C, dict := dx, data := .fields #[.ref t, .none, .none, .none, .bool false, .none] }
theorem cellS1 (f : Str) : ∀ y ∈ (iS1 f).names, y.2 ≠ .cell := by
  intro y hy
  simp only [iS1, List.mem_cons, List.not_mem_nil, or_false] at hy
  rcases hy with rfl | rfl | rfl | rfl <;> exact fun z => nomatch z
theorem locS1 {f : Str} (hf : f = "given" ∨ f = "index") (a b : Value) : ∀ y ∈ [((Str.ofString "self" : Str), a), (f, b)], (iS1 f).names.lookup y.1 = some .local := by
  intro y hy
  simp only [List.mem_cons, List.not_mem_nil, or_false] at hy
  rcases hf with rfl | rfl <;> rcases hy with rfl | rfl <;> rfl
theorem cellS0 : ∀ y ∈ iS0.names, y.2 ≠ .cell := by
  intro y hy
  simp only [iS0, List.mem_cons, List.not_mem_nil, or_false] at hy
  rcases hy with rfl | rfl | rfl <;> exact fun z => nomatch z
theorem locS0 (a : Value) : ∀ y ∈ [((Str.ofString "self" : Str), a)], iS0.names.lookup y.1 = some .local := by
  intro y hy
  simp only [List.mem_cons, List.not_mem_nil, or_false] at hy
  subst hy
  rfl
section
variable {prog : Program} {w : World} {A : Around} {R : Result → Shared → Prop} {s : Shared} {B newId initId : String} {bmB : List Value} {K : Frag} {mg : Str → Option Value} {base : Heap} {C W fI : Addr}
theorem ldK {M : Model} {E : Value → Shared → Prop} {nm : Str} {sc : Scope} {L a cc : Addr} {cd : Value} {m : Str → Option Value} {y : Str} {pos : Pos} {v : Value} {Q : Value → Shared → Prop} (hn : s.heap.Ns L m) (hv : m y = some v) (h : Q v s)
    (hk : sc.kind = .function := by rfl) (hl : (ksEnv nm sc L a cd cc).kindOf y = some .local := by rfl) (hd : (y == ("__debug__" : Str)) = false := by decide) : wpAny M A (PySem.eval (.Name y pos) (ksEnv nm sc L a cd cc)) Q E s :=
  wpAny_Name (wpAny_loadName_local hk hl hn hv h) hd
theorem init1 (Z : Root B newId initId bmB) (T : ErrT K mg newId initId bmB C W fI) (M : L2.Mod K mg base) (kb : ∀ b o, base.get? b = some o → s.heap.get? b = some o) {f : Str} (hf : f = "given" ∨ f = "index") (noF : findIn K (.ref C) f = some none)
    (N : Fn1 prog K C fI f) {x t0 : Addr} {v : Value} {args : Args} (hb : args = ⟨[.ref x, v], []⟩ ∨ args = ⟨[.ref x], [(f, v)]⟩) (hx : s.heap.get? x = some (excO C t0)) (hnx : base.get? x = none) (hroom : A.depth < recursionLimit)
    (hq : ∀ h' tk dx t1, (∀ b o, b ≠ x → s.heap.get? b = some o → h'.get? b = some o) → h'.get? x = some (excD C t1 (some dx)) → s.heap.objs.size ≤ dx → dx ≠ x → h'.Ns1 dx (fun y => if y = f then some v else none) → R (.ok (.ret .none)) { s with heap := h', toks := tk }) :
    codeAny (model prog w) A (.call (.ref fI) args) R s := by
  obtain ⟨oc, od, qual, msg, kM, kV, doc, pm, an, cda, cc, ct, osl, p1, p2, q1, q2, q3, q4, q5, q6, r1, r2, r3, r4, vs, file, tf, ccl, cl, cdd, cld, ccs, csl, lf, lcd, lc, hvs, hfile, lcell, htop, hl1⟩ := N
  obtain ⟨nm, q, N, bs, sn, sub, ab, col, dd, k0, k1, k2, k3, k5, hC⟩ := T.cls
  have X : K.In s.heap := M.kin.keeps kb
  have hcl : clsIn K C = some { name := nm, bases := bs, mro := .ref C :: .ref W :: bmB, ns := N, qualname := q, hasDict := true, slotNames := sn, subclasses := sub, abstract := ab, collection := col, hasDel := false } := by unfold clsIn; rw [hC] <;> rfl
  rcases hf with rfl | rfl
  all_goals
    refine ks_codeAny_call_defAt (fd := ksFn "__init__" qual (iA1 _ p1 p2) [iSup msg kM q1 q2 q3 q4 q5 q6, iSet _ r1 r2 r3 r4] (iS1 _) .none kV doc pm an (.ref cda) ct cc) (body := [iSup msg kM q1 q2 q3 q4 q5 q6, iSet _ r1 r2 r3 r4]) (binds := [("self", .ref x), (_, v)]) hroom (X _ _ lf) rfl (M.nolimit.keeps kb) (codeRec_of X lcd) rfl (by rcases hb with rfl | rfl <;> exact .of_eq rfl) (cellS1 _) (locS1 (by first | exact .inl rfl | exact .inr rfl) _ _) (fun h₁ hns hk₁ => ?_) rfl rfl rfl
    refine ks_wpAt_execs_cons (sup_stmt Z T M (fun b o e => hk₁ b o (kb b o e)) lf rfl rfl lc hvs hfile lcell htop rfl rfl rfl hl1 rfl rfl hns (m := fun y => [((PySem.Str.ofString "self" : Str), Value.ref x), (_, v)].reverse.lookup y) (by rfl) (hk₁ _ _ hx) fun h₂ tk₂ t2 k₂ e₂ => ?_)
    refine wpAt_of_wpAny ?_
    have xL : s.heap.objs.size ≠ x := Nat.ne_of_gt (Heap.lt_size hx)
    have hns2 := hns
    obtain ⟨oL, es, ep, hL, rL⟩ := hns2
    have hns' : h₂.Ns s.heap.objs.size (fun y => [((PySem.Str.ofString "self" : Str), Value.ref x), (_, v)].reverse.lookup y) := ⟨oL, es, ep, k₂ _ _ xL hL, rL⟩
    have X₂ : K.In h₂ := fun b o e => k₂ b o (fun z => by
      have y := M.kin b o e
      rw [z, hnx] at y
      cases y) (hk₁ b o (X b o e))
    refine wpAny_execs_cons (plainObj_wpAny_Assign_Attribute ?_)
    refine ldK (v := v) hns' (by rfl) (ldK (v := .ref x) hns' (by rfl) ?_)
    refine set_plain X₂ (ox := excO C t2) (od := none) ⟨e₂, rfl, rfl, trivial⟩ T.sa ?_
    refine osa Z X₂ e₂ hcl rfl rfl noF fun h₃ tk₃ dx k₃ dn dne hx₃ hn₃ => ?_
    show wpAny _ _ (execs _ _) _ _ _
    refine wpAny_execs_nil (hq h₃ tk₃ dx t2 (fun b o hb e => k₃ b o hb (k₂ b o hb (hk₁ b o e))) hx₃ ?_ dne hn₃)
    exact Nat.le_trans (Nat.le_of_lt hns'.lt) dn
end
end Fx
set_option Elab.async false
set_option linter.all false
set_option maxRecDepth 100000
set_option maxHeartbeats 4000000
namespace Fx
open PySem PySem.W PySem.Calls PyProof.Rows PySem.HandSPX
open Builtin Builtin.ObjectAttr
/-! a class of errors called, with any positional and keyword arguments -/
section
variable {M : Model} {A : Around} {E : Value → Shared → Prop} {g0 : Heap} {gs : Array GenState} {dr : Drawn} {tk0 : Nat} {oz : OsState}
variable {nm qn : Str} {C N : Addr} {bs bm bmB : List Value} {hdct : Bool} {sn : List Str} {sub : List Value} {ab : Bool} {col : Option Bool} {dd : Option Addr} {k0 k1 k2 k3 k5 : Option Value} {B newId initId : String}
theorem kw_check (F : ExcBaseFacts B newId initId bmB) (hT : ∀ y : String, bm.contains (.type y) = bmB.contains (.type y)) {rest : List Value} {kw : List (Str × Value)} {Q : Unit → Shared → Prop}
    (hC : g0.get? C = some (excClassObj nm qn C N bs bm hdct sn sub ab col dd k0 k1 k2 k3 k5 newId)) (hq : Q () ⟨g0, gs, dr, tk0, oz⟩) : wpAny M A (checkBuiltinCall newId ⟨.ref C :: rest, kw⟩) Q E ⟨g0, gs, dr, tk0, oz⟩ := by
  have hB : (Value.ref C :: bm).contains (.type B) = true := by
    rw [List.contains_cons, hT, F.hasB, Bool.or_true]
  have hns := F.noStar
  simp only [checkBuiltinCall, F.newKind, F.newSplit, F.newRow]
  repeat (first | refine wpAny_loadPart_at hC ?_ | (refine wpAny_isSubtype_exc hC ?_; rw [hB]) | refine wpAny_staticBase_exc hC ?_ | refine wpAny_madeBy_exc hC ?_ | simp only [bne_self_eq_false, Bool.false_eq_true, if_false] | wp_step)
  first
    | exact hq
    | skip
end
section
variable {prog : Program} {w : World} {A : Around} {E : Value → Shared → Prop} {R : Result → Shared → Prop} {g0 : Heap} {gs : Array GenState} {dr : Drawn} {tk0 : Nat} {oz : OsState}
variable {nm qn : Str} {C N : Addr} {bs bm bmB : List Value} {hdct : Bool} {sn : List Str} {sub : List Value} {ab : Bool} {col : Option Bool} {dd : Option Addr} {k0 k1 k2 k3 k5 : Option Value} {B newId initId : String}
theorem kw_new (F : ExcBaseFacts B newId initId bmB) (hT : ∀ y : String, bm.contains (.type y) = bmB.contains (.type y)) {rest : List Value} {kw : List (Str × Value)}
    (hC : g0.get? C = some (excClassObj nm qn C N bs bm hdct sn sub ab col dd k0 k1 k2 k3 k5 newId))
    (hq : R (.ok (.ret (.ref (g0.objs.size + 1)))) ⟨(g0.push (kdv_tup rest)).push (excO C g0.objs.size), gs, dr, tk0, oz⟩) (hz : rest.length ≤ sizeLine) :
    codeAny (model prog w) A (.builtin newId ⟨.ref C :: rest, kw⟩) R ⟨g0, gs, dr, tk0, oz⟩ := by
  have he := F.ends
  have hB : (Value.ref C :: bm).contains (.type B) = true := by
    rw [List.contains_cons, hT, F.hasB, Bool.or_true]
  have hA : (Value.ref C :: bm).contains (.type "AttributeError") = false := by
    rw [List.contains_cons, hT, F.noAttr]
    rfl
  have hN : (Value.ref C :: bm).contains (.type "NameError") = false := by
    rw [List.contains_cons, hT, F.noName]
    rfl
  refine codeAny_builtinAt F.entry ?_
  unfold Builtin.«BaseException.__new__»
  refine _root_.PySem.wpAt_bind ?_
  show _root_.PySem.wpAt _ _ _ (stack >>= _) _ _ _
  refine _root_.PySem.wpAt_bind (_root_.PySem.wpAt_stack fun p below => _root_.PySem.wpAt_of_wpAny ?_)
  wp_walk
  refine _root_.PySem.wpAt_of_wpAny ?_
  rw [F.owner]
  repeat (first | with_reducible refine wpAny_madeHere_exc F.canon hC ?_ | with_reducible refine wpAny_loadPart_at hC ?_ | (with_reducible refine wpAny_isSubtype_exc hC ?_; first | rw [hB] | rw [hA] | rw [hN]) | wp_step)
  show R _ _
  rw [Heap.size_push]
  exact hq
theorem kw_type (F : ExcBaseFacts B newId initId bmB) (hT : ∀ y : String, bm.contains (.type y) = bmB.contains (.type y)) {rest : List Value} {kw : List (Str × Value)} {fI : Addr} {Q : Fin → Shared → Prop}
    (hC : g0.get? C = some (excClassObj nm qn C N bs bm hdct sn sub ab col dd k0 k1 k2 k3 k5 newId))
    (hi : Looks (model prog w) g0 (typeLookup (.ref C) "__init__") (some (.ref fI))) (hb : ∀ self, Looks (model prog w) g0 (bindSpecial (.ref fI) self) (.ref fI, [self])) (hz : rest.length ≤ sizeLine)
    (hq : codeAny (model prog w) A (.call (.ref fI) ⟨.ref (g0.objs.size + 1) :: rest, kw⟩)
      (fun r s' => match r with | .ok (.ret v) => v = .none ∧ Q (.done (.ret (.ref (g0.objs.size + 1)))) s' | .ok _ => False | .error e => E e s')
      ⟨(g0.push (kdv_tup rest)).push (excO C g0.objs.size), gs, dr, tk0, oz⟩) :
    wpAny (model prog w) A (Builtin.«type.__call__» ⟨.ref C :: rest, kw⟩) Q E ⟨g0, gs, dr, tk0, oz⟩ := by
  repeat (first | with_reducible refine wpAny_loadPart_at hC ?_ | with_reducible refine wpAny_madeBy_exc hC ?_ | wp_step)
  refine codeAny_call_builtin_code (Code.quiet_builtin _ F.quiet) (kw_check F hT hC ?_)
  refine kw_new F hT hC ?_ hz
  show wpAny _ _ _ _ _ _
  have k : ∀ b o, g0.get? b = some o → ((g0.push (kdv_tup rest)).push (excO C g0.objs.size)).get? b = some o := fun b o e => Heap.get?_push_of_some _ (Heap.get?_push_of_some _ e)
  have hC₁ := k _ _ hC
  have hget : ((g0.push (kdv_tup rest)).push (excO C g0.objs.size)).get? (g0.objs.size + 1) = some (excO C g0.objs.size) := by heap_get
  have hCC : (Value.ref C :: bm).contains (.ref C) = true := by simp
  have i1 := hi.keeps k
  have b1 := (hb (.ref (g0.objs.size + 1))).keeps k
  unfold isInstance
  repeat (first | with_reducible refine wpAny_loadPart_at hget ?_ | (with_reducible refine wpAny_isSubtype_exc hC₁ ?_; rw [hCC]) | wp_step)
  show wpAny _ _ (typeLookup (.ref C) _) _ _ _
  refine i1.at ?_
  refine wpAny_holding (wpAny_bind (b1.at ?_))
  refine wpAny_bind (wpAny_call (codeAny_mono hq fun r s' z => ?_))
  rcases r with e | (v | _ | _ | _) <;> first | exact z | exact z.elim | skip
  obtain ⟨rfl, z⟩ := z
  first
    | exact wpAny_pure (wpAny_pure z)
    | (wp_walk; exact z)
theorem kw_call (F : ExcBaseFacts B newId initId bmB) (hT : ∀ y : String, bm.contains (.type y) = bmB.contains (.type y)) {rest : List Value} {kw : List (Str × Value)} {fI : Addr}
    (hC : g0.get? C = some (excClassObj nm qn C N bs bm hdct sn sub ab col dd k0 k1 k2 k3 k5 newId))
    (hi : Looks (model prog w) g0 (typeLookup (.ref C) "__init__") (some (.ref fI))) (hb : ∀ self, Looks (model prog w) g0 (bindSpecial (.ref fI) self) (.ref fI, [self])) (hz : rest.length ≤ sizeLine)
    (hq : codeAny (model prog w) (A.under (.builtin "type.__call__" ⟨.ref C :: rest, kw⟩)) (.call (.ref fI) ⟨.ref (g0.objs.size + 1) :: rest, kw⟩) (InitBack (g0.objs.size + 1) R)
      ⟨(g0.push (kdv_tup rest)).push (excO C g0.objs.size), gs, dr, tk0, oz⟩) :
    codeAny (model prog w) A (.call (.ref C) ⟨rest, kw⟩) R ⟨g0, gs, dr, tk0, oz⟩ := by
  have f1 := tc_lookup
  have f2 := tc_bind (.ref C)
  have hTy : (⟨g0, gs, dr, tk0, oz⟩ : Shared).TypeIs (.ref C) "type" := ⟨_, hC, rfl⟩
  refine codeAny_of_tree ?_
  show wpAny _ _ (callAny (.ref C) _) _ _ _
  repeat (any_goals (first | assumption | with_reducible refine wpAny_loadPart_at hC ?_ | wp_step))
  refine ⟨rfl, ?_⟩
  refine codeAny_call_builtin_at (Code.quiet_builtin _ (by decide +kernel)) entry_typeCall (wpAny_check_type_call_sub hC (kw_type F hT hC hi hb hz ?_))
  refine codeAny_mono hq fun r s' z => ?_
  rcases r with e | (v | _ | _ | _) <;> exact z
end
end Fx
set_option Elab.async false
set_option linter.all false
set_option maxRecDepth 100000
set_option maxHeartbeats 4000000
namespace Fx
open PySem L2
open PySem.W (Frag)
/-- what the walk asks of a class of errors with one attribute f -/
structure Err1 (prog : Program) (K : Frag) (mg : Str → Option Value) (newId initId : String) (bmB : List Value) (C W fI : Addr) (f : Str) : Prop where
  t : ErrT K mg newId initId bmB C W fI
  n : Fn1 prog K C fI f
  no : PySem.W.findIn K (.ref C) f = some none
  ff : f = "given" ∨ f = "index"
section
variable {X : Cx} {pins : List (Addr × Obj)} {σ : St} {H : Hp} {s : Shared} {B newId initId : String} {bmB : List Value} {C W fI : Addr} {f : Str} {k : Nat}
theorem hT_of (Z : Root B newId initId bmB) (W : Addr) : ∀ y : String, (Value.ref W :: bmB).contains (.type y) = bmB.contains (.type y) := fun y => by
  rw [List.contains_cons]
  rfl
/-- what stands new: the error at a, its dict at d -/
theorem err_laid (I : Inv X pins σ H s) {h' : Heap} {a d t1 : Addr} {mA : Str → Option Value} {fs : List (Str × V)} {tk : Nat} (k : ∀ b o, s.heap.get? b = some o → h'.get? b = some o) (ha : s.heap.objs.size ≤ a) (hd : s.heap.objs.size ≤ d) (ne : d ≠ a)
    (ea : h'.get? a = some (excD C t1 (some d))) (ed : h'.Ns1 d mA) (rel : ∀ g, RelO (fs.lookup g) (mA g)) :
    H a = none ∧ H d = none ∧ Inv X pins σ (upd (upd H d (exd d fs)) a (exo a C (some d))) { s with heap := h', toks := tk } := by
  have na : H a = none := I.hok.fresh ha
  have nd : H d = none := I.hok.fresh hd
  have la : ∀ {b : Addr} {o : Obj}, s.heap.get? b = some o → b ≠ a := fun {b o} q => Nat.ne_of_lt (Nat.lt_of_lt_of_le (Heap.lt_size q) ha)
  have ld : ∀ {b : Addr} {o : Obj}, s.heap.get? b = some o → b ≠ d := fun {b o} q => Nat.ne_of_lt (Nat.lt_of_lt_of_le (Heap.lt_size q) hd)
  have up : ∀ {b : Addr}, b ≠ a → b ≠ d → (upd (upd H d (exd d fs)) a (exo a C (some d))) b = H b := fun {b} h1 h2 => by
    rw [upd_ne h1, upd_ne h2]
  have us : ∀ {b : Addr} {o : HO}, H b = some o → (upd (upd H d (exd d fs)) a (exo a C (some d))) b = some o := fun {b o} q => by
    rw [up (ne_of_none q na) (ne_of_none q nd)]
    exact q
  refine ⟨na, nd, I.un (t' := tk) ⟨fun b o q _ _ _ => k b o q, fun b o q _ _ _ => ⟨o.slots, k b o q⟩, fun b o q n _ => ?_, fun b o q _ => ⟨o, k b o q⟩, fun b xs q => us q, fun b o v q => us q, fun b ps q => ⟨#[], by rw [us q]; simp⟩⟩ fun b o q => ?_⟩
  · rw [up (la q) (ld q)]
    exact n
  · by_cases h1 : b = a
    · subst h1
      rw [upd_same] at q
      cases q
      exact exo_ok ea
    · rw [upd_ne h1] at q
      by_cases h2 : b = d
      · subst h2
        rw [upd_same] at q
        cases q
        exact exd_ok ed rel
      · rw [upd_ne h2] at q
        exact (I.hok b o q).stay (fun c v _ z => k c v z) (fun c z => us z) fun c xs z => us z
theorem run_err (Z : Root B newId initId bmB) (T : Err1 X.prog X.K X.mg newId initId bmB C W fI f) (hr : Room (k + 1) X.A) (I : Inv X pins σ H s) {y : V} {u : Value} (ry : RelV y u) {pos : List Value} {kw : List (Str × Value)}
    (ha : (pos = [u] ∧ kw = []) ∨ (pos = [] ∧ kw = [(f, u)])) {Q : VK} (h : ∀ a d, H a = none → H d = none → d ≠ a → Q (.ref a) (upd (upd H d (exd d [(f, y)])) a (exo a C (some d)))) :
    wpAny (model X.prog X.w) X.A (call (.ref C) pos kw) (EP X pins σ Q) X.xe s := by
  obtain ⟨nm, q, N, bs, sn, sub, ab, col, dd, k0, k1, k2, k3, k5, hC⟩ := T.t.cls
  obtain ⟨hp, g, dr, tk, os⟩ := s
  have kk : ∀ b o, hp.get? b = some o → ((hp.push (PySem.W.kdv_tup pos)).push (PySem.HandSPX.excO C hp.objs.size)).get? b = some o := fun b o e => Heap.get?_push_of_some _ (Heap.get?_push_of_some _ e)
  have hget : ((hp.push (PySem.W.kdv_tup pos)).push (PySem.HandSPX.excO C hp.objs.size)).get? (hp.objs.size + 1) = some (PySem.HandSPX.excO C hp.objs.size) := by heap_get
  have hz : pos.length ≤ sizeLine := by
    rw [sizeLine_eq]
    rcases ha with ⟨rfl, _⟩ | ⟨rfl, _⟩
    · show 1 ≤ 16777216
      decide
    · show 0 ≤ 16777216
      decide
  have nb : X.base.get? (hp.objs.size + 1) = none := by
    cases e : X.base.get? (hp.objs.size + 1) with
    | none => rfl
    | some o =>
      have z : hp.get? (hp.objs.size + 1) = some o := I.bk _ _ e
      exact absurd (Nat.lt_of_succ_lt (Heap.lt_size z)) (Nat.lt_irrefl _)
  have args : (Args.mk (Value.ref (hp.objs.size + 1) :: pos) kw) = ⟨[.ref (hp.objs.size + 1), u], []⟩ ∨ (Args.mk (Value.ref (hp.objs.size + 1) :: pos) kw) = ⟨[.ref (hp.objs.size + 1)], [(f, u)]⟩ := by
    rcases ha with ⟨rfl, rfl⟩ | ⟨rfl, rfl⟩
    · exact .inl rfl
    · exact .inr rfl
  refine wpAny_call (kw_call Z.fb (hT_of Z W) (I.kIn _ _ hC) (PySem.W.looks_findIn I.kIn T.t.iC) (fun self => PySem.W.bind_fn I.kIn self T.t.tI) hz ?_)
  refine init1 (s := ⟨(hp.push (PySem.W.kdv_tup pos)).push (PySem.HandSPX.excO C hp.objs.size), g, dr, tk, os⟩) Z T.t I.ok.mod (fun b o e => kk b o (I.bk b o e)) T.ff T.no T.n args hget nb ?_ fun h' tk' dx t1 k1 e1 dn dne hn => ?_
  · rw [make_depth]
    have := hr.dp
    omega
  · have old : ∀ b o, hp.get? b = some o → h'.get? b = some o := fun b o e => k1 b o (Nat.ne_of_lt (Nat.lt_succ_of_lt (Heap.lt_size e))) (kk b o e)
    have sz : hp.objs.size ≤ dx := by
      have z : ((hp.push (PySem.W.kdv_tup pos)).push (PySem.HandSPX.excO C hp.objs.size)).objs.size ≤ dx := dn
      rw [Heap.size_push, Heap.size_push] at z
      omega
    obtain ⟨na, nd, J⟩ := err_laid (fs := [(f, y)]) (tk := tk') I old (Nat.le_succ _) sz dne e1 hn (relO_put (fs := []) (mA := fun _ => none) ry fun g => True.intro)
    exact ⟨rfl, .ref (hp.objs.size + 1), _, J, rfl, h _ _ na nd dne⟩
end
end Fx
set_option Elab.async false
set_option linter.all false
set_option maxRecDepth 100000
set_option maxHeartbeats 4000000
namespace Fx
open PySem L2
open PySem.W (Frag)
section
variable {X : Cx} {pins : List (Addr × Obj)} {σ : St} {H : Hp} {s : Shared} {B newId initId : String} {bmB : List Value} {C W fI : Addr} {f : Str} {k : Nat} {x : Str} {p pos kpos : Pos} {e : Expr} {te : TE}
/-- C(e), C(f=e): a new error at a, its dict at d -/
def tErr (C : Addr) (f : Str) (te : TE) : TE := fun σ H Q => te σ H fun y H1 => ∀ a d, H1 a = none → H1 d = none → d ≠ a → Q (.ref a) (upd (upd H1 d (exd d [(f, y)])) a (exo a C (some d)))
theorem pe_err (Z : Root B newId initId bmB) (T : Err1 X.prog X.K X.mg newId initId bmB C W fI f) (hr : Room (k + 1) X.A) (gC : X.mg x = some (.ref C)) (hg : Gl X x) (he : PE X e te) (hs : starEach [e] X.env = (false, eval e X.env) :: starEach [] X.env := by rfl)
    (hdb : (x == ("__debug__" : Str)) = false := by decide) : PE X (.Call (.Name x p) [e] [] pos) (tErr C f te) := by
  refine ⟨fun pins s σ H Q I h => ?_⟩
  refine wpAny_Call_Name_kw (ld_glob I hg gC ?_ hdb)
  refine PySem.W.callWith_K (h₀ := X.base) I.ok.mod.kin T.t.kC ?_ hs (by rfl)
  rw [hs]
  show wpAny _ _ (spliced ((false, eval e X.env) :: backTo pos (starEach [] X.env))) _ _ s
  refine Calls.spliced_cons (thn (he.run pins s σ H _ I h) fun u s1 ⟨y, H1, I1, r1, q1⟩ => ?_)
  refine Calls.spliced_nil ⟨I1.kIn, ?_⟩
  exact run_err Z T hr I1 r1 (.inl ⟨rfl, rfl⟩) q1
theorem pe_errK (Z : Root B newId initId bmB) (T : Err1 X.prog X.K X.mg newId initId bmB C W fI f) (hr : Room (k + 1) X.A) (gC : X.mg x = some (.ref C)) (hg : Gl X x) (he : PE X e te)
    (hdb : (x == ("__debug__" : Str)) = false := by decide) : PE X (.Call (.Name x p) [] [⟨some f, e, kpos⟩] pos) (tErr C f te) := by
  refine ⟨fun pins s σ H Q I h => ?_⟩
  refine wpAny_Call_Name_kw (ld_glob I hg gC ?_ hdb)
  refine PySem.W.callWith_KW0 (h₀ := X.base) I.ok.mod.kin T.t.kC (by rfl) ?_ (by rfl)
  have hk : PK X [⟨some f, e, kpos⟩] (tCons te tNil) := pk_cons he pk_nil
  refine thn (hk.run pos pins s σ H (fun vs H1 => match vs with | [y] => ∀ a d, H1 a = none → H1 d = none → d ≠ a → Q (.ref a) (upd (upd H1 d (exd d [(f, y)])) a (exo a C (some d))) | _ => False) I h) fun us s1 ⟨vs, H1, I1, r1, q1⟩ => ⟨I1.kIn, ?_⟩
  cases r1 with
  | nil => exact q1.elim
  | cons ry rn =>
    cases rn with
    | nil => exact run_err Z T hr I1 ry (.inr ⟨rfl, rfl⟩) q1
    | cons r2 rn => exact q1.elim
end
/-- an error stands at a -/
def IsE (H : Hp) (a C : Addr) : Prop := (∃ dd fs, H a = some (exo a C (some dd)) ∧ H dd = some (exd dd fs)) ∨ H a = some (exo a C none) ∨ H a = some (ExO (.ref C) a)
/-- what the class says, so that isinstance asks its errors rightly -/
structure IsC (K : Frag) (C : Addr) : Prop where
  cl : (PySem.W.clsIn K C).isSome = true
  ga : PySem.W.findIn K (.ref C) "__getattribute__" = some (some (.builtin "BaseException.__getattribute__"))
  gg : PySem.W.findIn K (.ref C) "__getattr__" = some none
  ex : PySem.W.subIn K (.ref C) (.type "BaseException") = some true
  ha : PySem.W.findIn K (.ref C) "__class__" = some (some (.builtin "object.__class__"))
  hn : PySem.W.specialIn K (.builtin "object.__class__") "__get__" = some (some (.builtin "getset_descriptor.__get__"))
  ht : PySem.W.takesIn K (.builtin "object.__class__") = some true
  hm : PySem.W.mroIn K C (.type "object") = some true
section
variable {X : Cx} {pins : List (Addr × Obj)} {σ : St} {H : Hp} {s : Shared} {a C : Addr}
theorem isE_inst (I : Inv X pins σ H s) (h : IsE H a C) : ∃ ox od, PySem.W.InstAt s.heap a ox C od := by
  rcases h with ⟨dd, fs, h1, h2⟩ | h1 | h1
  · obtain ⟨t1, e1⟩ := exo_at I.hok h1
    obtain ⟨mA, ⟨od, es, ep, e2, _⟩, _⟩ := exd_at I.hok h2
    exact ⟨_, some od, e1, rfl, rfl, e2⟩
  · obtain ⟨t1, e1⟩ := exo_at I.hok h1
    exact ⟨_, none, e1, rfl, rfl, trivial⟩
  · have z : ObjOk X.prog X.w H s.heap a (ExO (.ref C) a) := I.hok a _ h1
    obtain ⟨⟨oe, vs, ho, hz, hd, _⟩, _, _⟩ := z
    obtain ⟨oc, od, oda, osl⟩ := oe
    obtain ⟨z1, z2⟩ := hz
    dsimp only at z1 z2 hd
    subst z1 z2 hd
    exact ⟨_, none, ho, rfl, rfl, trivial⟩
/-- isinstance(e, c), e an error -/
def rIsE (K : Frag) : List V → Hp → VK → Prop := fun xs H Q => ∃ (a C : Addr) (c : V) (u : Value) (b : Bool), xs = [.ref a, c] ∧ ClsV c u ∧ IsE H a C ∧ IsC K C ∧ PySem.W.kitOne K (.ref C) u = some b ∧ Q (.bl b) H
theorem call_isE {X : Cx} : CallR X (.builtin "isinstance") (rIsE X.K) := by
  intro pins s σ H xs us Q I r h
  obtain ⟨a, C, c, u, b, rfl, kc, ie, T, e, q⟩ := h
  obtain ⟨u1, u2, rfl, r1, r2⟩ := vals2 r
  have e2 := kc.eq r2
  subst e2
  cases (show u1 = Value.ref a from r1)
  obtain ⟨ox, od, J⟩ := isE_inst I ie
  exact PySem.W.kia_one (PySem.W.kitx_exc (gt := none) T.cl T.ga T.gg T.ex T.ha T.hn T.ht T.hm) I.kIn J e (fun z => nomatch z) fun tk => ⟨.bl b, H, I.tok tk, rfl, q⟩
/-- e.f, e an error with a dict -/
def tEf (K : Frag) (f : Str) (te : TE) : TE := fun σ H Q => te σ H fun x H1 => ∃ (a C dd : Addr) (fs : List (Str × V)) (v : V), x = .ref a ∧ H1 a = some (exo a C (some dd)) ∧ H1 dd = some (exd dd fs) ∧ fs.lookup f = some v ∧ XfC K C ∧ PySem.W.findIn K (.ref C) f = some none ∧ Q v H1
theorem pe_ef {X : Cx} {e : Expr} {te : TE} {pos : Pos} {n : Str} (he : PE X e te) (hb : attributeBase e n X.env (eval e X.env) = eval e X.env := by rfl) : PE X (.Attribute e n pos) (tEf X.K n te) := by
  refine ⟨fun pins s σ H Q I h => ?_⟩
  refine attr_of hb (thn (he.run pins s σ H _ I h) fun u s1 hh => ?_)
  obtain ⟨x, H1, I1, rx, a, C, dd, fs, v, ex, ea, ed, l, T, hno, q⟩ := hh
  subst ex
  obtain rfl : u = Value.ref a := rx
  obtain ⟨t1, e1⟩ := exo_at I1.hok ea
  obtain ⟨mA, hns, hr⟩ := exd_at I1.hok ed
  obtain ⟨od, ho, hl⟩ := lookIn_ns hns
  obtain ⟨u, hu, ru⟩ := RelO.some_of (v := v) (o := mA n) (by rw [← l]; exact hr n)
  have J : PySem.W.InstAt s1.heap a _ C (some od) := ⟨e1, rfl, rfl, ho⟩
  exact HandSPX.exc_get I1.kIn J T.ga T.gg T.exC (PySem.W.findObj_own T.hdC hno rfl (by rw [hl, hu])) (handed_of ru) ⟨v, H1, I1.tok _, ru, q⟩
end
end Fx
set_option Elab.async false
set_option linter.all false
set_option maxRecDepth 100000
set_option maxHeartbeats 4000000
namespace Fx
open PySem PySem.W PySem.Calls PyProof.Rows PySem.HandSPX
open Builtin Builtin.ObjectAttr
/-- an __init__ without parameters -/
def Fn0 (prog : Program) (K : Frag) (C fI : Addr) : Prop := ∃ (oc : Value) (od : Option Addr) (qual msg : Str) (kM : Nat) (kV doc pm : Value) (an : Option Addr) (cda cc : Addr) (ct : Value) (osl : Array (Option Value)) (p1 q1 q2 q3 q4 q5 q6 : Pos) (vs : Array Value) (file : Str) (tf : Tok) (ccl cl : Value) (cdd cld : Option Addr) (ccs csl : Array (Option Value)),
    K.lookup fI = some ⟨oc, od, .func (ksFn "__init__" qual (iA0 p1) [iSup msg kM q1 q2 q3 q4 q5 q6] iS0 .none kV doc pm an (.ref cda) ct cc), osl⟩ ∧ codeIn K (.ref cda) qual = true ∧
    K.lookup cda = some ⟨ccl, cdd, .fields vs, ccs⟩ ∧ vs[2]? = some (.str file tf) ∧ ((prog.main.file : Str) == file) = true ∧ K.lookup cc = some ⟨cl, cld, .cell (some (.ref C)), csl⟩ ∧ (prog.main.scope.names.lookup ("super" : Str)).isSome = false ∧ (q3.endLine == q5.line) = true
section
variable {prog : Program} {w : World} {A : Around} {R : Result → Shared → Prop} {s : Shared} {B newId initId : String} {bmB : List Value} {K : Frag} {mg : Str → Option Value} {base : Heap} {C W fI : Addr}
theorem init0 (Z : Root B newId initId bmB) (T : ErrT K mg newId initId bmB C W fI) (M : L2.Mod K mg base) (kb : ∀ b o, base.get? b = some o → s.heap.get? b = some o)
    (N : Fn0 prog K C fI) {x t0 : Addr} (hx : s.heap.get? x = some (excO C t0)) (hroom : A.depth < recursionLimit)
    (hq : ∀ h' tk t1, (∀ b o, b ≠ x → s.heap.get? b = some o → h'.get? b = some o) → h'.get? x = some (excD C t1 none) → R (.ok (.ret .none)) { s with heap := h', toks := tk }) :
    codeAny (model prog w) A (.call (.ref fI) ⟨[.ref x], []⟩) R s := by
  obtain ⟨oc, od, qual, msg, kM, kV, doc, pm, an, cda, cc, ct, osl, p1, q1, q2, q3, q4, q5, q6, vs, file, tf, ccl, cl, cdd, cld, ccs, csl, lf, lcd, lc, hvs, hfile, lcell, htop, hl1⟩ := N
  have X : K.In s.heap := M.kin.keeps kb
  refine ks_codeAny_call_defAt (fd := ksFn "__init__" qual (iA0 p1) [iSup msg kM q1 q2 q3 q4 q5 q6] iS0 .none kV doc pm an (.ref cda) ct cc) (body := [iSup msg kM q1 q2 q3 q4 q5 q6]) (binds := [("self", .ref x)]) hroom (X _ _ lf) rfl (M.nolimit.keeps kb) (codeRec_of X lcd) rfl (.of_eq rfl) cellS0 (locS0 _) (fun h₁ hns hk₁ => ?_) rfl rfl rfl
  refine ks_wpAt_execs_cons (sup_stmt Z T M (fun b o e => hk₁ b o (kb b o e)) lf rfl rfl lc hvs hfile lcell htop rfl rfl rfl hl1 rfl rfl hns (m := fun y => [((PySem.Str.ofString "self" : Str), Value.ref x)].reverse.lookup y) (by rfl) (hk₁ _ _ hx) fun h₂ tk₂ t2 k₂ e₂ => ?_)
  refine _root_.PySem.wpAt_of_wpAny ?_
  exact wpAny_execs_nil (hq h₂ tk₂ t2 (fun b o hb e => k₂ b o hb (hk₁ b o e)) e₂)
end
end Fx
namespace Fx
open PySem L2
open PySem.W (Frag)
section
variable {X : Cx} {pins : List (Addr × Obj)} {σ : St} {H : Hp} {s : Shared} {B newId initId : String} {bmB : List Value} {C W fI : Addr} {k : Nat} {x : Str} {p pos : Pos}
/-- C(), C's __init__ without parameters -/
theorem pe_err0 (Z : Root B newId initId bmB) (T : ErrT X.K X.mg newId initId bmB C W fI) (N : Fn0 X.prog X.K C fI) (hr : Room (k + 1) X.A) (gC : X.mg x = some (.ref C)) (hg : Gl X x)
    (hdb : (x == ("__debug__" : Str)) = false := by decide) : PE X (.Call (.Name x p) [] [] pos) (fun σ H Q => ∀ a, H a = none → Q (.ref a) (upd H a (exo a C none))) := by
  refine ⟨fun pins s σ H Q I h => ?_⟩
  refine wpAny_Call_Name_kw (ld_glob I hg gC ?_ hdb)
  refine PySem.W.callWith_K0 I.kIn T.kC ?_
  obtain ⟨nm, q, N', bs, sn, sub, ab, col, dd, k0, k1, k2, k3, k5, hC⟩ := T.cls
  obtain ⟨hp, g, dr, tk, os⟩ := s
  have kk : ∀ b o, hp.get? b = some o → ((hp.push (PySem.W.kdv_tup [])).push (PySem.HandSPX.excO C hp.objs.size)).get? b = some o := fun b o e => Heap.get?_push_of_some _ (Heap.get?_push_of_some _ e)
  have hget : ((hp.push (PySem.W.kdv_tup [])).push (PySem.HandSPX.excO C hp.objs.size)).get? (hp.objs.size + 1) = some (PySem.HandSPX.excO C hp.objs.size) := by heap_get
  show wpAny _ _ (call (.ref C) []) _ _ _
  refine wpAny_call (kw_call Z.fb (hT_of Z W) (I.kIn _ _ hC) (PySem.W.looks_findIn I.kIn T.iC) (fun self => PySem.W.bind_fn I.kIn self T.tI) (by show 0 ≤ sizeLine; exact Nat.zero_le _) ?_)
  refine init0 (s := ⟨(hp.push (PySem.W.kdv_tup [])).push (PySem.HandSPX.excO C hp.objs.size), g, dr, tk, os⟩) Z T I.ok.mod (fun b o e => kk b o (I.bk b o e)) N hget ?_ fun h' tk' t1 k1 e1 => ?_
  · rw [make_depth]
    have := hr.dp
    omega
  · have old : ∀ b o, hp.get? b = some o → h'.get? b = some o := fun b o e => k1 b o (Nat.ne_of_lt (Nat.lt_succ_of_lt (Heap.lt_size e))) (kk b o e)
    have na : H (hp.objs.size + 1) = none := I.hok.fresh (Nat.le_succ _)
    exact ⟨rfl, .ref (hp.objs.size + 1), _, I.laid (t' := tk') (a := hp.objs.size + 1) (o := exo (hp.objs.size + 1) C none) old (Nat.le_succ _) (exo_ok e1), rfl, h _ na⟩
/-- C(), C without an __init__ of its own -/
theorem pe_exc0 {bm0 : List Value} (F : ExcBaseFacts B newId initId bm0) (q : PySem.W.excIn X.K C bm0 newId = true) (gC : X.mg x = some (.ref C)) (kC : PySem.W.keepIn X.K (.ref C) = true) (hg : Gl X x)
    (hdb : (x == ("__debug__" : Str)) = false := by decide) : PE X (.Call (.Name x p) [] [] pos) (fun σ H Q => ∀ a, H a = none → Q (.ref a) (upd H a (ExO (.ref C) a))) := by
  refine ⟨fun pins s σ H Q I h => ?_⟩
  refine wpAny_Call_Name_kw (ld_glob I hg gC ?_ hdb)
  refine PySem.W.callWith_K0 I.kIn kC ?_
  show wpAny _ _ (call (.ref C) []) _ _ _
  obtain ⟨bm, N, nm, qn, bs, hdct, sn, sub, ab, col, dd, k0, k1, k2, k3, k5, mN, hC, hN, hni, T⟩ := exc_obj I.kIn q
  refine wpAny_call_exc_subT F T hC hN hni (fun h' a hm => ?_) (Nat.zero_le _)
  have hn : H a = none := I.hok.gone hm.new
  obtain ⟨t, ht, _, _⟩ := hm.there
  exact ⟨.ref a, upd H a (ExO (.ref C) a), I.laidN hm.keeps hm.new hn (exO_ok ht ⟨rfl, rfl⟩ rfl rfl rfl (show 4 < 6 by decide)), rfl, h a hn⟩
end
end Fx
set_option Elab.async false
set_option linter.all false
set_option maxRecDepth 100000
set_option maxHeartbeats 4000000
namespace Gd
open PySem PySem.Spec PyProof.Rows L2
/-! defs that show lists: no list is being shown around them -/
/-- a promise kept where nothing is being shown -/
structure FnG (P : Program) (w : World) (K : PySem.W.Frag) (mg : Str → Option Value) (base : Heap) (k : Nat) (f : Addr) (fd : FuncData) (ps : List Str) (sp : Sp) : Prop where
  len : ∀ vs H Q E, sp vs H Q E → vs.length = ps.length
  run : ∀ (A : Around) (outer : List Env) (s : Shared) (H : Hp) (args : Args) (us : List Value) (vs : List V) (Q : VK) (E : XK), A.guards = some [] → Room k A → Env0 P w K mg base A outer s H → BindsTo s fd args (ps.zip us) → Vals vs us → sp vs H Q E →
    codeAny (model P w) A (.call (.ref f) args) (CR CX0 outer P w H s Q E) s
theorem deeper_guards {A : Around} {env : Env} (h : A.guards = some []) : (A.deeper env).guards = some [] := by
  first
    | exact h
    | simpa [Around.deeper] using h
section
variable {P : Program} {w : World} {K : PySem.W.Frag} {mg : Str → Option Value} {base : Heap} {x qual : Str} {params : Arguments} {body : List Stmt} {scope : Scope} {dvs : List V} {kws : List (Str × V)} {f : Addr} {fd : FuncData}
theorem okG {N ps : List Str} {k : Nat} {sp : Sp} (F : FunD K x qual params body scope dvs kws f fd) (S : FnScope N ps scope) (len : ∀ vs H Q E, sp vs H Q E → vs.length = ps.length)
    (hbody : ∀ (cdv : Value) (A : Around) (outer : List Env) (s : Shared) (H : Hp) (vs : List V) (Q : VK) (E : XK), (A.deeper (envOfC qual scope s.heap.objs.size f cdv)).guards = some [] → Room k (A.deeper (envOfC qual scope s.heap.objs.size f cdv)) → sp vs H Q E →
      ∃ t, PSs (cxOf CX0 P w K mg base N qual scope f cdv A outer s H E) body t ∧ t { nx := fun _ H' => Q .non H', rt := Q } (start N vs) H) : FnG P w K mg base (k + 1) f fd ps sp := by
  obtain ⟨oc, od, dV, kV, doc, pm, an, cdv, ct, osl, rfl, lk, hcd, _, _⟩ := F.ex
  refine ⟨len, fun A outer s H args us vs Q E hgd hr e0 hb r hsp => ?_⟩
  have hlv := len _ _ _ _ hsp
  have KX : K.In s.heap := e0.mod.kin.keeps fun b o e => (e0.bs b o e).1
  have lim : s.heap.NoLimit := e0.mod.nolimit.keeps fun b o e => (e0.bs b o e).1
  have hkd : ∀ y ∈ ps.zip us, scope.names.lookup y.1 = some .local ∨ (scope.names.lookup y.1 = some .cell ∧ ((cellsFrom (s.heap.objs.size + 1) scope.names []).lookup y.1).isSome = true) := fun ⟨n, v⟩ hy => by
    rcases S.par n (List.of_mem_zip hy).1 with q | q
    · exact .inl q
    · exact .inr ⟨q, PySem.W.cellsFrom_some _ _ _ (.inl q)⟩
  refine codeAny_call_function hr.depth (KX _ _ lk) rfl S.co S.gen rfl (PySem.W.codeRec_of KX hcd) (hb _ _ _ _ ?_)
  refine wpAny_newFunctionEnv_cells S.kind hkd fun env he s1 z => ?_
  subst he
  refine ⟨lim.keeps z.toInCall.keep, codeAny_func ?_⟩
  obtain ⟨t, ht, hq⟩ := hbody cdv A outer s H vs Q E (deeper_guards hgd) (hr.deeper _) hsp
  have I : Inv (cxOf CX0 P w K mg base N qual scope f cdv A outer s H E) [] (start N vs) H s1 := inv_start S hr.hd e0 hlv r z
  refine wpAny_mono (ht.run [] s1 (start N vs) H _ I hq) (fun fl s' hs => ?_) fun e s' hs => hs
  cases fl with
  | ret u =>
    obtain ⟨v, σ', H', J, rv, q⟩ := hs
    exact ⟨v, H', J.os, J.bare, J.base, J.hok, rv, q⟩
  | next =>
    obtain ⟨σ', H', J, q⟩ := hs
    exact ⟨V.non, H', J.os, J.bare, J.base, J.hok, rfl, q⟩
  | brk =>
    obtain ⟨_, _, _, q⟩ := hs
    exact q.elim
  | cont =>
    obtain ⟨_, _, _, q⟩ := hs
    exact q.elim
end
section
variable {X : Cx} {k : Nat} {f : Addr} {fd : FuncData} {ps : List Str} {sp : Sp} {x : Str} {p pos : Pos} {e : Expr} {es : List Expr} {t : TA}
/-- such a def called -/
theorem pe_callG (F : FnG X.prog X.w X.K X.mg X.base k f fd ps sp) (hgd : X.A.guards = some []) (hr : Room k X.A) (hg : Gl X x) (hm : X.mg x = some (.ref f)) (hk : PySem.W.keepIn X.K (.ref f) = true) (hb : Binds X.K fd ps [])
    (ha : PA X (e :: es) t) (hdb : (x == ("__debug__" : Str)) = false := by decide) (he : starEach (e :: es) X.env = (false, eval e X.env) :: starEach es X.env := by rfl) (hpl : (backTo pos (starEach es X.env)).any (·.1) = false := by rfl) :
    PE X (.Call (.Name x p) (e :: es) [] pos) (tCall sp [] E0 t) := by
  refine ⟨fun pins s σ H Q I h => ?_⟩
  refine wpAny_Call_Name_kw (ld_glob I hg hm ?_ hdb)
  refine PySem.W.callWith_K (h₀ := X.base) I.ok.mod.kin hk (thn (ha.run pos pins s σ H _ I h) fun us s1 ⟨vs, H1, I1, r, q⟩ => ⟨I1.kIn, ?_⟩) he hpl
  have r2 : Vals (vs ++ []) (us ++ []) := r.append .nil
  have hl : (us ++ []).length = ps.length := by
    rw [← r2.length]
    exact F.len _ _ _ _ q
  refine wpAny_call (codeAny_mono (F.run X.A X.stack s1 H1 ⟨us, []⟩ (us ++ []) (vs ++ []) Q E0 hgd hr I1.env0 (hb s1 us I1.kIn hl) r2 q) fun r s' hq => ?_)
  cases r with
  | error er => exact hq.elim
  | ok fl =>
    cases fl with
    | ret u => exact I1.after hq
    | next => exact hq.elim
    | brk => exact hq.elim
    | cont => exact hq.elim
/-! ### repr of data -/
/-- data that stands: as Dp, or a dict of flat things at its top -/
def flatD : V → Option PyData
  | .non => some .none
  | .bl b => some (.bool b)
  | .int i => some (.int i)
  | .str z => some (.str z)
  | _ => none
def keyD : Key → PyData
  | .inl i => .int i
  | .inr z => .str z
def flatR (q : Key × V) (p : PyData × PyData) : Prop := p.1 = keyD q.1 ∧ flatD q.2 = some p.2
def Rp (K : PySem.W.Frag) (H : Hp) (v : V) (d : PyData) : Prop := Dp K H v d ∨ ∃ (a : Addr) (kvs : List (Key × V)) (ds : List (PyData × PyData)), v = .ref a ∧ H a = some (.dK kvs) ∧ Paired flatR kvs ds ∧ d = .dict ds
theorem flat_reads {h : Heap} {v : V} {u : Value} {d : PyData} (r : RelV v u) (e : flatD v = some d) : Reads h u d [] := by
  cases v with
  | non =>
    cases r
    cases e
    exact .none
  | bl b =>
    cases r
    cases e
    exact .bool b
  | int i =>
    obtain ⟨t, rfl⟩ := r
    cases e
    exact .int i t
  | str z =>
    obtain ⟨t, rfl⟩ := r
    cases e
    exact .str z t
  | byt _ => cases e
  | flt _ => cases e
  | ref _ => cases e
  | ty _ => cases e
theorem key_reads {h : Heap} {k : Key} {u : Value} (r : keyIs k u = true) : Reads h u (keyD k) [] := by
  rcases keyIs_shape r with ⟨i, t, rfl, rfl⟩ | ⟨z, t, rfl, rfl⟩
  · exact .int i t
  · exact .str z t
theorem dict_reads {P : Program} {w : World} {h : Heap} : ∀ {kvs : List (Key × V)} {vs : List (Key × Value)} {es : List DictEntry} {ds : List (PyData × PyData)}, KV kvs vs → Pairs (mixKind P w) es vs → Paired flatR kvs ds →
    ReadsAll h (es.map (·.key)) (ds.map (·.1)) [] ∧ ReadsAll h (es.map (·.val)) (ds.map (·.2)) []
  | _, _, _, _, .nil, .nil, .nil => ⟨.nil, .nil⟩
  | _, _, _, _, .cons r t, .cons a b c, .cons f g => by
    obtain ⟨h1, h2⟩ := dict_reads t c g
    obtain ⟨r1, r2⟩ := r
    obtain ⟨f1, f2⟩ := f
    refine ⟨?_, ?_⟩
    · have k1 := key_reads (h := h) a
      rw [← r1, ← f1] at k1
      exact ReadsAll.cons (bs := []) k1 h1
    · have k2 := flat_reads (h := h) r2 f2
      rw [← b] at k2
      exact ReadsAll.cons (bs := []) k2 h2
theorem dp_nodict : ∀ {K : PySem.W.Frag} {H : Hp} (d : PyData) {v : V}, Dp K H v d → d.hasDict = false
  | _, _, .none, _, _ => rfl
  | _, _, .bool _, _, _ => rfl
  | _, _, .int _, _, _ => rfl
  | _, _, .str _, _, _ => rfl
  | K, H, .list ds, _, h => by
    cases h with
    | lst hs ha =>
      simp only [PyData.hasDict]
      exact dp_nodictAll ds ha
  | K, H, .tuple ds, _, h => by
    cases h with
    | tup hs ha =>
      simp only [PyData.hasDict]
      exact dp_nodictAll ds ha
  | _, _, .dict _, _, h => by cases h
where dp_nodictAll {K : PySem.W.Frag} {H : Hp} : ∀ (ds : List PyData) {vs : List V}, DpAll K H vs ds → PyData.hasDictAll ds = false
  | [], _, _ => rfl
  | d :: ds, _, h => by
    cases h with
    | cons h1 h2 =>
      simp only [PyData.hasDictAll, dp_nodict d h1, dp_nodictAll ds h2, Bool.or_self]
/-- repr of such data -/
theorem call_repr (hgd : X.A.guards = some []) (hu : X.A.units + 64 < cLine) : CallR X (.builtin "repr") (fun xs H Q => ∃ v d, xs = [v] ∧ Rp X.K H v d ∧ PyData.showable d = true ∧ d.depth ≤ 20 ∧ d.shown.length ≤ sizeLine ∧ Q (.str d.shown) H) := by
  intro pins s σ H xs us Q I r h
  obtain ⟨v, d, rfl, hd, hs, hdp, hsz, q⟩ := h
  obtain ⟨u, rfl, ru⟩ := vals1 r
  have go : ∀ (a : Addr) (as : List Addr), u = .ref a → Reads s.heap u d as → (d.hasDict = true → sysModules ∉ as) → wpAny (model X.prog X.w) X.A (call (.builtin "repr") [u]) (EP X pins σ Q) X.xe s := by
    intro a as e rd hm
    subst e
    exact repr_of_reads' rd hs hm hgd (by omega) (fun _ _ e => e) (fun h' t tk kk => ⟨.str d.shown, H, I.kept (t' := tk) kk, ⟨t, rfl⟩, q⟩) hsz
  rcases hd with hd | ⟨a, kvs, ds, rfl, ha, hp, rfl⟩
  · have hn := dp_nodict d hd
    obtain ⟨as, rd⟩ := Dp.reads I d v u hd ru
    cases hd with
    | non =>
      cases ru
      simp only [PyData.shown] at q
      exact P.repr_of_none ⟨.str _, H, I.tok _, ⟨_, rfl⟩, q⟩
    | bl b =>
      cases ru
      simp only [PyData.shown] at q
      exact P.repr_of_bool ⟨.str _, H, I.tok _, ⟨_, rfl⟩, q⟩
    | int i =>
      obtain ⟨t, rfl⟩ := ru
      exact P.repr_of_int (by simpa [PyData.showable] using hs) ⟨.str _, H, I.tok _, ⟨_, rfl⟩, by simpa only [PyData.shown] using q⟩
    | str z =>
      obtain ⟨t, rfl⟩ := ru
      exact P.repr_of_str ⟨.str _, H, I.tok _, ⟨_, rfl⟩, by simpa only [PyData.shown] using q⟩ (by simpa only [PyData.shown] using hsz)
    | lst h1 h2 =>
      cases ru
      exact go _ as rfl rd fun z => by rw [hn] at z; cases z
    | tup h1 h2 =>
      cases ru
      exact go _ as rfl rd fun z => by rw [hn] at z; cases z
  · cases ru
    obtain ⟨_, hsy, vs, kv, o, es, ep, e1, e2, e3, _, e5, _⟩ := (show ObjOk X.prog X.w H s.heap a (.dK kvs) from I.hok a _ ha)
    obtain ⟨k1, k2⟩ := dict_reads (h := s.heap) kv e5 hp
    refine go a (a :: [] ++ []) rfl (Reads.dict e1 e2.1 e3 k1 k2) fun _ z => ?_
    simp only [List.append_nil, List.mem_singleton, List.append_eq] at z
    rw [← z] at hsy
    simp at hsy
end
end Gd
set_option Elab.async false
set_option linter.all false
set_option maxRecDepth 100000
set_option maxHeartbeats 4000000
namespace Rl
open PySem PySem.Spec PyProof.Rows L2 Gd
/-! rules whose readings say of a new object only that it stands, and that all stands that stood -/
theorem same_new {H : Hp} {p : Addr} {o : HO} (n : H p = none) : Same H (upd H p o) := fun b u e => by
  rw [upd_ne (ne_of_none e n)]
  exact e
theorem Same.seqT {K : PySem.W.Frag} {H H' : Hp} {a : Addr} {xs : List V} (e : Same H H') (h : SqT K H a xs) : SqT K H' a xs := by
  rcases h with (h | ⟨o, h⟩) | h
  · exact .inl (.inl (e _ _ h))
  · exact .inl (.inr ⟨o, e _ _ h⟩)
  · exact .inr h
mutual
theorem dp_same {K : PySem.W.Frag} {H H' : Hp} (e : Same H H') : ∀ (d : PyData) {v : V}, Dp K H v d → Dp K H' v d
  | .none, _, h => by cases h; exact .non
  | .bool b, _, h => by cases h; exact .bl b
  | .int i, _, h => by cases h; exact .int i
  | .str z, _, h => by cases h; exact .str z
  | .list ds, _, h => by
    cases h with
    | lst hs ha => exact .lst (e.seq hs) (dp_sameAll e ds ha)
  | .tuple ds, _, h => by
    cases h with
    | tup hs ha => exact .tup (Same.seqT e hs) (dp_sameAll e ds ha)
  | .dict _, _, h => by cases h
theorem dp_sameAll {K : PySem.W.Frag} {H H' : Hp} (e : Same H H') : ∀ (ds : List PyData) {vs : List V}, DpAll K H vs ds → DpAll K H' vs ds
  | [], _, h => by cases h; exact .nil
  | d :: ds, _, h => by
    cases h with
    | cons h1 h2 => exact .cons (dp_same e d h1) (dp_sameAll e ds h2)
end
theorem rp_same {K : PySem.W.Frag} {H H' : Hp} (e : Same H H') {d : PyData} {v : V} (h : Rp K H v d) : Rp K H' v d := by
  rcases h with h | ⟨a, kvs, ds, rfl, ha, hp, rfl⟩
  · exact .inl (dp_same e d h)
  · exact .inr ⟨a, kvs, ds, rfl, e _ _ ha, hp, rfl⟩
/-- a new object o at p -/
def New (H : Hp) (p : Addr) (o : HO) (H' : Hp) : Prop := H p = none ∧ H' p = some o ∧ Same H H'
theorem New.mk' {H : Hp} {p : Addr} {o : HO} (n : H p = none) : New H p o (upd H p o) := ⟨n, upd_same, same_new n⟩
def tTupR (t : TA) : TE := fun σ H Q => t σ H fun xs H1 => xs.length ≤ 1000 ∧ ∀ p H2, New H1 p (.tup xs) H2 → Q (.ref p) H2
def tLstR (t : TA) : TE := fun σ H Q => t σ H fun xs H1 => xs.length ≤ 1000 ∧ ∀ p H2, New H1 p (.lst xs) H2 → Q (.ref p) H2
section
variable {X : Cx} {es : List Expr} {t : TA} {pos : Pos}
theorem sz1000 {n : Nat} (h : n ≤ 1000) : n ≤ sizeLine := Nat.le_of_lt (small1000 h)
theorem pe_tupR {x1} (h : PA X es t) : PE X (.Tuple es x1 pos) (tTupR t) := by
  refine ⟨fun pins s σ H Q I hq => ?_⟩
  refine wpAny_Tuple_spliced (thn (h.run pos pins s σ H _ I hq) fun us s1 ⟨xs, H1, I1, r, z, q⟩ => ⟨by rw [← r.length]; exact sz1000 z, ?_⟩)
  have hf : H1 s1.heap.objs.size = none := I1.hok.fresh (Nat.le_refl _)
  exact ⟨.ref s1.heap.objs.size, upd H1 s1.heap.objs.size (.tup xs), I1.laid (t' := s1.toks) (fun b u e => Heap.get?_push_of_some _ e) (Nat.le_refl _) ⟨sz1000 z, us, r, ⟨_, Heap.get?_push_size _ rfl, rfl, _, rfl⟩⟩, rfl, q _ _ (.mk' hf)⟩
theorem pe_lstR (h : PA X es t) : PE X (.List es pos) (tLstR t) := by
  refine ⟨fun pins s σ H Q I hq => ?_⟩
  refine wpAny_List_spliced (thn (h.run pos pins s σ H _ I hq) fun us s1 ⟨xs, H1, I1, r, z, q⟩ => ⟨by rw [← r.length]; exact sz1000 z, ?_⟩)
  have hf : H1 s1.heap.objs.size = none := I1.hok.fresh (Nat.le_refl _)
  exact ⟨.ref s1.heap.objs.size, upd H1 s1.heap.objs.size (.lst xs), I1.laid (t' := s1.toks) (fun b u e => Heap.get?_push_of_some _ e) (Nat.le_refl _) ⟨sz1000 z, us, 0, r, Heap.get?_push_size _ rfl⟩, rfl, q _ _ (.mk' hf)⟩
theorem pe_dnewR : PE X (.Dict [] [] pos) (fun σ H Q => ∀ p H2, New H p (.dK []) H2 → Q (.ref p) H2) :=
  ⟨fun pins s σ H Q I h => pe_dnewK.run pins s σ H Q I fun p np => h p _ (.mk' np)⟩
def rCatR : R2 := fun x y H Q => ∃ l b xs zs, x = .ref l ∧ y = .ref b ∧ H l = some (.lst xs) ∧ H b = some (.lst zs) ∧ xs.length + zs.length ≤ 1000 ∧ ∀ p H2, New H p (.lst (xs ++ zs)) H2 → Q (.ref p) H2
theorem op_catR : OpR X (binaryOp .Add) rCatR := by
  intro pins s σ H x y v u Q I rx ry h
  obtain ⟨l, b, xs, zs, e1, e2, h1, h2, z, q⟩ := h
  exact op_cat pins s σ H x y v u Q I rx ry ⟨l, b, xs, zs, e1, e2, h1, h2, sz1000 z, fun p np => q p _ (.mk' np)⟩
def rRepR : R2 := fun x y H Q => ∃ l k xs, x = .ref l ∧ y = .int k ∧ H l = some (.lst xs) ∧ 0 ≤ k ∧ k ≤ 100 ∧ xs.length * k.toNat ≤ 1000 ∧ ∀ p H2, New H p (.lst (List.replicate k.toNat xs).flatten) H2 → Q (.ref p) H2
theorem op_repR : OpR X (binaryOp .Mult) rRepR := by
  intro pins s σ H x y v u Q I rx ry h
  obtain ⟨l, k, xs, e1, e2, h1, h2, h3, z, q⟩ := h
  exact op_rep pins s σ H x y v u Q I rx ry ⟨l, k, xs, e1, e2, h1, by omega, by omega, sz1000 z, fun p np => q p _ (.mk' np)⟩
def rSlR (K : PySem.W.Frag) : V → Option Int → Option Int → Hp → VK → Prop := fun x lo hi H Q => ∃ a xs, x = .ref a ∧ SqL K H a xs ∧ ∀ p H2, New H p (.lst (cutV xs lo hi)) H2 → Q (.ref p) H2
theorem sl_listR : SlR X (rSlR X.K) := by
  intro pins s σ H x v vl vu lo hi sl Q I rx hs pl pu h
  obtain ⟨a, xs, e1, h1, q⟩ := h
  exact sl_list pins s σ H x v vl vu lo hi sl Q I rx hs pl pu ⟨a, xs, e1, h1, fun p np => q p _ (.mk' np)⟩
end
end Rl
namespace Fx
open PySem L2 Rl
open PySem.W (Frag)
/-- an error of the class at C with the one attribute f -/
def ErrAt (H : Hp) (a C : Addr) (f : Str) (y : V) : Prop := ∃ d, H a = some (exo a C (some d)) ∧ H d = some (exd d [(f, y)])
theorem ErrAt.same {H H' : Hp} (s : Same H H') {a C : Addr} {f : Str} {y : V} (h : ErrAt H a C f y) : ErrAt H' a C f y :=
  let ⟨d, h1, h2⟩ := h
  ⟨d, s _ _ h1, s _ _ h2⟩
theorem errAt_new {H : Hp} {a d C : Addr} {f : Str} {y : V} (na : H a = none) (nd : H d = none) (ne : d ≠ a) : ErrAt (upd (upd H d (exd d [(f, y)])) a (exo a C (some d))) a C f y ∧ Same H (upd (upd H d (exd d [(f, y)])) a (exo a C (some d))) :=
  ⟨⟨d, upd_same, by rw [upd_ne ne, upd_same]⟩, fun b u e => by rw [upd_ne (ne_of_none e na), upd_ne (ne_of_none e nd)]; exact e⟩
def tErrR (C : Addr) (f : Str) (te : TE) : TE := fun σ H Q => te σ H fun y H1 => ∀ a H2, ErrAt H2 a C f y → Same H1 H2 → Q (.ref a) H2
section
variable {X : Cx} {B newId initId : String} {bmB : List Value} {C W fI : Addr} {f : Str} {k : Nat} {x : Str} {p pos kpos : Pos} {e : Expr} {te : TE}
theorem pe_errR (Z : Root B newId initId bmB) (T : Err1 X.prog X.K X.mg newId initId bmB C W fI f) (hr : Room (k + 1) X.A) (gC : X.mg x = some (.ref C)) (hg : Gl X x) (he : PE X e te) (hs : starEach [e] X.env = (false, eval e X.env) :: starEach [] X.env := by rfl)
    (hdb : (x == ("__debug__" : Str)) = false := by decide) : PE X (.Call (.Name x p) [e] [] pos) (tErrR C f te) := by
  refine ⟨fun pins s σ H Q I h => ?_⟩
  refine wpAny_Call_Name_kw (ld_glob I hg gC ?_ hdb)
  refine PySem.W.callWith_K (h₀ := X.base) I.ok.mod.kin T.t.kC ?_ hs (by rfl)
  rw [hs]
  show wpAny _ _ (spliced ((false, eval e X.env) :: backTo pos (starEach [] X.env))) _ _ s
  refine Calls.spliced_cons (thn (he.run pins s σ H _ I h) fun u s1 ⟨y, H1, I1, r1, q1⟩ => ?_)
  exact Calls.spliced_nil ⟨I1.kIn, run_err Z T hr I1 r1 (.inl ⟨rfl, rfl⟩) fun a d na nd ne => q1 a _ (errAt_new na nd ne).1 (errAt_new na nd ne).2⟩
theorem pe_errKR (Z : Root B newId initId bmB) (T : Err1 X.prog X.K X.mg newId initId bmB C W fI f) (hr : Room (k + 1) X.A) (gC : X.mg x = some (.ref C)) (hg : Gl X x) (he : PE X e te)
    (hdb : (x == ("__debug__" : Str)) = false := by decide) : PE X (.Call (.Name x p) [] [⟨some f, e, kpos⟩] pos) (tErrR C f te) := by
  refine ⟨fun pins s σ H Q I h => ?_⟩
  refine wpAny_Call_Name_kw (ld_glob I hg gC ?_ hdb)
  refine PySem.W.callWith_KW0 (h₀ := X.base) I.ok.mod.kin T.t.kC (by rfl) ?_ (by rfl)
  have hk : PK X [⟨some f, e, kpos⟩] (tCons te tNil) := pk_cons he pk_nil
  refine thn (hk.run pos pins s σ H (fun vs H1 => match vs with | [y] => ∀ a H2, ErrAt H2 a C f y → Same H1 H2 → Q (.ref a) H2 | _ => False) I h) fun us s1 ⟨vs, H1, I1, r1, q1⟩ => ⟨I1.kIn, ?_⟩
  cases r1 with
  | nil => exact q1.elim
  | cons ry rn =>
    cases rn with
    | nil => exact run_err Z T hr I1 ry (.inr ⟨rfl, rfl⟩) fun a d na nd ne => q1 a _ (errAt_new na nd ne).1 (errAt_new na nd ne).2
    | cons r2 rn => exact q1.elim
end
end Fx
set_option Elab.async false
set_option linter.all false
set_option maxRecDepth 100000
set_option maxHeartbeats 4000000
namespace K1
open PySem PySem.Spec PyProof.Rows L2
def top (i : Nat) : Stmt := PySem.Challenge.pw_fallranks_k01_limits_and_errors.main.body.getD i (.Pass ⟨0, 0, 0, 0⟩)
abbrev sBegun : Stmt := top 38
abbrev sCast : Stmt := top 39
abbrev sAny : Stmt := top 40
abbrev FnP (K : PySem.W.Frag) (x : Str) (st : Stmt) (f : Addr) (fd : FuncData) : Prop := FunD K x x (defArgs st) (defBody st) (defScope st) [] [] f fd
/-- a pail: what is left of the own number, the state, the count -/
structure Pail (H : Hp) (p : Addr) : Prop where
  ex : ∃ o st c : Int, H p = some (.lst [.int o, .int st, .int c]) ∧ 0 ≤ o ∧ 0 ≤ st ∧ st < 2147483648
/-- what was tracked stands, but perhaps at p -/
def But (p : Addr) (H H' : Hp) : Prop := ∀ b o, H b = some o → b ≠ p → H' b = some o
theorem But.refl {p : Addr} {H : Hp} : But p H H := fun _ _ e _ => e
theorem But.trans {p : Addr} {H H1 H2 : Hp} (a : But p H H1) (b : But p H1 H2) : But p H H2 := fun c o e n => b c o (a c o e n) n
def spCast : Sp := fun vs H Q _ => ∃ (p : Addr) (n : Int), vs = [.ref p, .int n] ∧ Pail H p ∧ 1 ≤ n ∧ n ≤ 1000000000 ∧ ∀ (r : Int) (H' : Hp), 0 ≤ r → r < n → Pail H' p → But p H H' → Q (.int r) H'
structure Txt (mg : Str → Option Value) : Prop where
  len : mg "len" = none
  divmod : mg "divmod" = none
  int : mg "int" = none
  abs : mg "abs" = none
section
variable {P : Program} {w : World} {K : PySem.W.Frag} {mg : Str → Option Value} {base : Heap} {f : Addr} {fd : FuncData}
theorem scCast : FnScope ["_law_pail", "_law_many", "_law_figure", "_law_state"] ["_law_pail", "_law_many"] (defScope sCast) := ⟨rfl, rfl, rfl, by decide +kernel, rfl, by decide +kernel, by decide +kernel⟩
theorem ok_cast (F : FnP K "_law_cast" sCast f fd) (T : Txt mg) : FnOk P w K mg base CX0 1 f fd ["_law_pail", "_law_many"] spCast := by
  refine F.ok scCast (fun vs H Q E h => ?_) (fun cdv A outer s H vs Q E hr h => ?_)
  · obtain ⟨p, n, rfl, _⟩ := h
    rfl
  · obtain ⟨p, n, rfl, ⟨o, st, c, hp, ho, h0, h1⟩, n1, n2, k⟩ := h
    refine ⟨_, PSs.nox (pss_cons (ps_if (pt_cmpR op_gt (pe_ix ix_list (pv 0) pe_int (fun _ _ => rfl)) pe_int (nomark _))
        (pss_cons (ps_asg (pe_callB call_divmod (by rfl) T.divmod (by decide +kernel) (pa_cons (pe_ix ix_list (pv 0) pe_int (fun _ _ => rfl)) (pa_cons (pv 1) pa_nil))) (pg_tup (by rfl) (pgs_cons (pg_sub (pv 0) pe_int set_list) (pgs_cons (pg_name (i := 2) scCast.nd rfl (.inl rfl)) pgs_nil))))
          (pss_one (ps_ret (pv 2)))) pss_nil)
      (pss_cons (ps_asg (pe_op op_add (pe_ix ix_list (pv 0) pe_int (fun _ _ => rfl)) pe_int) (pg_sub (pv 0) pe_int set_list))
      (pss_cons (ps_set (i := 3) scCast.nd rfl (.inl rfl) (pe_op op_mod (pe_callTy call_int1 (by rfl) T.int (by decide +kernel) (pa_cons (pe_op op_add (pe_op op_add (pe_op op_mul (pe_ix ix_list (pv 0) pe_int (fun _ _ => rfl)) (pe_op op_add pe_int (pe_op op_mul pe_int (pe_ix ix_list (pv 0) pe_int (fun _ _ => rfl))))) (pe_op op_mul pe_int (pe_ix ix_list (pv 0) pe_int (fun _ _ => rfl)))) pe_int) pa_nil)) pe_int))
      (pss_cons (ps_asg (pe_op op_mod (pe_callTy call_int1 (by rfl) T.int (by decide +kernel) (pa_cons (pe_op op_add (pe_op op_add (pe_op op_mul (pv 3) pe_int) (pe_op op_mul pe_int (pe_ix ix_list (pv 0) pe_int (fun _ _ => rfl)))) pe_int) pa_nil)) pe_int) (pg_sub (pv 0) pe_int set_list))
      (pss_one (ps_ret (pe_op op_mod (pe_callTy call_int1 (by rfl) T.int (by decide +kernel) (pa_cons (pe_op op_fdiv (pe_ix ix_list (pv 0) pe_int (fun _ _ => rfl)) pe_int) pa_nil)) (pv 1)))))))), ?_⟩
    refine ⟨_, rfl, p, _, _, _, rfl, rfl, SqL.of hp, rfl, _, _, rfl, rfl, _, rfl, ?_⟩
    refine ite2 (fun hc => ?_) (fun hc => ?_)
    · refine ⟨_, rfl, p, _, _, _, rfl, rfl, SqL.of hp, rfl, _, rfl, _, _, rfl, ⟨by omega, by omega⟩, fun q hq => ?_⟩
      have pq : p ≠ q := ne_of_none hp hq
      have ho' : 0 < o := of_decide_eq_true hc
      refine ⟨q, _, rfl, SqT.of upd_same, rfl, _, _, rfl, _, rfl, p, _, _, 0, rfl, rfl, (by rw [upd_ne pq]; exact hp), rfl, ?_⟩
      refine ⟨_, _, rfl, ?_⟩
      refine ⟨rfl, _, rfl, ?_⟩
      refine k (o % n) _ (Int.emod_nonneg _ (by omega)) (Int.emod_lt_of_pos _ (by omega)) ⟨o / n, st, c, upd_same, Int.ediv_nonneg (by omega) (by omega), h0, h1⟩ fun b u e nb => ?_
      rw [upd_ne nb, upd_ne (ne_of_none e hq)]
      exact e
    · have e1 : ∀ {x y z : Int}, (upd H p (.lst [.int x, .int y, .int z])) p = some (.lst [.int x, .int y, .int z]) := upd_same
      refine ⟨_, rfl, p, _, _, _, rfl, rfl, SqL.of hp, rfl, _, _, rfl, rfl, _, rfl, p, _, _, 2, rfl, rfl, hp, rfl, ?_⟩
      refine ⟨_, rfl, p, _, _, _, rfl, rfl, SqL.of upd_same, rfl, _, rfl, p, _, _, _, rfl, rfl, SqL.of upd_same, rfl, _, _, rfl, rfl, .inl ⟨by decide, by decide⟩, _, _, rfl, rfl, _, _, rfl, rfl, .inl ⟨by omega, by omega⟩, _, rfl, p, _, _, _, rfl, rfl, SqL.of upd_same, rfl, _, _, rfl, rfl, .inl ⟨by decide, by decide⟩, _, _, rfl, rfl, _, _, rfl, rfl, .inl ⟨_, rfl, ?_⟩⟩
      refine ⟨_, _, rfl, rfl, (by show (0 : Int) < 2147483629; decide), ?_⟩
      refine ⟨_, rfl, _, _, rfl, rfl, .inl ⟨by omega, by omega⟩, _, rfl, p, _, _, _, rfl, rfl, SqL.of upd_same, rfl, _, _, rfl, rfl, .inl ⟨by decide, by decide⟩, _, _, rfl, rfl, _, _, rfl, rfl, .inl ⟨_, rfl, _, _, rfl, rfl, (by show (0 : Int) < 2147483587; decide), ?_⟩⟩
      refine ⟨_, rfl, p, _, _, 1, rfl, rfl, upd_same, rfl, ?_⟩
      refine ⟨_, rfl, p, _, _, _, rfl, rfl, SqL.of upd_same, rfl, _, _, rfl, rfl, ⟨by decide, by decide⟩, .inl ⟨_, rfl, _, rfl, _, _, rfl, rfl, (by show (0 : Int) < n; omega), ?_⟩⟩
      refine k _ _ (Int.emod_nonneg _ (by omega)) (Int.emod_lt_of_pos _ (by omega)) ⟨o, _, _, upd_same, ho, Int.emod_nonneg _ (by decide), Int.lt_of_lt_of_le (Int.emod_lt_of_pos _ (by decide)) (by decide)⟩ fun b u e nb => ?_
      rw [upd_ne nb, upd_ne nb]
      exact e
/-! ### any of a list -/
def spAny (K : PySem.W.Frag) : Sp := fun vs H Q _ => ∃ (p l : Addr) (xs : List V), vs = [.ref p, .ref l] ∧ Pail H p ∧ H l = some (.lst xs) ∧ l ≠ p ∧ 0 < xs.length ∧ xs.length ≤ 1000 ∧
  ∀ (i : Nat) (x : V) (H' : Hp), xs[i]? = some x → Pail H' p → But p H H' → Q x H'
theorem scAny : FnScope ["_law_pail", "_law_some"] ["_law_pail", "_law_some"] (defScope sAny) := ⟨rfl, rfl, rfl, by decide +kernel, rfl, by decide +kernel, by decide +kernel⟩
theorem ok_any {fC : Addr} {fdC : FuncData} (F : FnP K "_law_any_of" sAny f fd) (T : Txt mg) (FC : FnP K "_law_cast" sCast fC fdC) (gC : mg "_law_cast" = some (.ref fC)) : FnOk P w K mg base CX0 2 f fd ["_law_pail", "_law_some"] (spAny K) := by
  have GC : FnOk P w K mg base CX0 1 fC fdC ["_law_pail", "_law_many"] spCast := ok_cast FC T
  have bC : Binds K fdC ["_law_pail", "_law_many"] [] := FC.bindsN fun _ _ _ _ _ _ us hl => match us, hl with | [_, _], _ => rfl
  refine F.ok scAny (fun vs H Q E h => ?_) (fun cdv A outer s H vs Q E hr h => ?_)
  · obtain ⟨p, l, xs, rfl, _⟩ := h
    rfl
  · obtain ⟨p, l, xs, rfl, hp, hl, lp, x0, x1, k⟩ := h
    refine ⟨_, PSs.nox (pss_one (ps_ret (pe_ix ix_list (pv 1) (pe_call GC hr (by rfl) gC FC.kp bC .nil pass0 (pa_cons (pv 0) (pa_cons (pe_callB call_len (by rfl) T.len PySem.boot_len (pa_cons (pv 1) pa_nil)) pa_nil))) (fun _ _ => rfl)))), ?_⟩
    refine ⟨_, rfl, _, rfl, _, rfl, _, xs.length, rfl, .inl ⟨_, SqL.of hl, rfl⟩, p, _, rfl, hp, by omega, by omega, fun r H' r0 r1 hp' bt => ?_⟩
    have hl' : H' l = some (.lst xs) := bt l _ hl lp
    have hi : r.toNat < xs.length := by omega
    have er : xs[r.toNat]? = some xs[r.toNat] := by simp [hi]
    have e2 : atI xs r = some xs[r.toNat] := by
      have := atI_nat er
      rwa [Int.toNat_of_nonneg r0] at this
    exact ⟨l, _, r, _, rfl, rfl, SqL.of hl', e2, k r.toNat _ H' er hp' bt⟩
/-! ### a pail begun -/
theorem mulB : ∀ {X : Cx}, OpR X (binaryOp .Mult) (rI (fun i j => IntMulOk i j) fun i j => .int (i * j)) := fun {X} => opI fun _ _ _ _ _ _ _ hc q => mul_int q hc
theorem bits_ok {i : Int} (h : Builtin.Int.intBits i ≤ 1048576) : IntMulOk i i := by
  unfold IntMulOk
  intro z
  simp only [Bool.and_eq_true, Builtin.Int.intTooBig, decide_eq_true_eq] at z
  have e : ((bitsLine : Nat) : Int) = 134217728 := by decide
  have z2 := z.2
  rw [e] at z2
  omega
def spBegun (K : PySem.W.Frag) : Sp := fun vs H Q _ => ∃ (a : Addr) (ns : List Int) (t : Nat), vs = [.ref a, .int t] ∧ SqL K H a (ns.map V.int) ∧ ns.length ≤ 63 ∧ (∀ z ∈ ns, Builtin.Int.intBits z ≤ 1048576) ∧ t ≤ 1000 ∧
  ∀ (p : Addr) (H' : Hp), Same H H' → H p = none → Pail H' p → Q (.ref p) H'
theorem scBegun : FnScope ["_law_script", "_law_turn", "_law_own", "_law_state", "_law_cell"] ["_law_script", "_law_turn"] (defScope sBegun) := ⟨rfl, rfl, rfl, by decide +kernel, rfl, by decide +kernel, by decide +kernel⟩
theorem cut_ints {ns : List Int} {lo hi : Option Int} {i : Nat} {x : V} (h : (cutV (ns.map V.int) lo hi)[i]? = some x) : ∃ z, x = V.int z := by
  have m := List.mem_of_getElem? h
  unfold cutV at m
  have m2 := List.mem_of_mem_drop (List.mem_of_mem_take m)
  obtain ⟨z, _, e⟩ := List.mem_map.mp m2
  exact ⟨z, e.symm⟩
theorem ok_begun (F : FnP K "_law_begun" sBegun f fd) (T : Txt mg) : FnOk P w K mg base CX0 1 f fd ["_law_script", "_law_turn"] (spBegun K) := by
  refine F.ok scBegun (fun vs H Q E h => ?_) (fun cdv A outer s H vs Q E hr h => ?_)
  · obtain ⟨a, ns, t, rfl, _⟩ := h
    rfl
  · obtain ⟨a, ns, t, rfl, hS, hn, hb, ht, k⟩ := h
    refine ⟨_, PSs.nox <| pss_cons (ps_set (i := 2) scBegun.nd rfl (.inl rfl) (pe_ifExp (pt_cmpR op_lt (pv 1) (pe_callB call_len (by rfl) T.len PySem.boot_len (pa_cons (pv 0) pa_nil)) (nomark _)) (pe_ix ix_list (pv 0) (pv 1) (fun _ _ => rfl)) pe_int))
      <| pss_cons (ps_set (i := 3) scBegun.nd rfl (.inl rfl) (pe_op op_add pe_int (pe_op op_mul pe_int (pv 1))))
      <| pss_cons (ps_for PassesOwn.never rfl (pi_list (pe_slice sl_list (pv 0) po_none (po_some pe_int))) (pg_name (i := 4) scBegun.nd rfl (.inl rfl))
        (pss_one (ps_set (i := 3) scBegun.nd rfl (.inl rfl) (pe_op op_mod (pe_callTy call_int1 (by rfl) T.int (by decide +kernel) (pa_cons (pe_op op_add (pe_op op_add (pe_op op_mul (pv 3) pe_int) (pe_op op_mul (pv 4) pe_int)) pe_int) pa_nil)) pe_int))))
      <| pss_one (ps_ret (pe_lst <| pa_cons (pe_ifExp (PW.pt (pw_or (pt_cmpR op_lt (pv 2) pe_int (nomark _)) (pw_or1 (pt_cmpR op_ge (pv 2) (pe_op op_pow pe_int pe_int) (nomark _))))) (pe_callB call_abs (by rfl) T.abs (by decide +kernel) (pa_cons (pv 2) pa_nil)) pe_int)
        <| pa_cons (pe_op op_mod (pe_callTy call_int1 (by rfl) T.int (by decide +kernel) (pa_cons (pe_op op_add (pe_op op_add (pe_op op_mul (pv 3) pe_int) (pe_op mulB (pv 2) (pv 2))) (pe_op op_mul pe_int (pv 1))) pa_nil)) pe_int) <| pa_cons pe_int pa_nil)), ?_⟩
    -- own
    refine ⟨_, rfl, _, rfl, _, (ns.map V.int).length, rfl, .inl ⟨_, hS, rfl⟩, _, _, rfl, rfl, _, rfl, ?_⟩
    refine ite2 (fun hc => ?_) (fun hc => ?_)
    · have hlt : t < ns.length := by
        have z : ((t : Nat) : Int) < ((ns.map V.int).length : Nat) := of_decide_eq_true hc
        rw [List.length_map] at z
        omega
      have er : (ns.map V.int)[t]? = some (V.int ns[t]) := by simp [hlt]
      have hob := hb ns[t] (List.getElem_mem hlt)
      refine ⟨_, rfl, _, rfl, a, _, _, _, rfl, rfl, hS, atI_nat er, ?_⟩
      refine ⟨_, rfl, _, _, rfl, rfl, .inl ⟨by decide, by decide⟩, _, _, rfl, rfl, ?_⟩
      refine ⟨_, rfl, 6, rfl, a, _, rfl, hS, fun q hq => ?_⟩
      refine ⟨q, rfl, ⟨_, SqL.of upd_same⟩, for_list (K := K) (a := q) (xs := cutV (ns.map V.int) none (some 6)) (fun i σ H2 => ∃ (own st : Int) (cell : Option V), σ = [some (.ref a), some (.int t), some (.int own), some (.int st), cell] ∧ Builtin.Int.intBits own ≤ 1048576 ∧ Same (upd H q (.lst (cutV (ns.map V.int) none (some 6)))) H2 ∧ 0 ≤ st ∧ st < 2147483648) ⟨_, _, none, rfl, hob, Same.refl _, by omega, by omega⟩ (fun i σ H2 _ ⟨_, _, _, _, _, s2, _⟩ => s2.seq (SqL.of upd_same)) ?_ ?_⟩
      · rintro i y σ H2 hi ⟨own, st, cell, rfl, hob, s2, h0, h1⟩
        obtain ⟨z, rfl⟩ := cut_ints hi
        refine ⟨_, rfl, _, _, rfl, rfl, .inl ⟨by omega, by omega⟩, _, rfl, _, _, rfl, rfl, .inr ⟨by decide, by decide⟩, _, _, rfl, rfl, _, _, rfl, rfl, .inl ⟨_, rfl, _, _, rfl, rfl, (by show (0 : Int) < 2147483629; decide), ?_⟩⟩
        exact ⟨own, _, _, rfl, hob, s2, Int.emod_nonneg _ (by decide), Int.lt_of_lt_of_le (Int.emod_lt_of_pos _ (by decide)) (by decide)⟩
      · rintro σ H2 ⟨own, st, cell, rfl, hob, s2, h0, h1⟩
        have sH : Same H H2 := fun b o e => s2 b o (by rw [upd_ne (ne_of_none e hq)]; exact e)
        refine ⟨_, rfl, _, _, rfl, rfl, _, rfl, ?_⟩
        refine ite2 (fun ho => ?_) (fun ho => ?_)
        · refine iteT ⟨_, rfl, _, rfl, ?_⟩
          refine ⟨_, rfl, _, _, rfl, rfl, .inl ⟨by omega, by omega⟩, _, rfl, _, rfl, _, _, rfl, rfl, bits_ok hob, _, _, rfl, rfl, _, rfl, _, _, rfl, rfl, .inl ⟨by decide, by decide⟩, _, _, rfl, rfl, .inl ⟨_, rfl, _, _, rfl, rfl, (by show (0 : Int) < 2147483629; decide), (by show 3 ≤ sizeLine; decide), fun r hr' => ?_⟩⟩
          refine k r _ (fun b o e => by rw [upd_ne (ne_of_none (sH b o e) hr')]; exact sH b o e) (sH.free hr') ⟨_, _, 0, upd_same, ?_, Int.emod_nonneg _ (by decide), Int.lt_of_lt_of_le (Int.emod_lt_of_pos _ (by decide)) (by decide)⟩
          have ho' : own < 0 := of_decide_eq_true ho
          rw [if_pos ho']
          omega
        · refine ⟨_, rfl, _, _, rfl, rfl, ⟨by decide, by decide, by decide⟩, _, _, rfl, rfl, _, rfl, ?_⟩
          refine ite2 (fun ho2 => ?_) (fun ho2 => ?_)
          · refine ⟨_, rfl, _, rfl, ?_⟩
            refine ⟨_, rfl, _, _, rfl, rfl, .inl ⟨by omega, by omega⟩, _, rfl, _, rfl, _, _, rfl, rfl, bits_ok hob, _, _, rfl, rfl, _, rfl, _, _, rfl, rfl, .inl ⟨by decide, by decide⟩, _, _, rfl, rfl, .inl ⟨_, rfl, _, _, rfl, rfl, (by show (0 : Int) < 2147483629; decide), (by show 3 ≤ sizeLine; decide), fun r hr' => ?_⟩⟩
            refine k r _ (fun b o e => by rw [upd_ne (ne_of_none (sH b o e) hr')]; exact sH b o e) (sH.free hr') ⟨_, _, 0, upd_same, ?_, Int.emod_nonneg _ (by decide), Int.lt_of_lt_of_le (Int.emod_lt_of_pos _ (by decide)) (by decide)⟩
            have ho' : ¬ own < 0 := fun z => ho (decide_eq_true z)
            rw [if_neg ho']
            omega
          · skip
            refine ⟨_, rfl, _, _, rfl, rfl, .inl ⟨by omega, by omega⟩, _, rfl, _, rfl, _, _, rfl, rfl, bits_ok hob, _, _, rfl, rfl, _, rfl, _, _, rfl, rfl, .inl ⟨by decide, by decide⟩, _, _, rfl, rfl, .inl ⟨_, rfl, _, _, rfl, rfl, (by show (0 : Int) < 2147483629; decide), (by show 3 ≤ sizeLine; decide), fun r hr' => ?_⟩⟩
            refine k r _ (fun b o e => by rw [upd_ne (ne_of_none (sH b o e) hr')]; exact sH b o e) (sH.free hr') ⟨_, _, 0, upd_same, ?_, Int.emod_nonneg _ (by decide), Int.lt_of_lt_of_le (Int.emod_lt_of_pos _ (by decide)) (by decide)⟩
            exact Int.le_refl 0
    · have hob : Builtin.Int.intBits 0 ≤ 1048576 := by decide
      refine ⟨_, rfl, _, _, rfl, rfl, .inl ⟨by decide, by decide⟩, _, _, rfl, rfl, ?_⟩
      refine ⟨_, rfl, 6, rfl, a, _, rfl, hS, fun q hq => ?_⟩
      refine ⟨q, rfl, ⟨_, SqL.of upd_same⟩, for_list (K := K) (a := q) (xs := cutV (ns.map V.int) none (some 6)) (fun i σ H2 => ∃ (own st : Int) (cell : Option V), σ = [some (.ref a), some (.int t), some (.int own), some (.int st), cell] ∧ Builtin.Int.intBits own ≤ 1048576 ∧ Same (upd H q (.lst (cutV (ns.map V.int) none (some 6)))) H2 ∧ 0 ≤ st ∧ st < 2147483648) ⟨_, _, none, rfl, hob, Same.refl _, by omega, by omega⟩ (fun i σ H2 _ ⟨_, _, _, _, _, s2, _⟩ => s2.seq (SqL.of upd_same)) ?_ ?_⟩
      · rintro i y σ H2 hi ⟨own, st, cell, rfl, hob, s2, h0, h1⟩
        obtain ⟨z, rfl⟩ := cut_ints hi
        refine ⟨_, rfl, _, _, rfl, rfl, .inl ⟨by omega, by omega⟩, _, rfl, _, _, rfl, rfl, .inr ⟨by decide, by decide⟩, _, _, rfl, rfl, _, _, rfl, rfl, .inl ⟨_, rfl, _, _, rfl, rfl, (by show (0 : Int) < 2147483629; decide), ?_⟩⟩
        exact ⟨own, _, _, rfl, hob, s2, Int.emod_nonneg _ (by decide), Int.lt_of_lt_of_le (Int.emod_lt_of_pos _ (by decide)) (by decide)⟩
      · rintro σ H2 ⟨own, st, cell, rfl, hob, s2, h0, h1⟩
        have sH : Same H H2 := fun b o e => s2 b o (by rw [upd_ne (ne_of_none e hq)]; exact e)
        refine ⟨_, rfl, _, _, rfl, rfl, _, rfl, ?_⟩
        refine ite2 (fun ho => ?_) (fun ho => ?_)
        · refine iteT ⟨_, rfl, _, rfl, ?_⟩
          refine ⟨_, rfl, _, _, rfl, rfl, .inl ⟨by omega, by omega⟩, _, rfl, _, rfl, _, _, rfl, rfl, bits_ok hob, _, _, rfl, rfl, _, rfl, _, _, rfl, rfl, .inl ⟨by decide, by decide⟩, _, _, rfl, rfl, .inl ⟨_, rfl, _, _, rfl, rfl, (by show (0 : Int) < 2147483629; decide), (by show 3 ≤ sizeLine; decide), fun r hr' => ?_⟩⟩
          refine k r _ (fun b o e => by rw [upd_ne (ne_of_none (sH b o e) hr')]; exact sH b o e) (sH.free hr') ⟨_, _, 0, upd_same, ?_, Int.emod_nonneg _ (by decide), Int.lt_of_lt_of_le (Int.emod_lt_of_pos _ (by decide)) (by decide)⟩
          have ho' : own < 0 := of_decide_eq_true ho
          rw [if_pos ho']
          omega
        · refine ⟨_, rfl, _, _, rfl, rfl, ⟨by decide, by decide, by decide⟩, _, _, rfl, rfl, _, rfl, ?_⟩
          refine ite2 (fun ho2 => ?_) (fun ho2 => ?_)
          · refine ⟨_, rfl, _, rfl, ?_⟩
            refine ⟨_, rfl, _, _, rfl, rfl, .inl ⟨by omega, by omega⟩, _, rfl, _, rfl, _, _, rfl, rfl, bits_ok hob, _, _, rfl, rfl, _, rfl, _, _, rfl, rfl, .inl ⟨by decide, by decide⟩, _, _, rfl, rfl, .inl ⟨_, rfl, _, _, rfl, rfl, (by show (0 : Int) < 2147483629; decide), (by show 3 ≤ sizeLine; decide), fun r hr' => ?_⟩⟩
            refine k r _ (fun b o e => by rw [upd_ne (ne_of_none (sH b o e) hr')]; exact sH b o e) (sH.free hr') ⟨_, _, 0, upd_same, ?_, Int.emod_nonneg _ (by decide), Int.lt_of_lt_of_le (Int.emod_lt_of_pos _ (by decide)) (by decide)⟩
            have ho' : ¬ own < 0 := fun z => ho (decide_eq_true z)
            rw [if_neg ho']
            omega
          · skip
            refine ⟨_, rfl, _, _, rfl, rfl, .inl ⟨by omega, by omega⟩, _, rfl, _, rfl, _, _, rfl, rfl, bits_ok hob, _, _, rfl, rfl, _, rfl, _, _, rfl, rfl, .inl ⟨by decide, by decide⟩, _, _, rfl, rfl, .inl ⟨_, rfl, _, _, rfl, rfl, (by show (0 : Int) < 2147483629; decide), (by show 3 ≤ sizeLine; decide), fun r hr' => ?_⟩⟩
            refine k r _ (fun b o e => by rw [upd_ne (ne_of_none (sH b o e) hr')]; exact sH b o e) (sH.free hr') ⟨_, _, 0, upd_same, ?_, Int.emod_nonneg _ (by decide), Int.lt_of_lt_of_le (Int.emod_lt_of_pos _ (by decide)) (by decide)⟩
            exact Int.le_refl 0
end
end K1
set_option Elab.async false
set_option linter.all false
set_option maxRecDepth 100000
set_option maxHeartbeats 8000000
namespace K1
open PySem PySem.Spec PyProof.Rows L2 Gd Rl
abbrev sThing : Stmt := top 41
/-- the things, as data -/
def menu : List PyData := [.none, .bool true, .bool false, .int 0, .int 1, .int (-1), .int 2, .int (10 ^ 6 + 1), .int (-10 ^ 39), .str "", .str "a", .str "vars x", .tuple [], .tuple [.int 0], .tuple [.int 1, .int 0], .str "9x",
  .list [], .list [.int 1], .str "A", .dict [], .dict [(.str "a", .int 1)], .tuple [.str "x"], .tuple [.str "a", .tuple [.int 1, .int 0]], .tuple [.tuple [.int 1, .int 0]], .tuple [.str "row"], .tuple [.none], .str "abcdefghi", .str "x y"]
def fine (d : PyData) : Bool := d.showable && decide (d.depth ≤ 18) && decide (d.shown.length ≤ 1000)
theorem menu_fine : menu.all fine = true := by decide +kernel
/-- v stands for a thing of the menu -/
def Thing (K : PySem.W.Frag) (H : Hp) (v : V) : Prop := ∃ d, Rp K H v d ∧ fine d = true
theorem Thing.same {K : PySem.W.Frag} {H H' : Hp} (e : Same H H') {v : V} (h : Thing K H v) : Thing K H' v := let ⟨d, a, b⟩ := h; ⟨d, rp_same e a, b⟩
def Things (K : PySem.W.Frag) (H : Hp) (xs : List V) : Prop := Paired (Rp K H) xs menu
theorem things_at {K : PySem.W.Frag} {H : Hp} : ∀ {xs : List V} {ds : List PyData}, Paired (Rp K H) xs ds → ds.all fine = true → ∀ {i : Nat} {x : V}, xs[i]? = some x → Thing K H x
  | _, _, .nil, _, i, x, e => by simp at e
  | _, _, .cons r t, h, 0, x, e => by
    simp at e
    subst e
    simp only [List.all_cons, Bool.and_eq_true] at h
    exact ⟨_, r, h.1⟩
  | _, _, .cons r t, h, i + 1, x, e => by
    simp only [List.all_cons, Bool.and_eq_true] at h
    exact things_at t h.2 (by simpa using e)
theorem pnil {K : PySem.W.Frag} {H : Hp} : Paired (Rp K H) [] [] := .nil
theorem pcons {K : PySem.W.Frag} {H : Hp} {v : V} {d : PyData} {vs : List V} {ds : List PyData} (h : Rp K H v d) (t : Paired (Rp K H) vs ds) : Paired (Rp K H) (v :: vs) (d :: ds) := .cons h t
theorem pcons2 {K : PySem.W.Frag} {H : Hp} {v : V} {d : PyData} {vs : List V} {ds : List PyData} (h : Dp K H v d) (t : Paired (Rp K H) vs ds) : Paired (Rp K H) (v :: vs) (d :: ds) := .cons (.inl h) t
theorem same_p {K : PySem.W.Frag} {H H' : Hp} (e : Same H H') : ∀ {vs : List V} {ds : List PyData}, Paired (Rp K H) vs ds → Paired (Rp K H') vs ds
  | _, _, .nil => .nil
  | _, _, .cons r t => .cons (rp_same e r) (same_p e t)
theorem app_p {K : PySem.W.Frag} {H : Hp} : ∀ {vs ws : List V} {ds es : List PyData}, Paired (Rp K H) vs ds → Paired (Rp K H) ws es → Paired (Rp K H) (vs ++ ws) (ds ++ es)
  | _, _, _, _, .nil, q => q
  | _, _, _, _, .cons r t, q => .cons r (app_p t q)
theorem Pail.same {H H' : Hp} {p : Addr} (h : Pail H p) (e : Same H H') : Pail H' p := by
  obtain ⟨o, st, c, h1, h2⟩ := h
  exact ⟨o, st, c, e _ _ h1, h2⟩
theorem same_del {p : Addr} {H H' : Hp} (b : But p H H') : Same (delH H p) H' := fun a o e => by
  by_cases h : a = p
  · rw [h, delH_same] at e
    cases e
  · rw [delH_ne h] at e
    exact b a o e h
theorem del_at {p a : Addr} {H H0 H' : Hp} {o u : HO} (hp : H0 p = some u) (n : New H0 a o H) (s : Same H H') : delH H' p a = some o := by
  rw [delH_ne (ne_of_none hp n.1).symm]
  exact s _ _ n.2.1
def spThing (K : PySem.W.Frag) : Sp := fun vs H Q _ => ∃ p, vs = [.ref p] ∧ Pail H p ∧ ∀ (v : V) (H' : Hp), Thing K H' v → Pail H' p → But p H H' → Q v H'
section
variable {P : Program} {w : World} {K : PySem.W.Frag} {mg : Str → Option Value} {base : Heap} {f : Addr} {fd : FuncData}
theorem scThing : FnScope ["_law_pail", "_law_menu"] ["_law_pail"] (defScope sThing) := ⟨rfl, rfl, rfl, by decide +kernel, rfl, by decide +kernel, by decide +kernel⟩
theorem ok_thing {fA fC : Addr} {fdA fdC : FuncData} (F : FnP K "_law_thing" sThing f fd) (T : Txt mg) (FA : FnP K "_law_any_of" sAny fA fdA) (gA : mg "_law_any_of" = some (.ref fA)) (FC : FnP K "_law_cast" sCast fC fdC) (gC : mg "_law_cast" = some (.ref fC)) : FnOk P w K mg base CX0 3 f fd ["_law_pail"] (spThing K) := by
  have GA : FnOk P w K mg base CX0 2 fA fdA ["_law_pail", "_law_some"] (spAny K) := ok_any FA T FC gC
  have bA : Binds K fdA ["_law_pail", "_law_some"] [] := FA.bindsN fun _ _ _ _ _ _ us hl => match us, hl with | [_, _], _ => rfl
  refine F.ok scThing (fun vs H Q E h => ?_) (fun cdv A outer s H vs Q E hr h => ?_)
  · obtain ⟨p, rfl, _⟩ := h
    rfl
  · obtain ⟨p, rfl, hp, k⟩ := h
    refine ⟨_, PSs.nox <| pss_cons (ps_set (i := 1) scThing.nd rfl (.inl rfl) (pe_lstR <| pa_cons pe_non <| pa_cons pe_bl <| pa_cons pe_bl <| pa_cons pe_int <| pa_cons pe_int <| pa_cons (pe_un un_neg pe_int) <| pa_cons pe_int <| pa_cons (pe_op op_add (pe_op op_pow pe_int pe_int) pe_int) <| pa_cons (pe_un un_neg (pe_op op_pow pe_int pe_int))
        <| pa_cons pe_str <| pa_cons pe_str <| pa_cons pe_str <| pa_cons (pe_tupR pa_nil) <| pa_cons (pe_tupR <| pa_cons pe_int pa_nil) <| pa_cons (pe_tupR <| pa_cons pe_int <| pa_cons pe_int pa_nil) <| pa_cons pe_str pa_nil))
      <| pss_cons (ps_set (i := 1) scThing.nd rfl (.inl rfl) (pe_op op_catR (pv 1) (pe_lstR <| pa_cons (pe_lstR pa_nil) <| pa_cons (pe_lstR <| pa_cons pe_int pa_nil) <| pa_cons pe_str <| pa_cons pe_dnewR <| pa_cons (pe_disp (pps_cons pe_str pe_int pps_nil) rfl rfl (by decide) (by decide)) <| pa_cons (pe_tupR <| pa_cons pe_str pa_nil) <| pa_cons (pe_tupR <| pa_cons pe_str <| pa_cons (pe_tupR <| pa_cons pe_int <| pa_cons pe_int pa_nil) pa_nil)
        <| pa_cons (pe_tupR <| pa_cons (pe_tupR <| pa_cons pe_int <| pa_cons pe_int pa_nil) pa_nil) <| pa_cons (pe_tupR <| pa_cons pe_str pa_nil) <| pa_cons (pe_tupR <| pa_cons pe_non pa_nil) <| pa_cons pe_str <| pa_cons pe_str pa_nil)))
      <| pss_one (ps_ret (pe_call GA hr (by rfl) gA FA.kp bA .nil pass0 (pa_cons (pv 0) (pa_cons (pv 1) pa_nil)))), ?_⟩
    have dl : ∀ {n : Nat}, decide (n ≤ 1000) = true → n ≤ 1000 := fun h => of_decide_eq_true h
    refine ⟨_, rfl, _, _, rfl, rfl, ⟨by decide, by decide, by decide⟩, _, _, rfl, rfl, _, _, rfl, rfl, ⟨by decide, by decide, by decide⟩, _, rfl, dl rfl, fun a1 H1 n1 => ⟨dl rfl, fun a2 H2 n2 => ⟨dl rfl, fun a3 H3 n3 => ⟨dl rfl, fun l4 H4 n4 => ?_⟩⟩⟩⟩
    refine ⟨_, rfl, dl rfl, fun l5 H5 n5 => ⟨dl rfl, fun l6 H6 n6 => fun d7 H7 n7 => fun d8 nd8 => ⟨upd_same, [(Sum.inr "a", .int 1)], rfl, by decide, ?_⟩⟩⟩
    have n8 : New H7 d8 (.dK [(Sum.inr "a", .int 1)]) (upd (upd H7 d8 (.dK [])) d8 (.dK (mergeK [] [(Sum.inr "a", .int 1)]))) := ⟨nd8, upd_same, fun b u e => by rw [upd_ne (ne_of_none e nd8), upd_ne (ne_of_none e nd8)]; exact e⟩
    generalize (upd (upd H7 d8 (.dK [])) d8 (.dK (mergeK [] [(Sum.inr "a", .int 1)]))) = H8 at n8 ⊢
    refine ⟨dl rfl, fun a9 H9 n9 => ⟨dl rfl, fun b10 H10 n10 => ⟨dl rfl, fun a11 H11 n11 => ⟨dl rfl, fun b12 H12 n12 => ⟨dl rfl, fun a13 H13 n13 => ⟨dl rfl, fun a14 H14 n14 => ⟨dl rfl, fun a15 H15 n15 => ⟨dl rfl, fun l16 H16 n16 => ?_⟩⟩⟩⟩⟩⟩⟩⟩
    have s16 := Same.refl H16
    have s15 := n16.2.2
    have s14 := n15.2.2.trans s15
    have s13 := n14.2.2.trans s14
    have s12 := n13.2.2.trans s13
    have s11 := n12.2.2.trans s12
    have s10 := n11.2.2.trans s11
    have s9 := n10.2.2.trans s10
    have s8 := n9.2.2.trans s9
    have s7 := n8.2.2.trans s8
    have s6 := n7.2.2.trans s7
    have s5 := n6.2.2.trans s6
    have s4 := n5.2.2.trans s5
    have s3 := n4.2.2.trans s4
    have s2 := n3.2.2.trans s3
    have s1 := n2.2.2.trans s2
    have s0 := n1.2.2.trans s1
    refine ⟨l4, l16, _, _, rfl, rfl, s4 _ _ n4.2.1, n16.2.1, dl rfl, fun l17 H17 n17 => ?_⟩
    have z := n17.2.2
    have hpp := hp
    obtain ⟨o, st, c, q0, _⟩ := hpp
    have q1 := n1.2.2 _ _ q0
    have q2 := n2.2.2 _ _ q1
    have q3 := n3.2.2 _ _ q2
    have q4 := n4.2.2 _ _ q3
    have q5 := n5.2.2 _ _ q4
    have q6 := n6.2.2 _ _ q5
    have q7 := n7.2.2 _ _ q6
    have q8 := n8.2.2 _ _ q7
    have q9 := n9.2.2 _ _ q8
    have q10 := n10.2.2 _ _ q9
    have q11 := n11.2.2 _ _ q10
    have q12 := n12.2.2 _ _ q11
    have q13 := n13.2.2 _ _ q12
    have q14 := n14.2.2 _ _ q13
    have q15 := n15.2.2 _ _ q14
    have q16 := n16.2.2 _ _ q15
    have e1 := del_at q0 n1 (s1.trans z)
    have e2 := del_at q1 n2 (s2.trans z)
    have e3 := del_at q2 n3 (s3.trans z)
    have e5 := del_at q4 n5 (s5.trans z)
    have e6 := del_at q5 n6 (s6.trans z)
    have e7 := del_at q6 n7 (s7.trans z)
    have e8 := del_at q7 n8 (s8.trans z)
    have e9 := del_at q8 n9 (s9.trans z)
    have e10 := del_at q9 n10 (s10.trans z)
    have e11 := del_at q10 n11 (s11.trans z)
    have e12 := del_at q11 n12 (s12.trans z)
    have e13 := del_at q12 n13 (s13.trans z)
    have e14 := del_at q13 n14 (s14.trans z)
    have e15 := del_at q14 n15 (s15.trans z)
    have all : Paired (Rp K (delH H17 p)) _ menu := (pcons2 .non <| pcons2 (.bl true) <| pcons2 (.bl false) <| pcons2 (.int 0) <| pcons2 (.int 1) <| pcons2 (.int (-1)) <| pcons2 (.int 2) <| pcons2 (.int (10 ^ 6 + 1)) <| pcons2 (.int (-10 ^ 39)) <| pcons2 (.str "") <| pcons2 (.str "a") <| pcons2 (.str "vars x")
      <| pcons2 (.tup (.of e1) .nil) <| pcons2 (.tup (.of e2) (.cons (.int 0) .nil)) <| pcons2 (.tup (.of e3) (.cons (.int 1) (.cons (.int 0) .nil))) <| pcons2 (.str "9x")
      <| pcons2 (.lst (.of e5) .nil) <| pcons2 (.lst (.of e6) (.cons (.int 1) .nil)) <| pcons2 (.str "A") <| pcons (.inr ⟨d7, [], [], rfl, e7, .nil, rfl⟩) <| pcons (.inr ⟨d8, _, _, rfl, e8, .cons ⟨rfl, rfl⟩ .nil, rfl⟩)
      <| pcons2 (.tup (.of e9) (.cons (.str "x") .nil)) <| pcons2 (.tup (.of e11) (.cons (.str "a") (.cons (.tup (.of e10) (.cons (.int 1) (.cons (.int 0) .nil))) .nil))) <| pcons2 (.tup (.of e13) (.cons (.tup (.of e12) (.cons (.int 1) (.cons (.int 0) .nil))) .nil)) <| pcons2 (.tup (.of e14) (.cons (.str "row") .nil)) <| pcons2 (.tup (.of e15) (.cons .non .nil)) <| pcons2 (.str "abcdefghi") <| pcons2 (.str "x y") pnil)
    refine ⟨_, rfl, _, rfl, p, l17, _, rfl, hp.same (s0.trans z), n17.2.1, (ne_of_none q16 n17.1).symm, ?_, ?_, fun i x H' ei hp' bt => ?_⟩
    · show 0 < 28
      decide
    · show 28 ≤ 1000
      decide
    · exact k x H' ((things_at all menu_fine ei).same (same_del bt)) hp' fun b u e nb => bt b u ((s0.trans z) b u e) nb
end
end K1
set_option Elab.async false
set_option linter.all false
set_option maxRecDepth 100000
set_option maxHeartbeats 8000000
namespace K1
open PySem PySem.Spec PyProof.Rows L2 Gd Rl Fx
abbrev sPlaced : Stmt := top 42
abbrev sNamed : Stmt := top 43
/-! ### the classes, by their numbers -/
def nms : List Str := ["InvalidText", "InvalidName", "InvalidIndex", "InvalidPlace", "InvalidPoint", "InvalidForm", "InvalidRank", "InvalidWish", "NotProgram", "InvalidNames", "InvalidSayings", "InvalidBranches", "InvalidForms", "InvalidRanks", "InvalidWalk", "InvalidChanges", "InvalidWishes", "UnknownName", "InUse", "Stuck", "NoRow", "TooMany", "NothingToUndo", "Broken"]
def nm (k : Nat) : Str := nms.getD k ""
def flds : List Str := ["given", "given", "given", "given", "given", "given", "given", "given", "given", "index", "index", "index", "index", "index", "index", "index", "index", "given", "index", "index", "given", "given", "", "index"]
def fld (k : Nat) : Str := flds.getD k ""
def rt (k : Nat) : Nat := if k < 17 then 0 else if k < 19 then 1 else 2
def bn : Nat → String | 0 => "ValueError" | 1 => "LookupError" | _ => "ArithmeticError"
def newOf : Nat → String | 0 => "ValueError.__new__" | 1 => "LookupError.__new__" | _ => "ArithmeticError.__new__"
def initOf : Nat → String | 0 => "ValueError.__init__" | 1 => "LookupError.__init__" | _ => "ArithmeticError.__init__"
def bmOf : Nat → List Value | 0 => [.type "ValueError", .type "Exception", .type "BaseException", .type "object"] | 1 => [.type "LookupError", .type "Exception", .type "BaseException", .type "object"] | _ => [.type "ArithmeticError", .type "Exception", .type "BaseException", .type "object"]
def wn : Nat → Str | 0 => "WrongValue" | 1 => "WrongName" | _ => "NotPossible"
theorem rootOf : ∀ r : Nat, Root (bn r) (newOf r) (initOf r) (bmOf r)
  | 0 => rootV
  | 1 => rootL
  | _ + 2 => rootA
structure ClsT (P : Program) (K : PySem.W.Frag) (mg : Str → Option Value) (ca fi wa : Nat → Addr) : Prop where
  e : ∀ k, k < 24 → k ≠ 22 → Err1 P K mg (newOf (rt k)) (initOf (rt k)) (bmOf (rt k)) (ca k) (wa (rt k)) (fi k) (fld k)
  u : ErrT K mg (newOf 2) (initOf 2) (bmOf 2) (ca 22) (wa 2) (fi 22)
  u0 : Fn0 P K (ca 22) (fi 22)
  g : ∀ k, k < 24 → mg (nm k) = some (.ref (ca k))
  i : ∀ k, k < 24 → IsC K (ca k)
  x : ∀ k, k < 24 → XfC K (ca k)
  one : ∀ k j, k < 24 → j < 24 → PySem.W.kitOne K (.ref (ca k)) (.ref (ca j)) = some (decide (k = j))
  base : ∀ k r, k < 24 → r < 3 → PySem.W.kitOne K (.ref (ca k)) (.ref (wa r)) = some (decide (rt k = r))
  blt : ∀ k r, k < 24 → r < 3 → PySem.W.kitOne K (.ref (ca k)) (.type (bn r)) = some (decide (rt k = r))
  wg : ∀ r, r < 3 → mg (wn r) = some (.ref (wa r))
  wi : ∀ r, r < 3 → IsC K (wa r)
  wx : ∀ r, r < 3 → PySem.W.excIn K (wa r) (bmOf r) (newOf r) = true
  wk : ∀ r, r < 3 → PySem.W.keepIn K (.ref (wa r)) = true
  wbase : ∀ k r, k < 3 → r < 3 → PySem.W.kitOne K (.ref (wa k)) (.ref (wa r)) = some (decide (k = r))
  wblt : ∀ k r, k < 3 → r < 3 → PySem.W.kitOne K (.ref (wa k)) (.type (bn r)) = some (decide (k = r))
/-- the k-th error stands at a -/
def EAt (ca : Nat → Addr) (H : Hp) (a : Addr) (k : Nat) (v : V) : Prop := if k = 22 then H a = some (exo a (ca 22) none) else ErrAt H a (ca k) (fld k) v
theorem EAt.same {ca : Nat → Addr} {H H' : Hp} (s : Same H H') {a : Addr} {k : Nat} {v : V} (h : EAt ca H a k v) : EAt ca H' a k v := by
  unfold EAt at *
  split
  · rename_i z
    rw [if_pos z] at h
    exact s _ _ h
  · rename_i z
    rw [if_neg z] at h
    exact h.same s
/-- one error of each class, in their order, from the k-th on -/
inductive ErrsF (ca : Nat → Addr) (H : Hp) (v : V) : Nat → List V → Prop where
  | nil {k : Nat} : ErrsF ca H v k []
  | cons {k : Nat} {a : Addr} {xs : List V} : EAt ca H a k v → ErrsF ca H v (k + 1) xs → ErrsF ca H v k (.ref a :: xs)
theorem errs_at {ca : Nat → Addr} {H : Hp} {v : V} : ∀ {k : Nat} {xs : List V}, ErrsF ca H v k xs → ∀ {i : Nat} {x : V}, xs[i]? = some x → ∃ a, x = .ref a ∧ EAt ca H a (k + i) v
  | _, _, .nil, i, x, e => by simp at e
  | k, _, .cons h t, 0, x, e => by
    simp at e
    subst e
    exact ⟨_, rfl, h⟩
  | k, _, .cons h t, i + 1, x, e => by
    obtain ⟨a, e1, e2⟩ := errs_at t (i := i) (x := x) (by simpa using e)
    refine ⟨a, e1, ?_⟩
    rw [show k + (i + 1) = k + 1 + i by omega]
    exact e2
theorem ErrsF.same {ca : Nat → Addr} {H H' : Hp} (s : Same H H') {v : V} : ∀ {k : Nat} {xs : List V}, ErrsF ca H v k xs → ErrsF ca H' v k xs
  | _, _, .nil => .nil
  | _, _, .cons h t => .cons (h.same s) (ErrsF.same s t)
/-- such a list of all 24 -/
def Errs (ca : Nat → Addr) (H : Hp) (l : Addr) (v : V) : Prop := ∃ xs, xs.length = 24 ∧ H l = some (.lst xs) ∧ ErrsF ca H v 0 xs
def spPut (ca : Nat → Addr) : Sp := fun vs H Q _ => ∃ v, vs = [v] ∧ ∀ (l : Addr) (H' : Hp), Same H H' → H l = none → Errs ca H' l v → Q (.ref l) H'
theorem pe_err0R {X : Cx} {B newId initId : String} {bmB : List Value} {C W fI : Addr} {k : Nat} {x : Str} {p pos : Pos} (Z : Root B newId initId bmB) (T : ErrT X.K X.mg newId initId bmB C W fI) (N : Fn0 X.prog X.K C fI) (hr : Room (k + 1) X.A) (gC : X.mg x = some (.ref C)) (hg : Gl X x)
    (hdb : (x == ("__debug__" : Str)) = false := by decide) : PE X (.Call (.Name x p) [] [] pos) (fun σ H Q => ∀ a H2, New H a (exo a C none) H2 → Q (.ref a) H2) :=
  ⟨fun pins s σ H Q I h => (pe_err0 Z T N hr gC hg hdb).run pins s σ H Q I fun a na => h a _ (.mk' na)⟩
section
variable {P : Program} {w : World} {K : PySem.W.Frag} {mg : Str → Option Value} {base : Heap} {f : Addr} {fd : FuncData} {ca fi wa : Nat → Addr}
theorem scPlaced : FnScope ["_law_thing_here", "_law_found"] ["_law_thing_here"] (defScope sPlaced) := ⟨rfl, rfl, rfl, by decide +kernel, rfl, by decide +kernel, by decide +kernel⟩
theorem ok_placed (F : FnP K "_law_placed" sPlaced f fd) (T : ClsT P K mg ca fi wa) : FnOk P w K mg base CX0 2 f fd ["_law_thing_here"] (spPut ca) := by
  refine F.ok scPlaced (fun vs H Q E h => ?_) (fun cdv A outer s H vs Q E hr h => ?_)
  · obtain ⟨v, rfl, _⟩ := h
    rfl
  · obtain ⟨v, rfl, k⟩ := h
    refine ⟨_, PSs.nox <| pss_cons (ps_set (i := 1) scPlaced.nd rfl (.inl rfl) (pe_lstR <| pa_cons (pe_errR (rootOf (rt 0)) (T.e 0 (by decide) (by decide)) hr (T.g 0 (by decide)) (by rfl) (pv 0)) <| pa_cons (pe_errR (rootOf (rt 1)) (T.e 1 (by decide) (by decide)) hr (T.g 1 (by decide)) (by rfl) (pv 0)) <| pa_cons (pe_errR (rootOf (rt 2)) (T.e 2 (by decide) (by decide)) hr (T.g 2 (by decide)) (by rfl) (pv 0)) <| pa_cons (pe_errR (rootOf (rt 3)) (T.e 3 (by decide) (by decide)) hr (T.g 3 (by decide)) (by rfl) (pv 0)) <| pa_cons (pe_errR (rootOf (rt 4)) (T.e 4 (by decide) (by decide)) hr (T.g 4 (by decide)) (by rfl) (pv 0)) pa_nil))
      <| pss_cons (ps_set (i := 1) scPlaced.nd rfl (.inl rfl) (pe_op op_catR (pv 1) (pe_lstR <| pa_cons (pe_errR (rootOf (rt 5)) (T.e 5 (by decide) (by decide)) hr (T.g 5 (by decide)) (by rfl) (pv 0)) <| pa_cons (pe_errR (rootOf (rt 6)) (T.e 6 (by decide) (by decide)) hr (T.g 6 (by decide)) (by rfl) (pv 0)) <| pa_cons (pe_errR (rootOf (rt 7)) (T.e 7 (by decide) (by decide)) hr (T.g 7 (by decide)) (by rfl) (pv 0)) <| pa_cons (pe_errR (rootOf (rt 8)) (T.e 8 (by decide) (by decide)) hr (T.g 8 (by decide)) (by rfl) (pv 0)) pa_nil)))
      <| pss_cons (ps_set (i := 1) scPlaced.nd rfl (.inl rfl) (pe_op op_catR (pv 1) (pe_lstR <| pa_cons (pe_errR (rootOf (rt 9)) (T.e 9 (by decide) (by decide)) hr (T.g 9 (by decide)) (by rfl) (pv 0)) <| pa_cons (pe_errR (rootOf (rt 10)) (T.e 10 (by decide) (by decide)) hr (T.g 10 (by decide)) (by rfl) (pv 0)) <| pa_cons (pe_errR (rootOf (rt 11)) (T.e 11 (by decide) (by decide)) hr (T.g 11 (by decide)) (by rfl) (pv 0)) <| pa_cons (pe_errR (rootOf (rt 12)) (T.e 12 (by decide) (by decide)) hr (T.g 12 (by decide)) (by rfl) (pv 0)) pa_nil)))
      <| pss_cons (ps_set (i := 1) scPlaced.nd rfl (.inl rfl) (pe_op op_catR (pv 1) (pe_lstR <| pa_cons (pe_errR (rootOf (rt 13)) (T.e 13 (by decide) (by decide)) hr (T.g 13 (by decide)) (by rfl) (pv 0)) <| pa_cons (pe_errR (rootOf (rt 14)) (T.e 14 (by decide) (by decide)) hr (T.g 14 (by decide)) (by rfl) (pv 0)) <| pa_cons (pe_errR (rootOf (rt 15)) (T.e 15 (by decide) (by decide)) hr (T.g 15 (by decide)) (by rfl) (pv 0)) <| pa_cons (pe_errR (rootOf (rt 16)) (T.e 16 (by decide) (by decide)) hr (T.g 16 (by decide)) (by rfl) (pv 0)) pa_nil)))
      <| pss_cons (ps_set (i := 1) scPlaced.nd rfl (.inl rfl) (pe_op op_catR (pv 1) (pe_lstR <| pa_cons (pe_errR (rootOf (rt 17)) (T.e 17 (by decide) (by decide)) hr (T.g 17 (by decide)) (by rfl) (pv 0)) <| pa_cons (pe_errR (rootOf (rt 18)) (T.e 18 (by decide) (by decide)) hr (T.g 18 (by decide)) (by rfl) (pv 0)) <| pa_cons (pe_errR (rootOf (rt 19)) (T.e 19 (by decide) (by decide)) hr (T.g 19 (by decide)) (by rfl) (pv 0)) <| pa_cons (pe_errR (rootOf (rt 20)) (T.e 20 (by decide) (by decide)) hr (T.g 20 (by decide)) (by rfl) (pv 0)) <| pa_cons (pe_errR (rootOf (rt 21)) (T.e 21 (by decide) (by decide)) hr (T.g 21 (by decide)) (by rfl) (pv 0)) pa_nil)))
      <| pss_one (ps_ret (pe_op op_catR (pv 1) (pe_lstR <| pa_cons (pe_err0R (rootOf 2) T.u T.u0 hr (T.g 22 (by decide)) (by rfl)) <| pa_cons (pe_errR (rootOf (rt 23)) (T.e 23 (by decide) (by decide)) hr (T.g 23 (by decide)) (by rfl) (pv 0)) pa_nil))), ?_⟩
    have dl : ∀ {n : Nat}, decide (n ≤ 1000) = true → n ≤ 1000 := fun h => of_decide_eq_true h
    refine ⟨_, rfl, fun a0 H0 e0 s0 => ⟨_, rfl, fun a1 H1 e1 s1 => ⟨_, rfl, fun a2 H2 e2 s2 => ⟨_, rfl, fun a3 H3 e3 s3 => ⟨_, rfl, fun a4 H4 e4 s4 => ⟨dl rfl, fun l0 L0 m0 => ?_⟩⟩⟩⟩⟩⟩
    refine ⟨_, rfl, ⟨_, rfl, fun a5 H5 e5 s5 => ⟨_, rfl, fun a6 H6 e6 s6 => ⟨_, rfl, fun a7 H7 e7 s7 => ⟨_, rfl, fun a8 H8 e8 s8 => ⟨dl rfl, fun l1 L1 m1 => ?_⟩⟩⟩⟩⟩⟩
    refine ⟨l0, l1, _, _, rfl, rfl, (m1.2.2 _ _ (s8 _ _ (s7 _ _ (s6 _ _ (s5 _ _ m0.2.1))))), m1.2.1, dl rfl, fun c1 C1 d1 => ?_⟩
    refine ⟨_, rfl, ⟨_, rfl, fun a9 H9 e9 s9 => ⟨_, rfl, fun a10 H10 e10 s10 => ⟨_, rfl, fun a11 H11 e11 s11 => ⟨_, rfl, fun a12 H12 e12 s12 => ⟨dl rfl, fun l2 L2 m2 => ?_⟩⟩⟩⟩⟩⟩
    refine ⟨c1, l2, _, _, rfl, rfl, (m2.2.2 _ _ (s12 _ _ (s11 _ _ (s10 _ _ (s9 _ _ d1.2.1))))), m2.2.1, dl rfl, fun c2 C2 d2 => ?_⟩
    refine ⟨_, rfl, ⟨_, rfl, fun a13 H13 e13 s13 => ⟨_, rfl, fun a14 H14 e14 s14 => ⟨_, rfl, fun a15 H15 e15 s15 => ⟨_, rfl, fun a16 H16 e16 s16 => ⟨dl rfl, fun l3 L3 m3 => ?_⟩⟩⟩⟩⟩⟩
    refine ⟨c2, l3, _, _, rfl, rfl, (m3.2.2 _ _ (s16 _ _ (s15 _ _ (s14 _ _ (s13 _ _ d2.2.1))))), m3.2.1, dl rfl, fun c3 C3 d3 => ?_⟩
    refine ⟨_, rfl, ⟨_, rfl, fun a17 H17 e17 s17 => ⟨_, rfl, fun a18 H18 e18 s18 => ⟨_, rfl, fun a19 H19 e19 s19 => ⟨_, rfl, fun a20 H20 e20 s20 => ⟨_, rfl, fun a21 H21 e21 s21 => ⟨dl rfl, fun l4 L4 m4 => ?_⟩⟩⟩⟩⟩⟩⟩
    refine ⟨c3, l4, _, _, rfl, rfl, (m4.2.2 _ _ (s21 _ _ (s20 _ _ (s19 _ _ (s18 _ _ (s17 _ _ d3.2.1)))))), m4.2.1, dl rfl, fun c4 C4 d4 => ?_⟩
    refine ⟨_, rfl, fun a22 H22 n22 => ⟨_, rfl, fun a23 H23 e23 s23 => ⟨dl rfl, fun l5 L5 m5 => ?_⟩⟩⟩
    refine ⟨c4, l5, _, _, rfl, rfl, (m5.2.2 _ _ (s23 _ _ (n22.2.2 _ _ d4.2.1))), m5.2.1, dl rfl, fun c5 C5 d5 => ?_⟩
    have z34 := Same.refl C5
    have z33 := d5.2.2
    have z32 := (m5.2.2).trans z33
    have z31 := (s23).trans z32
    have z30 := (n22.2.2).trans z31
    have z29 := (d4.2.2).trans z30
    have z28 := (m4.2.2).trans z29
    have z27 := (s21).trans z28
    have z26 := (s20).trans z27
    have z25 := (s19).trans z26
    have z24 := (s18).trans z25
    have z23 := (s17).trans z24
    have z22 := (d3.2.2).trans z23
    have z21 := (m3.2.2).trans z22
    have z20 := (s16).trans z21
    have z19 := (s15).trans z20
    have z18 := (s14).trans z19
    have z17 := (s13).trans z18
    have z16 := (d2.2.2).trans z17
    have z15 := (m2.2.2).trans z16
    have z14 := (s12).trans z15
    have z13 := (s11).trans z14
    have z12 := (s10).trans z13
    have z11 := (s9).trans z12
    have z10 := (d1.2.2).trans z11
    have z9 := (m1.2.2).trans z10
    have z8 := (s8).trans z9
    have z7 := (s7).trans z8
    have z6 := (s6).trans z7
    have z5 := (s5).trans z6
    have z4 := (m0.2.2).trans z5
    have z3 := (s4).trans z4
    have z2 := (s3).trans z3
    have z1 := (s2).trans z2
    have z0 := (s1).trans z1
    have yy := (((((((((((((((((((((((((((((((((s0).trans s1).trans s2).trans s3).trans s4).trans m0.2.2).trans s5).trans s6).trans s7).trans s8).trans m1.2.2).trans d1.2.2).trans s9).trans s10).trans s11).trans s12).trans m2.2.2).trans d2.2.2).trans s13).trans s14).trans s15).trans s16).trans m3.2.2).trans d3.2.2).trans s17).trans s18).trans s19).trans s20).trans s21).trans m4.2.2).trans d4.2.2).trans n22.2.2).trans s23).trans m5.2.2
    have zz := (s0).trans z0
    refine k c5 C5 zz ?_ ⟨_, ?_, d5.2.1, .cons (EAt.same z0 (show EAt ca H0 a0 0 v from e0)) <| .cons (EAt.same z1 (show EAt ca H1 a1 1 v from e1)) <| .cons (EAt.same z2 (show EAt ca H2 a2 2 v from e2)) <| .cons (EAt.same z3 (show EAt ca H3 a3 3 v from e3)) <| .cons (EAt.same z4 (show EAt ca H4 a4 4 v from e4)) <| .cons (EAt.same z6 (show EAt ca H5 a5 5 v from e5)) <| .cons (EAt.same z7 (show EAt ca H6 a6 6 v from e6)) <| .cons (EAt.same z8 (show EAt ca H7 a7 7 v from e7)) <| .cons (EAt.same z9 (show EAt ca H8 a8 8 v from e8)) <| .cons (EAt.same z12 (show EAt ca H9 a9 9 v from e9)) <| .cons (EAt.same z13 (show EAt ca H10 a10 10 v from e10)) <| .cons (EAt.same z14 (show EAt ca H11 a11 11 v from e11)) <| .cons (EAt.same z15 (show EAt ca H12 a12 12 v from e12)) <| .cons (EAt.same z18 (show EAt ca H13 a13 13 v from e13)) <| .cons (EAt.same z19 (show EAt ca H14 a14 14 v from e14)) <| .cons (EAt.same z20 (show EAt ca H15 a15 15 v from e15)) <| .cons (EAt.same z21 (show EAt ca H16 a16 16 v from e16)) <| .cons (EAt.same z24 (show EAt ca H17 a17 17 v from e17)) <| .cons (EAt.same z25 (show EAt ca H18 a18 18 v from e18)) <| .cons (EAt.same z26 (show EAt ca H19 a19 19 v from e19)) <| .cons (EAt.same z27 (show EAt ca H20 a20 20 v from e20)) <| .cons (EAt.same z28 (show EAt ca H21 a21 21 v from e21)) <| .cons (EAt.same z31 (show EAt ca H22 a22 22 v from n22.2.1)) <| .cons (EAt.same z32 (show EAt ca H23 a23 23 v from e23)) .nil⟩
    · exact (yy).free d5.1
    · rfl
theorem scNamed : FnScope ["_law_thing_here", "_law_found"] ["_law_thing_here"] (defScope sNamed) := ⟨rfl, rfl, rfl, by decide +kernel, rfl, by decide +kernel, by decide +kernel⟩
theorem ok_named (F : FnP K "_law_named" sNamed f fd) (T : ClsT P K mg ca fi wa) : FnOk P w K mg base CX0 2 f fd ["_law_thing_here"] (spPut ca) := by
  refine F.ok scNamed (fun vs H Q E h => ?_) (fun cdv A outer s H vs Q E hr h => ?_)
  · obtain ⟨v, rfl, _⟩ := h
    rfl
  · obtain ⟨v, rfl, k⟩ := h
    refine ⟨_, PSs.nox <| pss_cons (ps_set (i := 1) scNamed.nd rfl (.inl rfl) (pe_lstR <| pa_cons (pe_errKR (rootOf (rt 0)) (T.e 0 (by decide) (by decide)) hr (T.g 0 (by decide)) (by rfl) (pv 0)) <| pa_cons (pe_errKR (rootOf (rt 1)) (T.e 1 (by decide) (by decide)) hr (T.g 1 (by decide)) (by rfl) (pv 0)) <| pa_cons (pe_errKR (rootOf (rt 2)) (T.e 2 (by decide) (by decide)) hr (T.g 2 (by decide)) (by rfl) (pv 0)) <| pa_cons (pe_errKR (rootOf (rt 3)) (T.e 3 (by decide) (by decide)) hr (T.g 3 (by decide)) (by rfl) (pv 0)) pa_nil))
      <| pss_cons (ps_set (i := 1) scNamed.nd rfl (.inl rfl) (pe_op op_catR (pv 1) (pe_lstR <| pa_cons (pe_errKR (rootOf (rt 4)) (T.e 4 (by decide) (by decide)) hr (T.g 4 (by decide)) (by rfl) (pv 0)) <| pa_cons (pe_errKR (rootOf (rt 5)) (T.e 5 (by decide) (by decide)) hr (T.g 5 (by decide)) (by rfl) (pv 0)) <| pa_cons (pe_errKR (rootOf (rt 6)) (T.e 6 (by decide) (by decide)) hr (T.g 6 (by decide)) (by rfl) (pv 0)) pa_nil)))
      <| pss_cons (ps_set (i := 1) scNamed.nd rfl (.inl rfl) (pe_op op_catR (pv 1) (pe_lstR <| pa_cons (pe_errKR (rootOf (rt 7)) (T.e 7 (by decide) (by decide)) hr (T.g 7 (by decide)) (by rfl) (pv 0)) <| pa_cons (pe_errKR (rootOf (rt 8)) (T.e 8 (by decide) (by decide)) hr (T.g 8 (by decide)) (by rfl) (pv 0)) <| pa_cons (pe_errKR (rootOf (rt 9)) (T.e 9 (by decide) (by decide)) hr (T.g 9 (by decide)) (by rfl) (pv 0)) pa_nil)))
      <| pss_cons (ps_set (i := 1) scNamed.nd rfl (.inl rfl) (pe_op op_catR (pv 1) (pe_lstR <| pa_cons (pe_errKR (rootOf (rt 10)) (T.e 10 (by decide) (by decide)) hr (T.g 10 (by decide)) (by rfl) (pv 0)) <| pa_cons (pe_errKR (rootOf (rt 11)) (T.e 11 (by decide) (by decide)) hr (T.g 11 (by decide)) (by rfl) (pv 0)) <| pa_cons (pe_errKR (rootOf (rt 12)) (T.e 12 (by decide) (by decide)) hr (T.g 12 (by decide)) (by rfl) (pv 0)) pa_nil)))
      <| pss_cons (ps_set (i := 1) scNamed.nd rfl (.inl rfl) (pe_op op_catR (pv 1) (pe_lstR <| pa_cons (pe_errKR (rootOf (rt 13)) (T.e 13 (by decide) (by decide)) hr (T.g 13 (by decide)) (by rfl) (pv 0)) <| pa_cons (pe_errKR (rootOf (rt 14)) (T.e 14 (by decide) (by decide)) hr (T.g 14 (by decide)) (by rfl) (pv 0)) <| pa_cons (pe_errKR (rootOf (rt 15)) (T.e 15 (by decide) (by decide)) hr (T.g 15 (by decide)) (by rfl) (pv 0)) pa_nil)))
      <| pss_cons (ps_set (i := 1) scNamed.nd rfl (.inl rfl) (pe_op op_catR (pv 1) (pe_lstR <| pa_cons (pe_errKR (rootOf (rt 16)) (T.e 16 (by decide) (by decide)) hr (T.g 16 (by decide)) (by rfl) (pv 0)) <| pa_cons (pe_errKR (rootOf (rt 17)) (T.e 17 (by decide) (by decide)) hr (T.g 17 (by decide)) (by rfl) (pv 0)) <| pa_cons (pe_errKR (rootOf (rt 18)) (T.e 18 (by decide) (by decide)) hr (T.g 18 (by decide)) (by rfl) (pv 0)) <| pa_cons (pe_errKR (rootOf (rt 19)) (T.e 19 (by decide) (by decide)) hr (T.g 19 (by decide)) (by rfl) (pv 0)) pa_nil)))
      <| pss_one (ps_ret (pe_op op_catR (pv 1) (pe_lstR <| pa_cons (pe_errKR (rootOf (rt 20)) (T.e 20 (by decide) (by decide)) hr (T.g 20 (by decide)) (by rfl) (pv 0)) <| pa_cons (pe_errKR (rootOf (rt 21)) (T.e 21 (by decide) (by decide)) hr (T.g 21 (by decide)) (by rfl) (pv 0)) <| pa_cons (pe_err0R (rootOf 2) T.u T.u0 hr (T.g 22 (by decide)) (by rfl)) <| pa_cons (pe_errKR (rootOf (rt 23)) (T.e 23 (by decide) (by decide)) hr (T.g 23 (by decide)) (by rfl) (pv 0)) pa_nil))), ?_⟩
    have dl : ∀ {n : Nat}, decide (n ≤ 1000) = true → n ≤ 1000 := fun h => of_decide_eq_true h
    refine ⟨_, rfl, fun a0 H0 e0 s0 => ⟨_, rfl, fun a1 H1 e1 s1 => ⟨_, rfl, fun a2 H2 e2 s2 => ⟨_, rfl, fun a3 H3 e3 s3 => ⟨dl rfl, fun l0 L0 m0 => ?_⟩⟩⟩⟩⟩
    refine ⟨_, rfl, ⟨_, rfl, fun a4 H4 e4 s4 => ⟨_, rfl, fun a5 H5 e5 s5 => ⟨_, rfl, fun a6 H6 e6 s6 => ⟨dl rfl, fun l1 L1 m1 => ?_⟩⟩⟩⟩⟩
    refine ⟨l0, l1, _, _, rfl, rfl, (m1.2.2 _ _ (s6 _ _ (s5 _ _ (s4 _ _ m0.2.1)))), m1.2.1, dl rfl, fun c1 C1 d1 => ?_⟩
    refine ⟨_, rfl, ⟨_, rfl, fun a7 H7 e7 s7 => ⟨_, rfl, fun a8 H8 e8 s8 => ⟨_, rfl, fun a9 H9 e9 s9 => ⟨dl rfl, fun l2 L2 m2 => ?_⟩⟩⟩⟩⟩
    refine ⟨c1, l2, _, _, rfl, rfl, (m2.2.2 _ _ (s9 _ _ (s8 _ _ (s7 _ _ d1.2.1)))), m2.2.1, dl rfl, fun c2 C2 d2 => ?_⟩
    refine ⟨_, rfl, ⟨_, rfl, fun a10 H10 e10 s10 => ⟨_, rfl, fun a11 H11 e11 s11 => ⟨_, rfl, fun a12 H12 e12 s12 => ⟨dl rfl, fun l3 L3 m3 => ?_⟩⟩⟩⟩⟩
    refine ⟨c2, l3, _, _, rfl, rfl, (m3.2.2 _ _ (s12 _ _ (s11 _ _ (s10 _ _ d2.2.1)))), m3.2.1, dl rfl, fun c3 C3 d3 => ?_⟩
    refine ⟨_, rfl, ⟨_, rfl, fun a13 H13 e13 s13 => ⟨_, rfl, fun a14 H14 e14 s14 => ⟨_, rfl, fun a15 H15 e15 s15 => ⟨dl rfl, fun l4 L4 m4 => ?_⟩⟩⟩⟩⟩
    refine ⟨c3, l4, _, _, rfl, rfl, (m4.2.2 _ _ (s15 _ _ (s14 _ _ (s13 _ _ d3.2.1)))), m4.2.1, dl rfl, fun c4 C4 d4 => ?_⟩
    refine ⟨_, rfl, ⟨_, rfl, fun a16 H16 e16 s16 => ⟨_, rfl, fun a17 H17 e17 s17 => ⟨_, rfl, fun a18 H18 e18 s18 => ⟨_, rfl, fun a19 H19 e19 s19 => ⟨dl rfl, fun l5 L5 m5 => ?_⟩⟩⟩⟩⟩⟩
    refine ⟨c4, l5, _, _, rfl, rfl, (m5.2.2 _ _ (s19 _ _ (s18 _ _ (s17 _ _ (s16 _ _ d4.2.1))))), m5.2.1, dl rfl, fun c5 C5 d5 => ?_⟩
    refine ⟨_, rfl, ⟨_, rfl, fun a20 H20 e20 s20 => ⟨_, rfl, fun a21 H21 e21 s21 => fun a22 H22 n22 => ⟨_, rfl, fun a23 H23 e23 s23 => ⟨dl rfl, fun l6 L6 m6 => ?_⟩⟩⟩⟩⟩
    refine ⟨c5, l6, _, _, rfl, rfl, (m6.2.2 _ _ (s23 _ _ (n22.2.2 _ _ (s21 _ _ (s20 _ _ d5.2.1))))), m6.2.1, dl rfl, fun c6 C6 d6 => ?_⟩
    have z36 := Same.refl C6
    have z35 := d6.2.2
    have z34 := (m6.2.2).trans z35
    have z33 := (s23).trans z34
    have z32 := (n22.2.2).trans z33
    have z31 := (s21).trans z32
    have z30 := (s20).trans z31
    have z29 := (d5.2.2).trans z30
    have z28 := (m5.2.2).trans z29
    have z27 := (s19).trans z28
    have z26 := (s18).trans z27
    have z25 := (s17).trans z26
    have z24 := (s16).trans z25
    have z23 := (d4.2.2).trans z24
    have z22 := (m4.2.2).trans z23
    have z21 := (s15).trans z22
    have z20 := (s14).trans z21
    have z19 := (s13).trans z20
    have z18 := (d3.2.2).trans z19
    have z17 := (m3.2.2).trans z18
    have z16 := (s12).trans z17
    have z15 := (s11).trans z16
    have z14 := (s10).trans z15
    have z13 := (d2.2.2).trans z14
    have z12 := (m2.2.2).trans z13
    have z11 := (s9).trans z12
    have z10 := (s8).trans z11
    have z9 := (s7).trans z10
    have z8 := (d1.2.2).trans z9
    have z7 := (m1.2.2).trans z8
    have z6 := (s6).trans z7
    have z5 := (s5).trans z6
    have z4 := (s4).trans z5
    have z3 := (m0.2.2).trans z4
    have z2 := (s3).trans z3
    have z1 := (s2).trans z2
    have z0 := (s1).trans z1
    have yy := (((((((((((((((((((((((((((((((((((s0).trans s1).trans s2).trans s3).trans m0.2.2).trans s4).trans s5).trans s6).trans m1.2.2).trans d1.2.2).trans s7).trans s8).trans s9).trans m2.2.2).trans d2.2.2).trans s10).trans s11).trans s12).trans m3.2.2).trans d3.2.2).trans s13).trans s14).trans s15).trans m4.2.2).trans d4.2.2).trans s16).trans s17).trans s18).trans s19).trans m5.2.2).trans d5.2.2).trans s20).trans s21).trans n22.2.2).trans s23).trans m6.2.2
    have zz := (s0).trans z0
    refine k c6 C6 zz ?_ ⟨_, ?_, d6.2.1, .cons (EAt.same z0 (show EAt ca H0 a0 0 v from e0)) <| .cons (EAt.same z1 (show EAt ca H1 a1 1 v from e1)) <| .cons (EAt.same z2 (show EAt ca H2 a2 2 v from e2)) <| .cons (EAt.same z3 (show EAt ca H3 a3 3 v from e3)) <| .cons (EAt.same z5 (show EAt ca H4 a4 4 v from e4)) <| .cons (EAt.same z6 (show EAt ca H5 a5 5 v from e5)) <| .cons (EAt.same z7 (show EAt ca H6 a6 6 v from e6)) <| .cons (EAt.same z10 (show EAt ca H7 a7 7 v from e7)) <| .cons (EAt.same z11 (show EAt ca H8 a8 8 v from e8)) <| .cons (EAt.same z12 (show EAt ca H9 a9 9 v from e9)) <| .cons (EAt.same z15 (show EAt ca H10 a10 10 v from e10)) <| .cons (EAt.same z16 (show EAt ca H11 a11 11 v from e11)) <| .cons (EAt.same z17 (show EAt ca H12 a12 12 v from e12)) <| .cons (EAt.same z20 (show EAt ca H13 a13 13 v from e13)) <| .cons (EAt.same z21 (show EAt ca H14 a14 14 v from e14)) <| .cons (EAt.same z22 (show EAt ca H15 a15 15 v from e15)) <| .cons (EAt.same z25 (show EAt ca H16 a16 16 v from e16)) <| .cons (EAt.same z26 (show EAt ca H17 a17 17 v from e17)) <| .cons (EAt.same z27 (show EAt ca H18 a18 18 v from e18)) <| .cons (EAt.same z28 (show EAt ca H19 a19 19 v from e19)) <| .cons (EAt.same z31 (show EAt ca H20 a20 20 v from e20)) <| .cons (EAt.same z32 (show EAt ca H21 a21 21 v from e21)) <| .cons (EAt.same z33 (show EAt ca H22 a22 22 v from n22.2.1)) <| .cons (EAt.same z34 (show EAt ca H23 a23 23 v from e23)) .nil⟩
    · exact (yy).free d6.1
    · rfl
end
end K1
set_option Elab.async false
set_option linter.all false
set_option maxRecDepth 100000
set_option maxHeartbeats 8000000
namespace K1
open PySem PySem.Spec PyProof.Rows L2 Gd Rl Fx
abbrev sFlags : Stmt := top 44
abbrev sBases : Stmt := top 45
abbrev sHeld : Stmt := top 46
def bS : Nat → Str | 0 => "ValueError" | 1 => "LookupError" | _ => "ArithmeticError"
/-- built-in names that the law asks for -/
structure Blt (mg : Str → Option Value) : Prop where
  isi : mg "isinstance" = none
  bl : ∀ r, r < 3 → mg (bS r) = none
theorem IsE.same {H H' : Hp} (s : Same H H') {a C : Addr} (h : IsE H a C) : IsE H' a C := by
  rcases h with ⟨dd, fs, h1, h2⟩ | h | h
  · exact .inl ⟨dd, fs, s _ _ h1, s _ _ h2⟩
  · exact .inr (.inl (s _ _ h))
  · exact .inr (.inr (s _ _ h))
theorem EAt.isE {ca : Nat → Addr} {H : Hp} {a : Addr} {k : Nat} {v : V} (h : EAt ca H a k v) : IsE H a (ca k) := by
  unfold EAt at h
  split at h
  · rename_i z
    subst z
    exact .inr (.inl h)
  · obtain ⟨d, h1, h2⟩ := h
    exact .inl ⟨d, _, h1, h2⟩
def spFlags (ca : Nat → Addr) : Sp := fun vs H Q _ => ∃ (a : Addr) (k : Nat), vs = [.ref a] ∧ k < 24 ∧ IsE H a (ca k) ∧ ∀ (l : Addr) (H' : Hp), New H l (.lst ((List.range 24).map fun j => V.bl (decide (k = j)))) H' → Q (.ref l) H'
def flagsOf (r : Nat) : List V := [.bl (decide (r = 0)), .bl (decide (r = 1)), .bl (decide (r = 2)), .bl (decide (r = 0)), .bl (decide (r = 1)), .bl (decide (r = 2))]
def spBases (K : PySem.W.Frag) (wa : Nat → Addr) : Sp := fun vs H Q _ => ∃ (a C : Addr) (r : Nat), vs = [.ref a] ∧ IsE H a C ∧ IsC K C ∧ (∀ j, j < 3 → PySem.W.kitOne K (.ref C) (.ref (wa j)) = some (decide (r = j))) ∧ (∀ j, j < 3 → PySem.W.kitOne K (.ref C) (.type (bn j)) = some (decide (r = j))) ∧
  ∀ (l : Addr) (H' : Hp), New H l (.lst (flagsOf r)) H' → Q (.ref l) H'
def spHeld (ca : Nat → Addr) : Sp := fun vs H Q _ => ∃ (a : Addr) (k : Nat) (v : V), vs = [.ref a, .int k] ∧ k < 24 ∧ k ≠ 22 ∧ ErrAt H a (ca k) (fld k) v ∧ ∀ (H' : Hp), Same H H' → Q v H'
section
variable {P : Program} {w : World} {K : PySem.W.Frag} {mg : Str → Option Value} {base : Heap} {f : Addr} {fd : FuncData} {ca fi wa : Nat → Addr}
theorem scFlags : FnScope ["_law_e", "_law_found"] ["_law_e"] (defScope sFlags) := ⟨rfl, rfl, rfl, by decide +kernel, rfl, by decide +kernel, by decide +kernel⟩
theorem ok_flags (F : FnP K "_law_flags" sFlags f fd) (T : ClsT P K mg ca fi wa) (U : Blt mg) : FnOk P w K mg base CX0 1 f fd ["_law_e"] (spFlags ca) := by
  refine F.ok scFlags (fun vs H Q E h => ?_) (fun cdv A outer s H vs Q E hr h => ?_)
  · obtain ⟨a, k, rfl, _⟩ := h
    rfl
  · obtain ⟨a, k, rfl, hk, ie, k1⟩ := h
    refine ⟨_, PSs.nox <| pss_cons (ps_set (i := 1) scFlags.nd rfl (.inl rfl) (pe_lstR <| pa_cons (pe_callB call_isE (by rfl) U.isi boot_isinstance (pa_cons (pv 0) (pa_cons (pe_glob (v := .ref (ca 0)) (by rfl) (T.g 0 (by decide)) rfl) pa_nil))) <| pa_cons (pe_callB call_isE (by rfl) U.isi boot_isinstance (pa_cons (pv 0) (pa_cons (pe_glob (v := .ref (ca 1)) (by rfl) (T.g 1 (by decide)) rfl) pa_nil))) <| pa_cons (pe_callB call_isE (by rfl) U.isi boot_isinstance (pa_cons (pv 0) (pa_cons (pe_glob (v := .ref (ca 2)) (by rfl) (T.g 2 (by decide)) rfl) pa_nil))) pa_nil))
      <| pss_cons (ps_set (i := 1) scFlags.nd rfl (.inl rfl) (pe_op op_catR (pv 1) (pe_lstR <| pa_cons (pe_callB call_isE (by rfl) U.isi boot_isinstance (pa_cons (pv 0) (pa_cons (pe_glob (v := .ref (ca 3)) (by rfl) (T.g 3 (by decide)) rfl) pa_nil))) <| pa_cons (pe_callB call_isE (by rfl) U.isi boot_isinstance (pa_cons (pv 0) (pa_cons (pe_glob (v := .ref (ca 4)) (by rfl) (T.g 4 (by decide)) rfl) pa_nil))) <| pa_cons (pe_callB call_isE (by rfl) U.isi boot_isinstance (pa_cons (pv 0) (pa_cons (pe_glob (v := .ref (ca 5)) (by rfl) (T.g 5 (by decide)) rfl) pa_nil))) pa_nil)))
      <| pss_cons (ps_set (i := 1) scFlags.nd rfl (.inl rfl) (pe_op op_catR (pv 1) (pe_lstR <| pa_cons (pe_callB call_isE (by rfl) U.isi boot_isinstance (pa_cons (pv 0) (pa_cons (pe_glob (v := .ref (ca 6)) (by rfl) (T.g 6 (by decide)) rfl) pa_nil))) <| pa_cons (pe_callB call_isE (by rfl) U.isi boot_isinstance (pa_cons (pv 0) (pa_cons (pe_glob (v := .ref (ca 7)) (by rfl) (T.g 7 (by decide)) rfl) pa_nil))) <| pa_cons (pe_callB call_isE (by rfl) U.isi boot_isinstance (pa_cons (pv 0) (pa_cons (pe_glob (v := .ref (ca 8)) (by rfl) (T.g 8 (by decide)) rfl) pa_nil))) pa_nil)))
      <| pss_cons (ps_set (i := 1) scFlags.nd rfl (.inl rfl) (pe_op op_catR (pv 1) (pe_lstR <| pa_cons (pe_callB call_isE (by rfl) U.isi boot_isinstance (pa_cons (pv 0) (pa_cons (pe_glob (v := .ref (ca 9)) (by rfl) (T.g 9 (by decide)) rfl) pa_nil))) <| pa_cons (pe_callB call_isE (by rfl) U.isi boot_isinstance (pa_cons (pv 0) (pa_cons (pe_glob (v := .ref (ca 10)) (by rfl) (T.g 10 (by decide)) rfl) pa_nil))) <| pa_cons (pe_callB call_isE (by rfl) U.isi boot_isinstance (pa_cons (pv 0) (pa_cons (pe_glob (v := .ref (ca 11)) (by rfl) (T.g 11 (by decide)) rfl) pa_nil))) pa_nil)))
      <| pss_cons (ps_set (i := 1) scFlags.nd rfl (.inl rfl) (pe_op op_catR (pv 1) (pe_lstR <| pa_cons (pe_callB call_isE (by rfl) U.isi boot_isinstance (pa_cons (pv 0) (pa_cons (pe_glob (v := .ref (ca 12)) (by rfl) (T.g 12 (by decide)) rfl) pa_nil))) <| pa_cons (pe_callB call_isE (by rfl) U.isi boot_isinstance (pa_cons (pv 0) (pa_cons (pe_glob (v := .ref (ca 13)) (by rfl) (T.g 13 (by decide)) rfl) pa_nil))) <| pa_cons (pe_callB call_isE (by rfl) U.isi boot_isinstance (pa_cons (pv 0) (pa_cons (pe_glob (v := .ref (ca 14)) (by rfl) (T.g 14 (by decide)) rfl) pa_nil))) pa_nil)))
      <| pss_cons (ps_set (i := 1) scFlags.nd rfl (.inl rfl) (pe_op op_catR (pv 1) (pe_lstR <| pa_cons (pe_callB call_isE (by rfl) U.isi boot_isinstance (pa_cons (pv 0) (pa_cons (pe_glob (v := .ref (ca 15)) (by rfl) (T.g 15 (by decide)) rfl) pa_nil))) <| pa_cons (pe_callB call_isE (by rfl) U.isi boot_isinstance (pa_cons (pv 0) (pa_cons (pe_glob (v := .ref (ca 16)) (by rfl) (T.g 16 (by decide)) rfl) pa_nil))) <| pa_cons (pe_callB call_isE (by rfl) U.isi boot_isinstance (pa_cons (pv 0) (pa_cons (pe_glob (v := .ref (ca 17)) (by rfl) (T.g 17 (by decide)) rfl) pa_nil))) pa_nil)))
      <| pss_cons (ps_set (i := 1) scFlags.nd rfl (.inl rfl) (pe_op op_catR (pv 1) (pe_lstR <| pa_cons (pe_callB call_isE (by rfl) U.isi boot_isinstance (pa_cons (pv 0) (pa_cons (pe_glob (v := .ref (ca 18)) (by rfl) (T.g 18 (by decide)) rfl) pa_nil))) <| pa_cons (pe_callB call_isE (by rfl) U.isi boot_isinstance (pa_cons (pv 0) (pa_cons (pe_glob (v := .ref (ca 19)) (by rfl) (T.g 19 (by decide)) rfl) pa_nil))) <| pa_cons (pe_callB call_isE (by rfl) U.isi boot_isinstance (pa_cons (pv 0) (pa_cons (pe_glob (v := .ref (ca 20)) (by rfl) (T.g 20 (by decide)) rfl) pa_nil))) <| pa_cons (pe_callB call_isE (by rfl) U.isi boot_isinstance (pa_cons (pv 0) (pa_cons (pe_glob (v := .ref (ca 21)) (by rfl) (T.g 21 (by decide)) rfl) pa_nil))) pa_nil)))
      <| pss_one (ps_ret (pe_op op_catR (pv 1) (pe_lstR <| pa_cons (pe_callB call_isE (by rfl) U.isi boot_isinstance (pa_cons (pv 0) (pa_cons (pe_glob (v := .ref (ca 22)) (by rfl) (T.g 22 (by decide)) rfl) pa_nil))) <| pa_cons (pe_callB call_isE (by rfl) U.isi boot_isinstance (pa_cons (pv 0) (pa_cons (pe_glob (v := .ref (ca 23)) (by rfl) (T.g 23 (by decide)) rfl) pa_nil))) pa_nil))), ?_⟩
    have dl : ∀ {n : Nat}, decide (n ≤ 1000) = true → n ≤ 1000 := fun h => of_decide_eq_true h
    have y : Same H H := Same.refl H
    refine ⟨_, rfl, a, _, _, _, _, rfl, .own _, IsE.same y ie, T.i k hk, T.one k 0 hk (by decide), ⟨_, rfl, a, _, _, _, _, rfl, .own _, IsE.same y ie, T.i k hk, T.one k 1 hk (by decide), ⟨_, rfl, a, _, _, _, _, rfl, .own _, IsE.same y ie, T.i k hk, T.one k 2 hk (by decide), ⟨dl rfl, fun l0 L0 m0 => ?_⟩⟩⟩⟩
    have y := y.trans m0.2.2
    refine ⟨_, rfl, ⟨_, rfl, a, _, _, _, _, rfl, .own _, IsE.same y ie, T.i k hk, T.one k 3 hk (by decide), ⟨_, rfl, a, _, _, _, _, rfl, .own _, IsE.same y ie, T.i k hk, T.one k 4 hk (by decide), ⟨_, rfl, a, _, _, _, _, rfl, .own _, IsE.same y ie, T.i k hk, T.one k 5 hk (by decide), ⟨dl rfl, fun l1 L1 m1 => ?_⟩⟩⟩⟩⟩
    have y := y.trans m1.2.2
    have p1 := m1.2.2 _ _ m0.2.1
    refine ⟨_, l1, _, _, rfl, rfl, p1, m1.2.1, dl rfl, fun c1 C1 d1 => ?_⟩
    have y1 := y
    have y := y.trans d1.2.2
    refine ⟨_, rfl, ⟨_, rfl, a, _, _, _, _, rfl, .own _, IsE.same y ie, T.i k hk, T.one k 6 hk (by decide), ⟨_, rfl, a, _, _, _, _, rfl, .own _, IsE.same y ie, T.i k hk, T.one k 7 hk (by decide), ⟨_, rfl, a, _, _, _, _, rfl, .own _, IsE.same y ie, T.i k hk, T.one k 8 hk (by decide), ⟨dl rfl, fun l2 L2 m2 => ?_⟩⟩⟩⟩⟩
    have y := y.trans m2.2.2
    have p2 := m2.2.2 _ _ d1.2.1
    refine ⟨_, l2, _, _, rfl, rfl, p2, m2.2.1, dl rfl, fun c2 C2 d2 => ?_⟩
    have y2 := y
    have y := y.trans d2.2.2
    refine ⟨_, rfl, ⟨_, rfl, a, _, _, _, _, rfl, .own _, IsE.same y ie, T.i k hk, T.one k 9 hk (by decide), ⟨_, rfl, a, _, _, _, _, rfl, .own _, IsE.same y ie, T.i k hk, T.one k 10 hk (by decide), ⟨_, rfl, a, _, _, _, _, rfl, .own _, IsE.same y ie, T.i k hk, T.one k 11 hk (by decide), ⟨dl rfl, fun l3 L3 m3 => ?_⟩⟩⟩⟩⟩
    have y := y.trans m3.2.2
    have p3 := m3.2.2 _ _ d2.2.1
    refine ⟨_, l3, _, _, rfl, rfl, p3, m3.2.1, dl rfl, fun c3 C3 d3 => ?_⟩
    have y3 := y
    have y := y.trans d3.2.2
    refine ⟨_, rfl, ⟨_, rfl, a, _, _, _, _, rfl, .own _, IsE.same y ie, T.i k hk, T.one k 12 hk (by decide), ⟨_, rfl, a, _, _, _, _, rfl, .own _, IsE.same y ie, T.i k hk, T.one k 13 hk (by decide), ⟨_, rfl, a, _, _, _, _, rfl, .own _, IsE.same y ie, T.i k hk, T.one k 14 hk (by decide), ⟨dl rfl, fun l4 L4 m4 => ?_⟩⟩⟩⟩⟩
    have y := y.trans m4.2.2
    have p4 := m4.2.2 _ _ d3.2.1
    refine ⟨_, l4, _, _, rfl, rfl, p4, m4.2.1, dl rfl, fun c4 C4 d4 => ?_⟩
    have y4 := y
    have y := y.trans d4.2.2
    refine ⟨_, rfl, ⟨_, rfl, a, _, _, _, _, rfl, .own _, IsE.same y ie, T.i k hk, T.one k 15 hk (by decide), ⟨_, rfl, a, _, _, _, _, rfl, .own _, IsE.same y ie, T.i k hk, T.one k 16 hk (by decide), ⟨_, rfl, a, _, _, _, _, rfl, .own _, IsE.same y ie, T.i k hk, T.one k 17 hk (by decide), ⟨dl rfl, fun l5 L5 m5 => ?_⟩⟩⟩⟩⟩
    have y := y.trans m5.2.2
    have p5 := m5.2.2 _ _ d4.2.1
    refine ⟨_, l5, _, _, rfl, rfl, p5, m5.2.1, dl rfl, fun c5 C5 d5 => ?_⟩
    have y5 := y
    have y := y.trans d5.2.2
    refine ⟨_, rfl, ⟨_, rfl, a, _, _, _, _, rfl, .own _, IsE.same y ie, T.i k hk, T.one k 18 hk (by decide), ⟨_, rfl, a, _, _, _, _, rfl, .own _, IsE.same y ie, T.i k hk, T.one k 19 hk (by decide), ⟨_, rfl, a, _, _, _, _, rfl, .own _, IsE.same y ie, T.i k hk, T.one k 20 hk (by decide), ⟨_, rfl, a, _, _, _, _, rfl, .own _, IsE.same y ie, T.i k hk, T.one k 21 hk (by decide), ⟨dl rfl, fun l6 L6 m6 => ?_⟩⟩⟩⟩⟩⟩
    have y := y.trans m6.2.2
    have p6 := m6.2.2 _ _ d5.2.1
    refine ⟨_, l6, _, _, rfl, rfl, p6, m6.2.1, dl rfl, fun c6 C6 d6 => ?_⟩
    have y6 := y
    have y := y.trans d6.2.2
    refine ⟨_, rfl, ⟨_, rfl, a, _, _, _, _, rfl, .own _, IsE.same y ie, T.i k hk, T.one k 22 hk (by decide), ⟨_, rfl, a, _, _, _, _, rfl, .own _, IsE.same y ie, T.i k hk, T.one k 23 hk (by decide), ⟨dl rfl, fun l7 L7 m7 => ?_⟩⟩⟩⟩
    have y := y.trans m7.2.2
    have p7 := m7.2.2 _ _ d6.2.1
    refine ⟨_, l7, _, _, rfl, rfl, p7, m7.2.1, dl rfl, fun c7 C7 d7 => ?_⟩
    have y7 := y
    have y := y.trans d7.2.2
    exact k1 c7 C7 ⟨y7.free d7.1, d7.2.1, y⟩
theorem scBases : FnScope ["_law_e", "_law_found"] ["_law_e"] (defScope sBases) := ⟨rfl, rfl, rfl, by decide +kernel, rfl, by decide +kernel, by decide +kernel⟩
theorem ok_bases (F : FnP K "_law_bases" sBases f fd) (T : ClsT P K mg ca fi wa) (U : Blt mg) : FnOk P w K mg base CX0 1 f fd ["_law_e"] (spBases K wa) := by
  refine F.ok scBases (fun vs H Q E h => ?_) (fun cdv A outer s H vs Q E hr h => ?_)
  · obtain ⟨a, C, r, rfl, _⟩ := h
    rfl
  · obtain ⟨a, C, r, rfl, ie, ic, b1, b2, k1⟩ := h
    refine ⟨_, PSs.nox <| pss_cons (ps_set (i := 1) scBases.nd rfl (.inl rfl) (pe_lstR <| pa_cons (pe_callB call_isE (by rfl) U.isi boot_isinstance (pa_cons (pv 0) (pa_cons (pe_glob (v := .ref (wa 0)) (by rfl) (T.wg 0 (by decide)) rfl) pa_nil))) <| pa_cons (pe_callB call_isE (by rfl) U.isi boot_isinstance (pa_cons (pv 0) (pa_cons (pe_glob (v := .ref (wa 1)) (by rfl) (T.wg 1 (by decide)) rfl) pa_nil))) <| pa_cons (pe_callB call_isE (by rfl) U.isi boot_isinstance (pa_cons (pv 0) (pa_cons (pe_glob (v := .ref (wa 2)) (by rfl) (T.wg 2 (by decide)) rfl) pa_nil))) pa_nil))
      <| pss_one (ps_ret (pe_op op_catR (pv 1) (pe_lstR <| pa_cons (pe_callB call_isE (by rfl) U.isi boot_isinstance (pa_cons (pv 0) (pa_cons (pe_bltn (v := .ty (bn 0)) (by rfl) (U.bl 0 (by decide)) (by decide +kernel) rfl) pa_nil))) <| pa_cons (pe_callB call_isE (by rfl) U.isi boot_isinstance (pa_cons (pv 0) (pa_cons (pe_bltn (v := .ty (bn 1)) (by rfl) (U.bl 1 (by decide)) (by decide +kernel) rfl) pa_nil))) <| pa_cons (pe_callB call_isE (by rfl) U.isi boot_isinstance (pa_cons (pv 0) (pa_cons (pe_bltn (v := .ty (bn 2)) (by rfl) (U.bl 2 (by decide)) (by decide +kernel) rfl) pa_nil))) pa_nil))), ?_⟩
    have dl : ∀ {n : Nat}, decide (n ≤ 1000) = true → n ≤ 1000 := fun h => of_decide_eq_true h
    have y : Same H H := Same.refl H
    refine ⟨_, rfl, a, _, _, _, _, rfl, .own _, IsE.same y ie, ic, b1 0 (by decide), ⟨_, rfl, a, _, _, _, _, rfl, .own _, IsE.same y ie, ic, b1 1 (by decide), ⟨_, rfl, a, _, _, _, _, rfl, .own _, IsE.same y ie, ic, b1 2 (by decide), ⟨dl rfl, fun l0 L0 m0 => ?_⟩⟩⟩⟩
    have y := y.trans m0.2.2
    refine ⟨_, rfl, ⟨_, rfl, a, _, _, _, _, rfl, .ty _, IsE.same y ie, ic, b2 0 (by decide), ⟨_, rfl, a, _, _, _, _, rfl, .ty _, IsE.same y ie, ic, b2 1 (by decide), ⟨_, rfl, a, _, _, _, _, rfl, .ty _, IsE.same y ie, ic, b2 2 (by decide), ⟨dl rfl, fun l1 L1 m1 => ?_⟩⟩⟩⟩⟩
    have y := y.trans m1.2.2
    have p1 := m1.2.2 _ _ m0.2.1
    refine ⟨_, l1, _, _, rfl, rfl, p1, m1.2.1, dl rfl, fun c1 C1 d1 => ?_⟩
    have y1 := y
    have y := y.trans d1.2.2
    exact k1 c1 C1 ⟨y1.free d1.1, d1.2.1, y⟩
def heldL : List V := [.int 9, .int 10, .int 11, .int 12, .int 13, .int 14, .int 15, .int 16, .int 18, .int 19, .int 23]
theorem held_fld : ∀ k, k < 24 → k ≠ 22 → (if inV (.int (k : Nat)) heldL = true then (PySem.Str.ofString "index") else PySem.Str.ofString "given") = fld k := by decide +kernel
theorem scHeld : FnScope ["_law_e", "_law_at"] ["_law_e", "_law_at"] (defScope sHeld) := ⟨rfl, rfl, rfl, by decide +kernel, rfl, by decide +kernel, by decide +kernel⟩
theorem ok_held (F : FnP K "_law_held" sHeld f fd) (T : ClsT P K mg ca fi wa) : FnOk P w K mg base CX0 1 f fd ["_law_e", "_law_at"] (spHeld ca) := by
  refine F.ok scHeld (fun vs H Q E h => ?_) (fun cdv A outer s H vs Q E hr h => ?_)
  · obtain ⟨a, k, v, rfl, _⟩ := h
    rfl
  · obtain ⟨a, k, v, rfl, hk, k22, he, k1⟩ := h
    refine ⟨_, PSs.nox <| pss_one (ps_ret (pe_ifExp (pt_cmpR op_in_seq (pv 1) (pe_lstR <| pa_cons pe_int <| pa_cons pe_int <| pa_cons pe_int <| pa_cons pe_int <| pa_cons pe_int <| pa_cons pe_int <| pa_cons pe_int <| pa_cons pe_int <| pa_cons pe_int <| pa_cons pe_int <| pa_cons pe_int pa_nil) (by rfl)) (pe_ef (pv 0)) (pe_ef (pv 0)))), ?_⟩
    refine ⟨_, rfl, by decide, fun l H1 n1 => ?_⟩
    have hf := held_fld k hk k22
    have ex := (T.e k hk k22).no
    obtain ⟨d, h1, h2⟩ := he.same n1.2.2
    refine ⟨l, _, rfl, .inl (SqL.of n1.2.1), rfl, (by decide), _, rfl, ?_⟩
    refine ite2 (fun z => ?_) (fun z => ?_)
    · rw [if_pos (show inV (.int (k : Nat)) heldL = true from z)] at hf
      rw [← hf] at h2 ex
      exact ⟨_, rfl, a, _, d, _, v, rfl, h1, h2, (by simp [List.lookup]), T.x k hk, ex, k1 H1 n1.2.2⟩
    · rw [if_neg (show ¬ inV (.int (k : Nat)) heldL = true from z)] at hf
      rw [← hf] at h2 ex
      exact ⟨_, rfl, a, _, d, _, v, rfl, h1, h2, (by simp [List.lookup]), T.x k hk, ex, k1 H1 n1.2.2⟩
end
end K1
set_option Elab.async false
set_option linter.all false
set_option maxRecDepth 100000
set_option maxHeartbeats 8000000
namespace K1
open PySem PySem.Spec PyProof.Rows L2 Gd Rl Fx
abbrev sSome : Stmt := top 47
abbrev sRight : Stmt := top 48
abbrev sLaw : Stmt := top 49
theorem dp_bools {K : PySem.W.Frag} {H : Hp} : ∀ bs : List Bool, DpAll K H (bs.map V.bl) (bs.map PyData.bool)
  | [] => .nil
  | b :: bs => .cons (.bl b) (dp_bools bs)
theorem lay_bools : ∀ bs : List Bool, PyData.canLayAll0 (bs.map PyData.bool) = true ∧ PyData.depthAll (bs.map PyData.bool) = 0
  | [] => ⟨rfl, rfl⟩
  | b :: bs => by
    obtain ⟨h1, h2⟩ := lay_bools bs
    constructor
    · simp [PyData.canLayAll0, PyData.canLay0, h1]
    · simp [PyData.depthAll, PyData.depth, h2]
theorem shaped_bools (bs : List Bool) : SeqAt.shaped (.list (bs.map PyData.bool)) = true := by
  obtain ⟨h1, h2⟩ := lay_bools bs
  unfold SeqAt.shaped
  simp [PyData.canLay0, PyData.depth, h1, h2]
structure Blt2 (mg : Str → Option Value) : Prop where
  len : mg "len" = none
  range : mg "range" = none
  repr : mg "repr" = none
  all : mg "all" = none
  max : mg "max" = none
  min : mg "min" = none
theorem eqs_int (i : Nat) : ∀ {n : Nat}, ((List.range n).map fun (m : Nat) => V.bl (decide (V.int (0 + (m : Int)) = V.int (i : Int)))) = ((List.range n).map fun j => V.bl (decide (i = j))) := fun {n} => by
  refine List.map_congr_left fun m _ => ?_
  congr 1
  rw [decide_eq_decide, V.int.injEq]
  omega
def spSome (K : PySem.W.Frag) (ca : Nat → Addr) : Sp := fun vs H Q _ => ∃ (l : Addr) (v : V), vs = [.ref l, v] ∧ Errs ca H l v ∧ Thing K H v ∧ ∀ H', Same H H' → Q (.bl true) H'
section
variable {P : Program} {w : World} {K : PySem.W.Frag} {mg : Str → Option Value} {base : Heap} {f : Addr} {fd : FuncData} {ca fi wa : Nat → Addr}
abbrev nSome : List Str := ["_law_some", "_law_thing_here", "_law_at", "_law_base", "_law_k"]
theorem scSome : FnScope nSome ["_law_some", "_law_thing_here"] (defScope sSome) := ⟨rfl, rfl, rfl, by decide +kernel, rfl, by decide +kernel, by decide +kernel⟩
theorem ok_some {fF fB fH : Addr} {fdF fdB fdH : FuncData} (F : FnP K "_law_some_right" sSome f fd) (T : ClsT P K mg ca fi wa) (U : Blt mg) (U2 : Blt2 mg) (FF : FnP K "_law_flags" sFlags fF fdF) (gF : mg "_law_flags" = some (.ref fF)) (FB : FnP K "_law_bases" sBases fB fdB) (gB : mg "_law_bases" = some (.ref fB))
    (FH : FnP K "_law_held" sHeld fH fdH) (gH : mg "_law_held" = some (.ref fH)) : FnG P w K mg base 2 f fd ["_law_some", "_law_thing_here"] (spSome K ca) := by
  have GF : FnOk P w K mg base CX0 1 fF fdF ["_law_e"] (spFlags ca) := ok_flags FF T U
  have GB : FnOk P w K mg base CX0 1 fB fdB ["_law_e"] (spBases K wa) := ok_bases FB T U
  have GH : FnOk P w K mg base CX0 1 fH fdH ["_law_e", "_law_at"] (spHeld ca) := ok_held FH T
  have bF : Binds K fdF ["_law_e"] [] := FF.bindsN fun _ _ _ _ _ _ us hl => match us, hl with | [_], _ => rfl
  have bB : Binds K fdB ["_law_e"] [] := FB.bindsN fun _ _ _ _ _ _ us hl => match us, hl with | [_], _ => rfl
  have bH : Binds K fdH ["_law_e", "_law_at"] [] := FH.bindsN fun _ _ _ _ _ _ us hl => match us, hl with | [_, _], _ => rfl
  refine okG F scSome (fun vs H Q E h => ?_) (fun cdv A outer s H vs Q E hgd hr h => ?_)
  · obtain ⟨l, v, rfl, _⟩ := h
    rfl
  · obtain ⟨l, v, rfl, ⟨xs, x24, hl, es⟩, ht, k1⟩ := h
    refine ⟨_, PSs.nox <| pss_cons (ps_for PassesOwn.never rfl (pi_range1 (by rfl) U2.range (pa_cons pe_int pa_nil)) (pg_name (i := 2) scSome.nd rfl (.inr rfl))
        (pss_cons (ps_set (i := 3) scSome.nd rfl (.inr rfl) (pe_ifExp (pt_cmpR op_lt (pv 2) pe_int (nomark _)) pe_int (pe_ifExp (pt_cmpR op_lt (pv 2) pe_int (nomark _)) pe_int pe_int)))
        <| pss_cons (ps_if (pt_cmpR (op_neD hr.units) (pe_call GF hr (by rfl) gF FF.kp bF .nil pass0 (pa_cons (pe_ix ix_list (pv 0) (pv 2) (fun _ _ => rfl)) pa_nil))
            (pe_lc (own := [("_law_k", 4)]) (g := gName 4) (tt := tYes) rfl scSome.nd (pi_range1 (by rfl) U2.range (pa_cons pe_int pa_nil)) (blkOk_by (N := nSome) (sc := defScope sSome) (by decide +kernel)) (fun _ _ _ _ _ => pg_name (i := 4) scSome.nd rfl (Or.inl rfl)) (fun _ _ _ _ _ => pts_nil) (fun _ _ _ _ _ => pe_cmpR op_eq (pv 4) (pv 2) (nomark _))) (nomark _)) (pss_one (ps_ret pe_bl)) pss_nil)
        <| pss_cons (ps_if (pt_cmpR (op_neD hr.units) (pe_call GB hr (by rfl) gB FB.kp bB .nil pass0 (pa_cons (pe_ix ix_list (pv 0) (pv 2) (fun _ _ => rfl)) pa_nil))
            (pe_op op_repR (pe_lc (own := [("_law_k", 4)]) (g := gName 4) (tt := tYes) rfl scSome.nd (pi_range1 (by rfl) U2.range (pa_cons pe_int pa_nil)) (blkOk_by (N := nSome) (sc := defScope sSome) (by decide +kernel)) (fun _ _ _ _ _ => pg_name (i := 4) scSome.nd rfl (Or.inl rfl)) (fun _ _ _ _ _ => pts_nil) (fun _ _ _ _ _ => pe_cmpR op_eq (pv 4) (pv 3) (nomark _))) pe_int) (nomark _)) (pss_one (ps_ret pe_bl)) pss_nil)
        <| pss_one (ps_if (PW.pt (pw_and (pt_cmpR op_ne (pv 2) pe_int (nomark _)) (pw_and1 (pt_cmpR op_ne (pe_callB (call_repr hgd hr.units) (by rfl) U2.repr boot_repr (pa_cons (pe_call GH hr (by rfl) gH FH.kp bH .nil pass0 (pa_cons (pe_ix ix_list (pv 0) (pv 2) (fun _ _ => rfl)) (pa_cons (pv 2) pa_nil))) pa_nil))
            (pe_callB (call_repr hgd hr.units) (by rfl) U2.repr boot_repr (pa_cons (pv 1) pa_nil)) (nomark _))))) (pss_one (ps_ret pe_bl)) pss_nil)))
      <| pss_one (ps_ret (pe_cmpR op_eq (pe_callB call_len (by rfl) U2.len PySem.boot_len (pa_cons (pv 0) pa_nil)) pe_int (nomark _))), ?_⟩
    have dl : ∀ {n : Nat}, decide (n ≤ 1000) = true → n ≤ 1000 := fun h => of_decide_eq_true h
    refine ⟨24, rfl, by decide, by decide, for_range (n := 24) (fun i σ H2 => ∃ (x1 x2 x3 : Option V), σ = [some (.ref l), some v, x1, x2, x3] ∧ Same H H2) ⟨none, none, none, rfl, Same.refl _⟩ ?_ ?_⟩
    · rintro i σ H2 hi ⟨x1, x2, x3, rfl, s2⟩
      rw [show (0 : Int) + (i : Int) = (i : Int) from Int.zero_add _]
      refine ⟨_, rfl, _, _, rfl, rfl, _, rfl, ?_⟩
      refine ite2 (fun c1 => ?_) (fun c1 => ?_)
      · have hrt : rt i = 0 := by
          have z : (i : Int) < 17 := of_decide_eq_true c1
          unfold rt
          rw [if_pos (by omega)]
        have hs2 : Same H H2 := s2
        obtain ⟨a, ea, eat⟩ := errs_at (es.same hs2) (i := i) (x := xs[i]'(by omega)) (by simp)
        rw [Nat.zero_add] at eat
        have exi : xs[i]? = some (V.ref a) := by rw [← ea]; simp
        have hl2 := hs2 _ _ hl
        refine ⟨_, rfl, _, rfl, l, xs, (i : Int), V.ref a, rfl, rfl, SqL.of hl2, atI_nat exi, a, i, rfl, hi, eat.isE, fun lf Hf nf => ?_⟩
        refine ⟨24, rfl, by decide, by decide, fun D hD => lc_range (lo := 0) (n := 24) (fun j H3 => Same Hf H3 ∧ H3 D = some (.lst ((List.range j).map fun (m : Nat) => V.bl (decide (V.int (0 + (m : Int)) = V.int (i : Int)))))) ⟨same_new hD, upd_same⟩ (fun j H3 hj ⟨sj, dj⟩ => ?_) (fun H3 ⟨sj, dj⟩ => ?_)⟩
        · refine ⟨rfl, ?_⟩
          refine ⟨_, rfl, _, rfl, rfl, ?_⟩
          refine ⟨_, dj, (by rw [List.length_map, List.length_range]; exact small1000 (by omega)), fun b u e => ?_, ?_⟩
          · rw [upd_ne (ne_of_none e hD)]
            exact sj b u e
          · rw [upd_same, List.range_succ, List.map_append]
            rfl
        · have nD := hD
          have d1 : DpAll K H3 ((List.range 24).map fun j => V.bl (decide (i = j))) (((List.range 24).map fun j => decide (i = j)).map PyData.bool) := by
            have z := dp_bools (K := K) (H := H3) ((List.range 24).map fun j => decide (i = j))
            rw [List.map_map] at z
            exact z
          have d2 : DpAll K H3 ((List.range 24).map fun (m : Nat) => V.bl (decide (V.int (0 + (m : Int)) = V.int (i : Int)))) (((List.range 24).map fun j => decide (i = j)).map PyData.bool) := by
            rw [eqs_int i]
            exact d1
          have hlf := sj _ _ nf.2.1
          refine ⟨_, _, .lst (SqL.of hlf) d1, .lst (SqL.of dj) d2, shaped_bools _, shaped_bools _, _, rfl, ?_⟩
          rw [show PyData.eqv _ _ = true from SeqAt.eqv_refl _ (SeqAt.canLay_of_shaped (shaped_bools _))]
          refine iteF ?_
          -- the bases
          have s3 : Same H H3 := hs2.trans (nf.2.2.trans sj)
          have eat3 := eat.same (nf.2.2.trans sj)
          have hl3 := s3 _ _ hl
          refine ⟨_, rfl, _, rfl, l, xs, (i : Int), V.ref a, rfl, rfl, SqL.of hl3, atI_nat exi, a, ca i, rt i, rfl, eat3.isE, T.i i hi, fun j hj => T.base i j hi hj, fun j hj => T.blt i j hi hj, fun lb Hb nb => ?_⟩
          refine ⟨3, rfl, by decide, by decide, fun D2 hD2 => lc_range (lo := 0) (n := 3) (fun j H4 => Same Hb H4 ∧ H4 D2 = some (.lst ((List.range j).map fun (m : Nat) => V.bl (decide (V.int (0 + (m : Int)) = V.int 0))))) ⟨same_new hD2, upd_same⟩ (fun j H4 hj ⟨sj4, dj4⟩ => ?_) (fun H4 ⟨sj4, dj4⟩ => ?_)⟩
          · refine ⟨rfl, ?_⟩
            refine ⟨_, rfl, _, rfl, rfl, ?_⟩
            refine ⟨_, dj4, (by rw [List.length_map, List.length_range]; exact small1000 (by omega)), fun b u e => ?_, ?_⟩
            · rw [upd_ne (ne_of_none e hD2)]
              exact sj4 b u e
            · rw [upd_same, List.range_succ, List.map_append]
              rfl
          · refine ⟨_, _, _, rfl, rfl, dj4, by decide, by decide, dl rfl, fun D3 H5 n5 => ?_⟩
            have hlb := n5.2.2 _ _ (sj4 _ _ nb.2.1)
            have q1 : DpAll K H5 (flagsOf (rt i)) ([decide (rt i = 0), decide (rt i = 1), decide (rt i = 2), decide (rt i = 0), decide (rt i = 1), decide (rt i = 2)].map PyData.bool) := dp_bools [decide (rt i = 0), decide (rt i = 1), decide (rt i = 2), decide (rt i = 0), decide (rt i = 1), decide (rt i = 2)]
            have q2 : DpAll K H5 (List.replicate (Int.toNat 2) ((List.range 3).map fun (m : Nat) => V.bl (decide (V.int (0 + (m : Int)) = V.int 0)))).flatten ([decide (rt i = 0), decide (rt i = 1), decide (rt i = 2), decide (rt i = 0), decide (rt i = 1), decide (rt i = 2)].map PyData.bool) := by
              rw [hrt]
              exact dp_bools [true, false, false, true, false, false]
            refine ⟨_, _, .lst (SqL.of hlb) q1, .lst (SqL.of n5.2.1) q2, shaped_bools _, shaped_bools _, _, rfl, ?_⟩
            rw [show PyData.eqv _ _ = true from SeqAt.eqv_refl _ (SeqAt.canLay_of_shaped (shaped_bools _))]
            refine iteF ?_
            -- what it holds
            have s5 : Same H H5 := s3.trans (nb.2.2.trans (sj4.trans n5.2.2))
            have eat5 := eat.same (nf.2.2.trans (sj.trans (nb.2.2.trans (sj4.trans n5.2.2))))
            have hl5 := s5 _ _ hl
            refine ⟨_, rfl, rfl, _, rfl, ?_⟩
            by_cases k22 : i = 22
            · subst k22
              refine iteF ?_
              exact iteF ⟨_, _, _, rfl, s5⟩
            · have e22 : decide (V.int (i : Int) = V.int 22) = false := decide_eq_false fun z => k22 (by
                injection z with z
                omega)
              show ite ((!decide (V.int (i : Int) = V.int 22)) = true) _ _
              rw [if_pos (by rw [e22]; rfl)]
              unfold EAt at eat5
              rw [if_neg k22] at eat5
              refine ⟨_, rfl, _, rfl, l, xs, (i : Int), V.ref a, rfl, rfl, SqL.of hl5, atI_nat exi, _, rfl, a, i, v, rfl, hi, k22, eat5, fun H6 s6 => ?_⟩
              obtain ⟨d, rp, fd⟩ := ht.same (s5.trans s6)
              unfold fine at fd
              simp only [Bool.and_eq_true, decide_eq_true_eq] at fd
              obtain ⟨⟨f1, f2⟩, f3⟩ := fd
              refine ⟨v, d, rfl, rp, f1, by omega, sz1000 f3, _, rfl, v, d, rfl, rp, f1, by omega, sz1000 f3, rfl, _, rfl, ?_⟩
              exact iteNS rfl ⟨_, _, _, rfl, s5.trans s6⟩
      · refine ⟨_, rfl, _, _, rfl, rfl, _, rfl, ?_⟩
        have z1 : ¬ (i : Int) < 17 := fun z => c1 (decide_eq_true z)
        refine ite2 (fun c2 => ?_) (fun c2 => ?_)
        · have hrt : rt i = 1 := by
            have z : (i : Int) < 19 := of_decide_eq_true c2
            unfold rt
            rw [if_neg (by omega), if_pos (by omega)]
          have hs2 : Same H H2 := s2
          obtain ⟨a, ea, eat⟩ := errs_at (es.same hs2) (i := i) (x := xs[i]'(by omega)) (by simp)
          rw [Nat.zero_add] at eat
          have exi : xs[i]? = some (V.ref a) := by rw [← ea]; simp
          have hl2 := hs2 _ _ hl
          refine ⟨_, rfl, _, rfl, l, xs, (i : Int), V.ref a, rfl, rfl, SqL.of hl2, atI_nat exi, a, i, rfl, hi, eat.isE, fun lf Hf nf => ?_⟩
          refine ⟨24, rfl, by decide, by decide, fun D hD => lc_range (lo := 0) (n := 24) (fun j H3 => Same Hf H3 ∧ H3 D = some (.lst ((List.range j).map fun (m : Nat) => V.bl (decide (V.int (0 + (m : Int)) = V.int (i : Int)))))) ⟨same_new hD, upd_same⟩ (fun j H3 hj ⟨sj, dj⟩ => ?_) (fun H3 ⟨sj, dj⟩ => ?_)⟩
          · refine ⟨rfl, ?_⟩
            refine ⟨_, rfl, _, rfl, rfl, ?_⟩
            refine ⟨_, dj, (by rw [List.length_map, List.length_range]; exact small1000 (by omega)), fun b u e => ?_, ?_⟩
            · rw [upd_ne (ne_of_none e hD)]
              exact sj b u e
            · rw [upd_same, List.range_succ, List.map_append]
              rfl
          · have nD := hD
            have d1 : DpAll K H3 ((List.range 24).map fun j => V.bl (decide (i = j))) (((List.range 24).map fun j => decide (i = j)).map PyData.bool) := by
              have z := dp_bools (K := K) (H := H3) ((List.range 24).map fun j => decide (i = j))
              rw [List.map_map] at z
              exact z
            have d2 : DpAll K H3 ((List.range 24).map fun (m : Nat) => V.bl (decide (V.int (0 + (m : Int)) = V.int (i : Int)))) (((List.range 24).map fun j => decide (i = j)).map PyData.bool) := by
              rw [eqs_int i]
              exact d1
            have hlf := sj _ _ nf.2.1
            refine ⟨_, _, .lst (SqL.of hlf) d1, .lst (SqL.of dj) d2, shaped_bools _, shaped_bools _, _, rfl, ?_⟩
            rw [show PyData.eqv _ _ = true from SeqAt.eqv_refl _ (SeqAt.canLay_of_shaped (shaped_bools _))]
            refine iteF ?_
            -- the bases
            have s3 : Same H H3 := hs2.trans (nf.2.2.trans sj)
            have eat3 := eat.same (nf.2.2.trans sj)
            have hl3 := s3 _ _ hl
            refine ⟨_, rfl, _, rfl, l, xs, (i : Int), V.ref a, rfl, rfl, SqL.of hl3, atI_nat exi, a, ca i, rt i, rfl, eat3.isE, T.i i hi, fun j hj => T.base i j hi hj, fun j hj => T.blt i j hi hj, fun lb Hb nb => ?_⟩
            refine ⟨3, rfl, by decide, by decide, fun D2 hD2 => lc_range (lo := 0) (n := 3) (fun j H4 => Same Hb H4 ∧ H4 D2 = some (.lst ((List.range j).map fun (m : Nat) => V.bl (decide (V.int (0 + (m : Int)) = V.int 1))))) ⟨same_new hD2, upd_same⟩ (fun j H4 hj ⟨sj4, dj4⟩ => ?_) (fun H4 ⟨sj4, dj4⟩ => ?_)⟩
            · refine ⟨rfl, ?_⟩
              refine ⟨_, rfl, _, rfl, rfl, ?_⟩
              refine ⟨_, dj4, (by rw [List.length_map, List.length_range]; exact small1000 (by omega)), fun b u e => ?_, ?_⟩
              · rw [upd_ne (ne_of_none e hD2)]
                exact sj4 b u e
              · rw [upd_same, List.range_succ, List.map_append]
                rfl
            · refine ⟨_, _, _, rfl, rfl, dj4, by decide, by decide, dl rfl, fun D3 H5 n5 => ?_⟩
              have hlb := n5.2.2 _ _ (sj4 _ _ nb.2.1)
              have q1 : DpAll K H5 (flagsOf (rt i)) ([decide (rt i = 0), decide (rt i = 1), decide (rt i = 2), decide (rt i = 0), decide (rt i = 1), decide (rt i = 2)].map PyData.bool) := dp_bools [decide (rt i = 0), decide (rt i = 1), decide (rt i = 2), decide (rt i = 0), decide (rt i = 1), decide (rt i = 2)]
              have q2 : DpAll K H5 (List.replicate (Int.toNat 2) ((List.range 3).map fun (m : Nat) => V.bl (decide (V.int (0 + (m : Int)) = V.int 1)))).flatten ([decide (rt i = 0), decide (rt i = 1), decide (rt i = 2), decide (rt i = 0), decide (rt i = 1), decide (rt i = 2)].map PyData.bool) := by
                rw [hrt]
                exact dp_bools [false, true, false, false, true, false]
              refine ⟨_, _, .lst (SqL.of hlb) q1, .lst (SqL.of n5.2.1) q2, shaped_bools _, shaped_bools _, _, rfl, ?_⟩
              rw [show PyData.eqv _ _ = true from SeqAt.eqv_refl _ (SeqAt.canLay_of_shaped (shaped_bools _))]
              refine iteF ?_
              -- what it holds
              have s5 : Same H H5 := s3.trans (nb.2.2.trans (sj4.trans n5.2.2))
              have eat5 := eat.same (nf.2.2.trans (sj.trans (nb.2.2.trans (sj4.trans n5.2.2))))
              have hl5 := s5 _ _ hl
              refine ⟨_, rfl, rfl, _, rfl, ?_⟩
              by_cases k22 : i = 22
              · subst k22
                refine iteF ?_
                exact iteF ⟨_, _, _, rfl, s5⟩
              · have e22 : decide (V.int (i : Int) = V.int 22) = false := decide_eq_false fun z => k22 (by
                  injection z with z
                  omega)
                show ite ((!decide (V.int (i : Int) = V.int 22)) = true) _ _
                rw [if_pos (by rw [e22]; rfl)]
                unfold EAt at eat5
                rw [if_neg k22] at eat5
                refine ⟨_, rfl, _, rfl, l, xs, (i : Int), V.ref a, rfl, rfl, SqL.of hl5, atI_nat exi, _, rfl, a, i, v, rfl, hi, k22, eat5, fun H6 s6 => ?_⟩
                obtain ⟨d, rp, fd⟩ := ht.same (s5.trans s6)
                unfold fine at fd
                simp only [Bool.and_eq_true, decide_eq_true_eq] at fd
                obtain ⟨⟨f1, f2⟩, f3⟩ := fd
                refine ⟨v, d, rfl, rp, f1, by omega, sz1000 f3, _, rfl, v, d, rfl, rp, f1, by omega, sz1000 f3, rfl, _, rfl, ?_⟩
                exact iteNS rfl ⟨_, _, _, rfl, s5.trans s6⟩
        · have hrt : rt i = 2 := by
            have z : ¬ (i : Int) < 19 := fun z => c2 (decide_eq_true z)
            unfold rt
            rw [if_neg (by omega), if_neg (by omega)]
          have hs2 : Same H H2 := s2
          obtain ⟨a, ea, eat⟩ := errs_at (es.same hs2) (i := i) (x := xs[i]'(by omega)) (by simp)
          rw [Nat.zero_add] at eat
          have exi : xs[i]? = some (V.ref a) := by rw [← ea]; simp
          have hl2 := hs2 _ _ hl
          refine ⟨_, rfl, _, rfl, l, xs, (i : Int), V.ref a, rfl, rfl, SqL.of hl2, atI_nat exi, a, i, rfl, hi, eat.isE, fun lf Hf nf => ?_⟩
          refine ⟨24, rfl, by decide, by decide, fun D hD => lc_range (lo := 0) (n := 24) (fun j H3 => Same Hf H3 ∧ H3 D = some (.lst ((List.range j).map fun (m : Nat) => V.bl (decide (V.int (0 + (m : Int)) = V.int (i : Int)))))) ⟨same_new hD, upd_same⟩ (fun j H3 hj ⟨sj, dj⟩ => ?_) (fun H3 ⟨sj, dj⟩ => ?_)⟩
          · refine ⟨rfl, ?_⟩
            refine ⟨_, rfl, _, rfl, rfl, ?_⟩
            refine ⟨_, dj, (by rw [List.length_map, List.length_range]; exact small1000 (by omega)), fun b u e => ?_, ?_⟩
            · rw [upd_ne (ne_of_none e hD)]
              exact sj b u e
            · rw [upd_same, List.range_succ, List.map_append]
              rfl
          · have nD := hD
            have d1 : DpAll K H3 ((List.range 24).map fun j => V.bl (decide (i = j))) (((List.range 24).map fun j => decide (i = j)).map PyData.bool) := by
              have z := dp_bools (K := K) (H := H3) ((List.range 24).map fun j => decide (i = j))
              rw [List.map_map] at z
              exact z
            have d2 : DpAll K H3 ((List.range 24).map fun (m : Nat) => V.bl (decide (V.int (0 + (m : Int)) = V.int (i : Int)))) (((List.range 24).map fun j => decide (i = j)).map PyData.bool) := by
              rw [eqs_int i]
              exact d1
            have hlf := sj _ _ nf.2.1
            refine ⟨_, _, .lst (SqL.of hlf) d1, .lst (SqL.of dj) d2, shaped_bools _, shaped_bools _, _, rfl, ?_⟩
            rw [show PyData.eqv _ _ = true from SeqAt.eqv_refl _ (SeqAt.canLay_of_shaped (shaped_bools _))]
            refine iteF ?_
            -- the bases
            have s3 : Same H H3 := hs2.trans (nf.2.2.trans sj)
            have eat3 := eat.same (nf.2.2.trans sj)
            have hl3 := s3 _ _ hl
            refine ⟨_, rfl, _, rfl, l, xs, (i : Int), V.ref a, rfl, rfl, SqL.of hl3, atI_nat exi, a, ca i, rt i, rfl, eat3.isE, T.i i hi, fun j hj => T.base i j hi hj, fun j hj => T.blt i j hi hj, fun lb Hb nb => ?_⟩
            refine ⟨3, rfl, by decide, by decide, fun D2 hD2 => lc_range (lo := 0) (n := 3) (fun j H4 => Same Hb H4 ∧ H4 D2 = some (.lst ((List.range j).map fun (m : Nat) => V.bl (decide (V.int (0 + (m : Int)) = V.int 2))))) ⟨same_new hD2, upd_same⟩ (fun j H4 hj ⟨sj4, dj4⟩ => ?_) (fun H4 ⟨sj4, dj4⟩ => ?_)⟩
            · refine ⟨rfl, ?_⟩
              refine ⟨_, rfl, _, rfl, rfl, ?_⟩
              refine ⟨_, dj4, (by rw [List.length_map, List.length_range]; exact small1000 (by omega)), fun b u e => ?_, ?_⟩
              · rw [upd_ne (ne_of_none e hD2)]
                exact sj4 b u e
              · rw [upd_same, List.range_succ, List.map_append]
                rfl
            · refine ⟨_, _, _, rfl, rfl, dj4, by decide, by decide, dl rfl, fun D3 H5 n5 => ?_⟩
              have hlb := n5.2.2 _ _ (sj4 _ _ nb.2.1)
              have q1 : DpAll K H5 (flagsOf (rt i)) ([decide (rt i = 0), decide (rt i = 1), decide (rt i = 2), decide (rt i = 0), decide (rt i = 1), decide (rt i = 2)].map PyData.bool) := dp_bools [decide (rt i = 0), decide (rt i = 1), decide (rt i = 2), decide (rt i = 0), decide (rt i = 1), decide (rt i = 2)]
              have q2 : DpAll K H5 (List.replicate (Int.toNat 2) ((List.range 3).map fun (m : Nat) => V.bl (decide (V.int (0 + (m : Int)) = V.int 2)))).flatten ([decide (rt i = 0), decide (rt i = 1), decide (rt i = 2), decide (rt i = 0), decide (rt i = 1), decide (rt i = 2)].map PyData.bool) := by
                rw [hrt]
                exact dp_bools [false, false, true, false, false, true]
              refine ⟨_, _, .lst (SqL.of hlb) q1, .lst (SqL.of n5.2.1) q2, shaped_bools _, shaped_bools _, _, rfl, ?_⟩
              rw [show PyData.eqv _ _ = true from SeqAt.eqv_refl _ (SeqAt.canLay_of_shaped (shaped_bools _))]
              refine iteF ?_
              -- what it holds
              have s5 : Same H H5 := s3.trans (nb.2.2.trans (sj4.trans n5.2.2))
              have eat5 := eat.same (nf.2.2.trans (sj.trans (nb.2.2.trans (sj4.trans n5.2.2))))
              have hl5 := s5 _ _ hl
              refine ⟨_, rfl, rfl, _, rfl, ?_⟩
              by_cases k22 : i = 22
              · subst k22
                refine iteF ?_
                exact iteF ⟨_, _, _, rfl, s5⟩
              · have e22 : decide (V.int (i : Int) = V.int 22) = false := decide_eq_false fun z => k22 (by
                  injection z with z
                  omega)
                show ite ((!decide (V.int (i : Int) = V.int 22)) = true) _ _
                rw [if_pos (by rw [e22]; rfl)]
                unfold EAt at eat5
                rw [if_neg k22] at eat5
                refine ⟨_, rfl, _, rfl, l, xs, (i : Int), V.ref a, rfl, rfl, SqL.of hl5, atI_nat exi, _, rfl, a, i, v, rfl, hi, k22, eat5, fun H6 s6 => ?_⟩
                obtain ⟨d, rp, fd⟩ := ht.same (s5.trans s6)
                unfold fine at fd
                simp only [Bool.and_eq_true, decide_eq_true_eq] at fd
                obtain ⟨⟨f1, f2⟩, f3⟩ := fd
                refine ⟨v, d, rfl, rp, f1, by omega, sz1000 f3, _, rfl, v, d, rfl, rp, f1, by omega, sz1000 f3, rfl, _, rfl, ?_⟩
                exact iteNS rfl ⟨_, _, _, rfl, s5.trans s6⟩
    · rintro σ H2 ⟨x1, x2, x3, rfl, s2⟩
      refine ⟨_, rfl, _, xs.length, rfl, .inl ⟨_, SqL.of (s2 _ _ hl), rfl⟩, rfl, ?_⟩
      rw [x24]
      exact k1 H2 s2
end
end K1
set_option Elab.async false
set_option linter.all false
set_option maxRecDepth 100000
set_option maxHeartbeats 8000000
namespace K1
open PySem PySem.Spec PyProof.Rows L2 Gd Rl Fx
theorem pe_exc0R {X : Cx} {newId initId : String} {C : Addr} {B : String} {x : Str} {p pos : Pos} {bm0 : List Value} (F : ExcBaseFacts B newId initId bm0) (q : PySem.W.excIn X.K C bm0 newId = true) (gC : X.mg x = some (.ref C)) (kC : PySem.W.keepIn X.K (.ref C) = true) (hg : Gl X x)
    (hdb : (x == ("__debug__" : Str)) = false := by decide) : PE X (.Call (.Name x p) [] [] pos) (fun σ H Q => ∀ a H2, New H a (ExO (.ref C) a) H2 → Q (.ref a) H2) :=
  ⟨fun pins s σ H Q I h => (pe_exc0 F q gC kC hg hdb).run pins s σ H Q I fun a na => h a _ (.mk' na)⟩
def spRight : Sp := fun vs H Q _ => ∃ p, vs = [.ref p] ∧ Pail H p ∧ ∀ H', But p H H' → Q (.bl true) H'
abbrev nRight : List Str := ["_law_pail", "_law_turn", "_law_thing_here", "_law_told", "_law_e"]
theorem scRight : FnScope nRight ["_law_pail"] (defScope sRight) := ⟨rfl, rfl, rfl, by decide +kernel, rfl, by decide +kernel, by decide +kernel⟩
section
variable {P : Program} {w : World} {K : PySem.W.Frag} {mg : Str → Option Value} {base : Heap} {f : Addr} {fd : FuncData} {ca fi wa : Nat → Addr}
/-- where the law's defs stand -/
structure DefsT (K : PySem.W.Frag) (mg : Str → Option Value) (fC fA fT fP fN fF fB fH fS : Addr) (dC dA dT dP dN dF dB dH dS : FuncData) : Prop where
  c : FnP K "_law_cast" sCast fC dC
  a : FnP K "_law_any_of" sAny fA dA
  t : FnP K "_law_thing" sThing fT dT
  p : FnP K "_law_placed" sPlaced fP dP
  n : FnP K "_law_named" sNamed fN dN
  f : FnP K "_law_flags" sFlags fF dF
  b : FnP K "_law_bases" sBases fB dB
  h : FnP K "_law_held" sHeld fH dH
  s : FnP K "_law_some_right" sSome fS dS
  gc : mg "_law_cast" = some (.ref fC)
  ga : mg "_law_any_of" = some (.ref fA)
  gt : mg "_law_thing" = some (.ref fT)
  gp : mg "_law_placed" = some (.ref fP)
  gn : mg "_law_named" = some (.ref fN)
  gf : mg "_law_flags" = some (.ref fF)
  gb : mg "_law_bases" = some (.ref fB)
  gh : mg "_law_held" = some (.ref fH)
  gs : mg "_law_some_right" = some (.ref fS)
theorem dp_app {K : PySem.W.Frag} {H : Hp} : ∀ {vs ws : List V} {ds es : List PyData}, DpAll K H vs ds → DpAll K H ws es → DpAll K H (vs ++ ws) (ds ++ es)
  | _, _, _, _, .nil, q => q
  | _, _, _, _, .cons a b, q => .cons a (dp_app b q)
def tf (i : Nat) : PyData := .list ([decide (i = 0), decide (i = 1), decide (i = 2)].map PyData.bool)
theorem ok_right {fC fA fT fP fN fF fB fH fS : Addr} {dC dA dT dP dN dF dB dH dS : FuncData} (F : FnP K "_law_right" sRight f fd) (T : ClsT P K mg ca fi wa) (X : Txt mg) (U : Blt mg) (U2 : Blt2 mg) (D : DefsT K mg fC fA fT fP fN fF fB fH fS dC dA dT dP dN dF dB dH dS) : FnG P w K mg base 4 f fd ["_law_pail"] spRight := by
  have GT : FnOk P w K mg base CX0 3 fT dT ["_law_pail"] (spThing K) := ok_thing D.t X D.a D.ga D.c D.gc
  have GP : FnOk P w K mg base CX0 2 fP dP ["_law_thing_here"] (spPut ca) := ok_placed D.p T
  have GN : FnOk P w K mg base CX0 2 fN dN ["_law_thing_here"] (spPut ca) := ok_named D.n T
  have GB : FnOk P w K mg base CX0 1 fB dB ["_law_e"] (spBases K wa) := ok_bases D.b T U
  have GS : FnG P w K mg base 2 fS dS ["_law_some", "_law_thing_here"] (spSome K ca) := ok_some D.s T U U2 D.f D.gf D.b D.gb D.h D.gh
  have bT : Binds K dT ["_law_pail"] [] := D.t.bindsN fun _ _ _ _ _ _ us hl => match us, hl with | [_], _ => rfl
  have bP : Binds K dP ["_law_thing_here"] [] := D.p.bindsN fun _ _ _ _ _ _ us hl => match us, hl with | [_], _ => rfl
  have bN : Binds K dN ["_law_thing_here"] [] := D.n.bindsN fun _ _ _ _ _ _ us hl => match us, hl with | [_], _ => rfl
  have bB : Binds K dB ["_law_e"] [] := D.b.bindsN fun _ _ _ _ _ _ us hl => match us, hl with | [_], _ => rfl
  have bS : Binds K dS ["_law_some", "_law_thing_here"] [] := D.s.bindsN fun _ _ _ _ _ _ us hl => match us, hl with | [_, _], _ => rfl
  refine okG F scRight (fun vs H Q E h => ?_) (fun cdv A outer s H vs Q E hgd hr h => ?_)
  · obtain ⟨p, rfl, _⟩ := h
    rfl
  · obtain ⟨p, rfl, hp, k1⟩ := h
    have hr2 := hr.mono (show 2 ≤ 3 by decide)
    have hr1 := hr.mono (show 1 ≤ 3 by decide)
    refine ⟨_, PSs.nox <| pss_cons (ps_for PassesOwn.never rfl (pi_range1 (by rfl) U2.range (pa_cons pe_int pa_nil)) (pg_name (i := 1) scRight.nd rfl (.inl rfl))
        (pss_cons (ps_set (i := 2) scRight.nd rfl (.inl rfl) (pe_call GT hr (by rfl) D.gt D.t.kp bT .nil pass0 (pa_cons (pv 0) pa_nil)))
        <| pss_one (ps_if (PW.pt (pw_or (pt_not (pt_val (pe_callG GS hgd hr2 (by rfl) D.gs D.s.kp bS (pa_cons (pe_call GP hr2 (by rfl) D.gp D.p.kp bP .nil pass0 (pa_cons (pv 2) pa_nil)) (pa_cons (pv 2) pa_nil)))))
            (pw_or1 (pt_not (pt_val (pe_callG GS hgd hr2 (by rfl) D.gs D.s.kp bS (pa_cons (pe_call GN hr2 (by rfl) D.gn D.n.kp bN .nil pass0 (pa_cons (pv 2) pa_nil)) (pa_cons (pv 2) pa_nil)))))))) (pss_one (ps_ret pe_bl)) pss_nil)))
      <| pss_cons (ps_setLc (i := 3) (own := [("_law_e", 4)]) (g := gName 4) (tt := tYes) rfl scRight.nd rfl rfl (sw_true rfl rfl rfl (by decide +kernel))
          (pi_list (pe_lstR <| pa_cons (pe_exc0R (rootOf 0).fb (T.wx 0 (by decide)) (T.wg 0 (by decide)) (T.wk 0 (by decide)) (by rfl)) <| pa_cons (pe_exc0R (rootOf 1).fb (T.wx 1 (by decide)) (T.wg 1 (by decide)) (T.wk 1 (by decide)) (by rfl)) <| pa_cons (pe_exc0R (rootOf 2).fb (T.wx 2 (by decide)) (T.wg 2 (by decide)) (T.wk 2 (by decide)) (by rfl)) pa_nil))
          (blkOk_by (N := nRight) (sc := defScope sRight) (by decide +kernel)) (fun _ _ _ _ _ => pg_name (i := 4) scRight.nd rfl (Or.inl rfl)) (fun _ _ _ _ _ => pts_nil)
          (fun _ _ _ _ _ => pe_slice (r := rSlR K) sl_listR (pe_call GB hr1 (by rfl) D.gb D.b.kp bB .nil pass0 (pa_cons (pv 4) pa_nil)) po_none (po_some pe_int)))
      <| pss_one (ps_ret (pe_cmpR (op_eqD hr.units) (pv 3) (pe_lstR <| pa_cons (pe_lstR <| pa_cons pe_bl <| pa_cons pe_bl <| pa_cons pe_bl pa_nil) <| pa_cons (pe_lstR <| pa_cons pe_bl <| pa_cons pe_bl <| pa_cons pe_bl pa_nil) <| pa_cons (pe_lstR <| pa_cons pe_bl <| pa_cons pe_bl <| pa_cons pe_bl pa_nil) pa_nil) (nomark _))), ?_⟩
    have dl : ∀ {n : Nat}, decide (n ≤ 1000) = true → n ≤ 1000 := fun h => of_decide_eq_true h
    refine ⟨4, rfl, by decide, by decide, for_range (n := 4) (fun i σ H2 => ∃ (x1 x2 x3 x4 : Option V), σ = [some (.ref p), x1, x2, x3, x4] ∧ Pail H2 p ∧ But p H H2) ⟨none, none, none, none, rfl, hp, But.refl⟩ ?_ ?_⟩
    · rintro i σ H2 hi ⟨x1, x2, x3, x4, rfl, hp2, b2⟩
      refine ⟨_, rfl, p, rfl, hp2, fun v H3 tv hp3 b3 => ?_⟩
      refine ⟨_, rfl, v, rfl, fun l1 H4 s4 nl1 er1 => ?_⟩
      refine ⟨_, rfl, l1, v, rfl, er1, tv.same s4, fun H5 s5 => ?_⟩
      refine ⟨_, rfl, ?_⟩
      refine iteF ?_
      have s35 := s4.trans s5
      refine ⟨_, rfl, v, rfl, fun l2 H6 s6 nl2 er2 => ?_⟩
      refine ⟨_, rfl, l2, v, rfl, er2, tv.same (s35.trans s6), fun H7 s7 => ?_⟩
      refine ⟨_, rfl, ?_⟩
      refine iteF ?_
      have s37 := s35.trans (s6.trans s7)
      exact ⟨_, _, _, _, rfl, hp3.same s37, (b2.trans b3).trans fun b o e _ => s37 b o e⟩
    · rintro σ H2 ⟨x1, x2, x3, x4, rfl, hp2, b2⟩
      refine fun a0 H3 n0 => fun a1 H4 n1 => fun a2 H5 n2 => ⟨dl rfl, fun le H6 n6 => ?_⟩
      have s56 := n6.2.2
      have s46 := n2.2.2.trans s56
      have s36 := n1.2.2.trans s46
      have s26 := n0.2.2.trans s36
      have hex : ∀ (i : Nat) (x : V), [V.ref a0, V.ref a1, V.ref a2][i]? = some x → ∃ a, x = .ref a ∧ IsE H6 a (wa i) ∧ i < 3 := by
        intro i x e
        match i, e with
        | 0, e => exact ⟨a0, (Option.some.inj e).symm, .inr (.inr (s36 _ _ n0.2.1)), by decide⟩
        | 1, e => exact ⟨a1, (Option.some.inj e).symm, .inr (.inr (s46 _ _ n1.2.1)), by decide⟩
        | 2, e => exact ⟨a2, (Option.some.inj e).symm, .inr (.inr (s56 _ _ n2.2.1)), by decide⟩
        | i + 3, e => simp at e
      refine ⟨le, rfl, ⟨_, SqL.of n6.2.1⟩, fun D hD => lc_list (K := K) (a := le) (xs := [.ref a0, .ref a1, .ref a2]) (fun i H' => Same H6 H' ∧ ∃ acc, H' D = some (.lst acc) ∧ acc.length = i ∧ DpAll K (delH H' D) acc ((List.range i).map tf)) ⟨same_new hD, [], upd_same, rfl, .nil⟩ (fun i H' _ ⟨sx, _⟩ => sx.seq (SqL.of n6.2.1)) ?_ ?_⟩
      · rintro i x H' hi ⟨sx, acc, ha, hl, hd⟩
        obtain ⟨a, rfl, ie, i3⟩ := hex i x hi
        refine ⟨rfl, ?_⟩
        refine ⟨_, rfl, a, wa i, i, rfl, IsE.same sx ie, T.wi i i3, fun j hj => T.wbase i j i3 hj, fun j hj => T.wblt i j i3 hj, fun lb Hb nb => ?_⟩
        refine ⟨3, rfl, lb, _, rfl, SqL.of nb.2.1, fun l2 Hc nc => ?_⟩
        have hDb := nb.2.2 _ _ ha
        have hD2 := nc.2.2 _ _ hDb
        have ne2 : D ≠ l2 := ne_of_none hDb nc.1
        refine ⟨acc, hD2, small1000 (by omega), fun b u e => ?_, acc ++ [.ref l2], upd_same, by rw [List.length_append, hl]; rfl, ?_⟩
        · rw [upd_ne (ne_of_none e hD)]
          exact nc.2.2 _ _ (nb.2.2 _ _ (sx b u e))
        · have sd : Same (delH H' D) (delH (upd Hc D (.lst (acc ++ [.ref l2]))) D) := fun b u e => by
            by_cases z : b = D
            · rw [z, delH_same] at e
              cases e
            · rw [delH_ne z] at e
              rw [delH_ne z, upd_ne z]
              exact nc.2.2 _ _ (nb.2.2 _ _ e)
          have e2 : delH (upd Hc D (.lst (acc ++ [.ref l2]))) D l2 = some (.lst ([decide (i = 0), decide (i = 1), decide (i = 2)].map V.bl)) := by
            rw [delH_ne ne2.symm, upd_ne ne2.symm]
            exact nc.2.1
          rw [List.range_succ, List.map_append]
          exact dp_app (dp_sameAll sd _ hd) (.cons (.lst (SqL.of e2) (dp_bools _)) .nil)
      · rintro H' ⟨sx, acc, ha, hl, hd⟩
        refine ⟨_, rfl, dl rfl, fun q1 G1 m1 => ⟨dl rfl, fun q2 G2 m2 => ⟨dl rfl, fun q3 G3 m3 => ⟨dl rfl, fun q4 G4 m4 => ?_⟩⟩⟩⟩
        have t34 := m4.2.2
        have t24 := m3.2.2.trans t34
        have t14 := m2.2.2.trans t24
        have t04 := m1.2.2.trans t14
        have sd : Same (delH H' D) G4 := fun b u e => by
          by_cases z : b = D
          · rw [z, delH_same] at e
            cases e
          · rw [delH_ne z] at e
            exact t04 _ _ e
        have p1 : Dp K G4 (.ref D) (.list ((List.range 3).map tf)) := .lst (SqL.of (t04 _ _ ha)) (dp_sameAll sd _ hd)
        have p2 : Dp K G4 (.ref q4) (.list ((List.range 3).map tf)) := .lst (SqL.of m4.2.1) (.cons (.lst (SqL.of (t14 _ _ m1.2.1)) (dp_bools [true, false, false])) (.cons (.lst (SqL.of (t24 _ _ m2.2.1)) (dp_bools [false, true, false])) (.cons (.lst (SqL.of (t34 _ _ m3.2.1)) (dp_bools [false, false, true])) .nil)))
        have sh : SeqAt.shaped (.list ((List.range 3).map tf)) = true := by decide +kernel
        refine ⟨_, _, p1, p2, sh, sh, ?_⟩
        rw [SeqAt.eqv_refl _ (SeqAt.canLay_of_shaped sh)]
        exact k1 G4 (b2.trans fun b u e _ => t04 _ _ (sx _ _ (s26 _ _ e)))
end
end K1
set_option Elab.async false
set_option linter.all false
set_option maxRecDepth 100000
set_option maxHeartbeats 8000000
namespace K1
open PySem PySem.Spec PyProof.Rows L2 Gd Rl Fx
def cns : List Str := ["MOST_VARIABLES", "MOST_PLACES", "MOST_BRANCHES", "MOST_TESTS", "MOST_SAYINGS", "MOST_NUMBER", "MOST_STATES", "MOST_FORMS", "MOST_CHANGES"]
def cvs : List Int := [3, 3, 5, 3, 3, 1000000, 1000, 9, 6]
def ConT (mg : Str → Option Value) : Prop := ∀ i, i < 9 → ∃ t, mg (cns.getD i "") = some (.int (cvs.getD i 0) t)
def spLaw (K : PySem.W.Frag) : Sp := fun vs H Q _ => ∃ (a : Addr) (ns : List Int), vs = [.ref a] ∧ SqL K H a (ns.map V.int) ∧ ns.length ≤ 63 ∧ (∀ z ∈ ns, Builtin.Int.intBits z ≤ 1048576) ∧ ∀ H', Q (.bl true) H'
abbrev nLaw : List Str := ["_law_script", "_law_some", "_law_turn"]
theorem scLaw : FnScope nLaw ["_law_script"] (defScope sLaw) := ⟨rfl, rfl, rfl, by decide +kernel, rfl, by decide +kernel, by decide +kernel⟩
def limD : PyData := .list [.int 3, .int 3, .int 5, .int 3, .int 3, .int 1000000, .int 1000, .int 9, .int 6]
theorem limD_fine : fine limD = true := by decide +kernel
section
variable {P : Program} {w : World} {K : PySem.W.Frag} {mg : Str → Option Value} {base : Heap} {f : Addr} {fd : FuncData} {ca fi wa : Nat → Addr}
theorem ok_law {fC fA fT fP fN fF fB fH fS fG fR : Addr} {dC dA dT dP dN dF dB dH dS dG dR : FuncData} (F : FnP K "law" sLaw f fd) (T : ClsT P K mg ca fi wa) (X : Txt mg) (U : Blt mg) (U2 : Blt2 mg) (D : DefsT K mg fC fA fT fP fN fF fB fH fS dC dA dT dP dN dF dB dH dS) (C : ConT mg)
    (FG : FnP K "_law_begun" sBegun fG dG) (gG : mg "_law_begun" = some (.ref fG)) (FR : FnP K "_law_right" sRight fR dR) (gR : mg "_law_right" = some (.ref fR)) : FnG P w K mg base 5 f fd ["_law_script"] (spLaw K) := by
  have GG : FnOk P w K mg base CX0 1 fG dG ["_law_script", "_law_turn"] (spBegun K) := ok_begun FG X
  have GR : FnG P w K mg base 4 fR dR ["_law_pail"] spRight := ok_right FR T X U U2 D
  have bG : Binds K dG ["_law_script", "_law_turn"] [] := FG.bindsN fun _ _ _ _ _ _ us hl => match us, hl with | [_, _], _ => rfl
  have bR : Binds K dR ["_law_pail"] [] := FR.bindsN fun _ _ _ _ _ _ us hl => match us, hl with | [_], _ => rfl
  obtain ⟨t0, c0⟩ := C 0 (by decide)
  obtain ⟨t1, c1⟩ := C 1 (by decide)
  obtain ⟨t2, c2⟩ := C 2 (by decide)
  obtain ⟨t3, c3⟩ := C 3 (by decide)
  obtain ⟨t4, c4⟩ := C 4 (by decide)
  obtain ⟨t5, c5⟩ := C 5 (by decide)
  obtain ⟨t6, c6⟩ := C 6 (by decide)
  obtain ⟨t7, c7⟩ := C 7 (by decide)
  obtain ⟨t8, c8⟩ := C 8 (by decide)
  refine okG F scLaw (fun vs H Q E h => ?_) (fun cdv A outer s H vs Q E hgd hr h => ?_)
  · obtain ⟨a, ns, rfl, _⟩ := h
    rfl
  · obtain ⟨a, ns, rfl, hS, hn, hb, k1⟩ := h
    have hr1 := hr.mono (show 1 ≤ 4 by decide)
    refine ⟨_, PSs.nox <| pss_cons (ps_set (i := 1) scLaw.nd rfl (.inl rfl) (pe_lstR <| pa_cons (pe_glob (v := .int 3) (by rfl) c0 ⟨_, rfl⟩) <| pa_cons (pe_glob (v := .int 3) (by rfl) c1 ⟨_, rfl⟩) <| pa_cons (pe_glob (v := .int 5) (by rfl) c2 ⟨_, rfl⟩) <| pa_cons (pe_glob (v := .int 3) (by rfl) c3 ⟨_, rfl⟩) <| pa_cons (pe_glob (v := .int 3) (by rfl) c4 ⟨_, rfl⟩) <| pa_cons (pe_glob (v := .int 1000000) (by rfl) c5 ⟨_, rfl⟩) <| pa_cons (pe_glob (v := .int 1000) (by rfl) c6 ⟨_, rfl⟩) <| pa_cons (pe_glob (v := .int 9) (by rfl) c7 ⟨_, rfl⟩) pa_nil))
      <| pss_cons (ps_if (pt_cmpR op_ne (pe_callB (call_repr hgd hr.units) (by rfl) U2.repr boot_repr (pa_cons (pe_op op_catR (pv 1) (pe_lstR <| pa_cons (pe_glob (v := .int 6) (by rfl) c8 ⟨_, rfl⟩) pa_nil)) pa_nil))
          (pe_callB (call_repr hgd hr.units) (by rfl) U2.repr boot_repr (pa_cons (pe_lstR <| pa_cons pe_int <| pa_cons pe_int <| pa_cons pe_int <| pa_cons pe_int <| pa_cons pe_int <| pa_cons (pe_op op_pow pe_int pe_int) <| pa_cons pe_int <| pa_cons pe_int <| pa_cons pe_int pa_nil) pa_nil)) (nomark _)) (pss_one (ps_ret pe_bl)) pss_nil)
      <| pss_one (ps_ret (pe_callB (cr_all rfl) (by rfl) U2.all (by decide +kernel) (pa_cons (pe_lc (own := [("_law_turn", 2)]) (g := gName 2) (tt := tYes) rfl scLaw.nd
          (pi_range1 (by rfl) U2.range (pa_cons (pe_callB (call_max2 rfl) (by rfl) U2.max (by decide +kernel) (pa_cons pe_int (pa_cons (pe_callB (call_min2 rfl) (by rfl) U2.min (by decide +kernel) (pa_cons (pe_callB call_len (by rfl) U2.len PySem.boot_len (pa_cons (pv 0) pa_nil)) (pa_cons pe_int pa_nil))) pa_nil))) pa_nil))
          (blkOk_by (N := nLaw) (sc := defScope sLaw) (by decide +kernel)) (fun _ _ _ _ _ => pg_name (i := 2) scLaw.nd rfl (Or.inl rfl)) (fun _ _ _ _ _ => pts_nil)
          (fun _ _ _ _ _ => pe_callG GR hgd hr (by rfl) gR FR.kp bR (pa_cons (pe_call GG hr1 (by rfl) gG FG.kp bG .nil pass0 (pa_cons (pv 0) (pa_cons (pv 2) pa_nil))) pa_nil))) pa_nil))), ?_⟩
    have dl : ∀ {n : Nat}, decide (n ≤ 1000) = true → n ≤ 1000 := fun h => of_decide_eq_true h
    have fd := limD_fine
    unfold fine at fd
    simp only [Bool.and_eq_true, decide_eq_true_eq] at fd
    obtain ⟨⟨f1, f2⟩, f3⟩ := fd
    refine ⟨dl rfl, fun l1 H1 n1 => ?_⟩
    refine ⟨_, rfl, dl rfl, fun l2 H2 n2 => ?_⟩
    refine ⟨l1, l2, _, _, rfl, rfl, n2.2.2 _ _ n1.2.1, n2.2.1, dl rfl, fun l3 H3 n3 => ?_⟩
    have d3 : Dp K H3 (.ref l3) limD := .lst (SqL.of n3.2.1) (.cons (.int 3) (.cons (.int 3) (.cons (.int 5) (.cons (.int 3) (.cons (.int 3) (.cons (.int 1000000) (.cons (.int 1000) (.cons (.int 9) (.cons (.int 6) .nil)))))))))
    refine ⟨_, limD, rfl, .inl d3, f1, by omega, sz1000 f3, ?_⟩
    refine ⟨_, _, rfl, rfl, ⟨by decide, by decide, by decide⟩, dl rfl, fun l4 H4 n4 => ?_⟩
    have d4 : Dp K H4 (.ref l4) limD := .lst (SqL.of n4.2.1) (.cons (.int 3) (.cons (.int 3) (.cons (.int 5) (.cons (.int 3) (.cons (.int 3) (.cons (.int 1000000) (.cons (.int 1000) (.cons (.int 9) (.cons (.int 6) .nil)))))))))
    refine ⟨_, limD, rfl, .inl d4, f1, by omega, sz1000 f3, rfl, _, rfl, ?_⟩
    refine iteNS rfl ?_
    have s4 : Same H H4 := n1.2.2.trans (n2.2.2.trans (n3.2.2.trans n4.2.2))
    -- the turns
    refine ⟨_, rfl, _, (ns.map V.int).length, rfl, .inl ⟨_, s4.seq hS, rfl⟩, _, _, rfl, _, _, rfl, ?_⟩
    generalize hM : (if (if (5 : Int) < ((ns.map V.int).length : Int) then (5 : Int) else ((ns.map V.int).length : Int)) > 2 then (if (5 : Int) < ((ns.map V.int).length : Int) then (5 : Int) else ((ns.map V.int).length : Int)) else 2) = M
    have m0 : 0 ≤ M ∧ M ≤ 5 := by
      rw [← hM]
      split <;> split <;> omega
    refine ⟨M, rfl, by omega, by omega, fun D hD => lc_range (lo := 0) (n := M.toNat) (fun i H' => Same H4 H' ∧ H' D = some (.lst (List.replicate i (V.bl true)))) ⟨same_new hD, upd_same⟩ ?_ ?_⟩
    · rintro i H' hi ⟨sx, hd⟩
      refine ⟨rfl, ?_⟩
      refine ⟨_, rfl, _, rfl, a, ns, i, (by rw [Int.zero_add]; rfl), sx.seq (s4.seq hS), hn, hb, by omega, fun p Hp sp np pp => ?_⟩
      refine ⟨p, rfl, pp, fun Hq bt => ?_⟩
      have hd2 : Hq D = some (.lst (List.replicate i (V.bl true))) := bt D _ (sp _ _ hd) (ne_of_none hd np)
      refine ⟨_, hd2, (by rw [List.length_replicate]; exact small1000 (by omega)), fun b u e => ?_, ?_⟩
      · rw [upd_ne (ne_of_none e hD)]
        exact bt b u (sp _ _ (sx _ _ e)) (ne_of_none (sx _ _ e) np)
      · rw [upd_same, List.replicate_succ']
    · rintro H' ⟨sx, hd⟩
      have hd2 : H' D = some (.lst ((List.replicate M.toNat true).map V.bl)) := by
        rw [List.map_replicate]
        exact hd
      refine ⟨D, _, rfl, SqL.of hd2, ?_⟩
      rw [show (List.replicate M.toNat true).all id = true by simp]
      exact k1 H'
end
end K1
set_option Elab.async false
set_option linter.all false
set_option maxRecDepth 100000
set_option maxHeartbeats 4000000
namespace Gd
open PySem PySem.Spec PyProof.Rows L2
/-! a law's end, its promise kept where nothing is being shown -/
/-- from an abstract heap in which nothing but the script stands -/
theorem law_core {P : Program} {w : World} {K : PySem.W.Frag} {mg mb : Str → Option Value} {k : Nat} {fa a : Addr} {fd : FuncData} {x : Str} {sp : Sp} {z : Shared} {vs : List Value} {H : Hp}
    (KX : K.In z.heap) (g1 : z.heap.Ns mainGlobals mg) (g2 : z.heap.Ns builtinsNs mb) (g3 : ∀ y : Str, y ≠ "__name__" → mb y = bootBuiltins y) (g4 : z.heap.NoLimit) (g5 : z.gens = #[])
    (ha : z.heap.get? a = some { cls := .type "list", data := .seq vs.toArray }) (hr : Room k callerA) (F : ∀ base : Heap, K.In base → base.Ns mainGlobals mg → FnG P w K mg base k fa fd [x] sp) (hbind : ∀ (s : Shared) (u : Value), BindsTo s fd ⟨[u], []⟩ [(x, u)])
    (only : Only H) (hsp : sp [.ref a] H (fun v _ => v = .bl true) fun _ _ _ => False) (ok : HOk P w H z.heap) (hA : ∀ b, H b ≠ none → b = a) (hK : H a ≠ none → K.lookup a = none) :
    codeAny (model P w) callerA (.call (.ref fa) ⟨[.ref a], []⟩) (fun r s' => r = .ok (.ret (.bool true)) ∧ OldK z.heap s'.heap ∧ s'.os = z.os ∧ AllBare s'.gens) z := by
  have dictOut : ∀ {b : Addr} {o : Obj} {es : Array DictEntry} {ep : Nat}, z.heap.get? b = some o → o.data = .dict es ep → H b = none := by
    intro b o es ep e d
    cases q : H b with
    | none => rfl
    | some u =>
      have e' : b = a := hA b (by rw [q]; exact fun y => nomatch y)
      subst e'
      rw [ha] at e
      cases e
      exact nomatch d
  have ns : ∀ {b : Addr} {m : Str → Option Value}, z.heap.Ns b m → (hidT z.heap H).Ns b m := by
    intro b m ⟨o, es, ep, e, d, r⟩
    exact ⟨o, es, ep, hidT_get e (dictOut e d), d, r⟩
  have kin : K.In (hidT z.heap H) := by
    intro b o e
    refine hidT_get (KX b o e) ?_
    cases q : H b with
    | none => rfl
    | some u =>
      have e' : b = a := hA b (by rw [q]; exact fun y => nomatch y)
      subst e'
      rw [hK (by rw [q]; exact fun y => nomatch y)] at e
      cases e
  have mod : Mod K mg (hidT z.heap H) := by
    obtain ⟨mc, h1, h2⟩ := g4
    exact ⟨kin, ns g1, ⟨mb, ns g2, g3⟩, ⟨mc, ns h1, h2⟩⟩
  have e0 : Env0 P w K mg (hidT z.heap H) callerA [] z H :=
    ⟨rfl, mod, fun b o e => of_hidT e, Nat.le_of_eq (hidT_size _ _), trivial, fun b hb => (nomatch (show b ∈ ([] : List Addr) from hb)), ok, .of_eq g5⟩
  refine codeAny_mono ((F _ kin (ns g1)).run callerA [] z H ⟨[.ref a], []⟩ [.ref a] [.ref a] _ _ rfl hr e0 (hbind z (.ref a)) (.cons rfl .nil) hsp) fun r s' h => ?_
  cases r with
  | error e => exact h.elim
  | ok fl =>
    cases fl with
    | next => exact h.elim
    | brk => exact h.elim
    | cont => exact h.elim
    | ret u =>
      obtain ⟨v, H', os, bare, un, ok', r', q⟩ := h
      obtain rfl : v = V.bl true := q
      obtain rfl : u = Value.bool true := r'
      refine ⟨rfl, OldK.of_keep fun b o e => ?_, os, bare⟩
      cases q : H b with
      | none => exact un.keep b o e q (fun y => nomatch (show b ∈ ([] : List Addr) from y)) (fun y => nomatch y)
      | some u =>
        rcases only b with y | ⟨ob, xs, y⟩
        · rw [q] at y
          cases y
        · obtain ⟨e1, _⟩ := ok b _ y
          obtain ⟨e2, _⟩ := ok' b _ (un.frzs b ob _ y)
          rw [e] at e1
          cases e1
          exact e2
theorem law_callG {P : Program} {w : World} {K : PySem.W.Frag} {mg mb : Str → Option Value} {k : Nat} {fa a : Addr} {fd : FuncData} {x : Str} {sp : Sp} {z : Shared} {vs : List Value} {ns : List Int}
    (KX : K.In z.heap) (g1 : z.heap.Ns mainGlobals mg) (g2 : z.heap.Ns builtinsNs mb) (g3 : ∀ y : Str, y ≠ "__name__" → mb y = bootBuiltins y) (g4 : z.heap.NoLimit) (g5 : z.gens = #[])
    (ha : z.heap.get? a = some { cls := .type "list", data := .seq vs.toArray }) (hi : IntsAre vs ns) (hl : ns.length ≤ sizeLine) (hr : Room k callerA) (F : ∀ base : Heap, K.In base → base.Ns mainGlobals mg → FnG P w K mg base k fa fd [x] sp) (hbind : ∀ (s : Shared) (u : Value), BindsTo s fd ⟨[u], []⟩ [(x, u)])
    (hsp : ∀ H : Hp, SqL K H a (ns.map V.int) → sp [.ref a] H (fun v _ => v = .bl true) fun _ _ _ => False) :
    codeAny (model P w) callerA (.call (.ref fa) ⟨[.ref a], []⟩) (fun r s' => r = .ok (.ret (.bool true)) ∧ OldK z.heap s'.heap ∧ s'.os = z.os ∧ AllBare s'.gens) z := by
  have rv := vals_ints hi
  have lv := hi.length
  cases hk : K.lookup a with
  | some o =>
    have e := KX a o hk
    rw [ha] at e
    cases e
    have sq : SqL K (fun _ => none) a (ns.map V.int) := .inr ⟨_, vs.toArray, _, hk, rfl, rfl, rfl, by rw [List.size_toArray, lv]; exact hl, by simpa using rv⟩
    exact law_core KX g1 g2 g3 g4 g5 ha hr F hbind (fun _ => .inl rfl) (hsp _ sq) (fun b u y => nomatch (show (none : Option HO) = some u from y)) (fun b y => absurd rfl y) fun y => absurd rfl y
  | none =>
    let H : Hp := fun b => if b = a then some (.frz { cls := .type "list", data := .seq vs.toArray } (.lst (ns.map V.int))) else none
    have at_a : H a = some (.frz { cls := .type "list", data := .seq vs.toArray } (.lst (ns.map V.int))) := if_pos rfl
    have off : ∀ b, b ≠ a → H b = none := fun b hb => if_neg hb
    refine law_core (H := H) KX g1 g2 g3 g4 g5 ha hr F hbind (fun b => ?_) (hsp H (.inl (.inr ⟨_, at_a⟩))) (fun b u y => ?_) (fun b y => ?_) fun _ => hk
    · by_cases hb : b = a
      · subst hb
        exact .inr ⟨_, _, at_a⟩
      · exact .inl (off b hb)
    · by_cases hb : b = a
      · subst hb
        rw [at_a] at y
        cases y
        exact ⟨ha, by rw [List.length_map]; exact hl, vs, _, rv, ha⟩
      · rw [off b hb] at y
        cases y
    · by_cases hb : b = a
      · exact hb
      · exact absurd (off b hb) y
/-- the end over a head by facts -/
theorem walk_G {l : PySem.W.OpenLaw} {n k : Nat} {q : Program} {loose : List Str} {XP : (Str → Option Value) → Heap → Prop} {YP : World → Heap → Prop} {d : DefRec} {x : Str}
    (hn : l.most = some n) (hn2 : n ≤ sizeLine) (hdf : d.params.defaults = []) (hr : Room k callerA)
    (F : ∀ (w : World) (mg : Str → Option Value) (fa : Addr) (h : Heap), YP w h → h.Ns mainGlobals mg → mg d.name = some (.ref fa) →
      ∃ (K : PySem.W.Frag) (fd : FuncData) (sp : Sp), K.In h ∧ (∀ (s : Shared) (u : Value), BindsTo s fd ⟨[u], []⟩ [(x, u)]) ∧
        (∀ (H : Hp) (a : Addr) (ns : List Int), ns.length ≤ n → (∀ y ∈ ns, Builtin.Int.intBits y ≤ 1048576) → SqL K H a (ns.map V.int) → sp [.ref a] H (fun v _ => v = .bl true) fun _ _ _ => False) ∧
        ∀ base : Heap, K.In base → base.Ns mainGlobals mg → FnG l.prog w K mg base k fa fd [x] sp) :
    PySem.W.WalkO q loose XP YP l.row.toRowW d [] (fun f vs => PySem.call f vs) := by
  refine Att.attach_callB hn hdf fun w s₀ z mg mb fa o pm cd doc a vs ns G Y ho hd hcd hmg hobj hints hlen hbits hg => ?_
  obtain ⟨K, fd, sp, KX, hb, hsp, hF⟩ := F w mg fa _ Y G.T.g hmg
  exact law_callG KX G.T.g G.T.b G.T.builtins G.T.nolimit hg hobj hints (Nat.le_trans hlen hn2) hr hF hb fun H hS => hsp H a ns hlen hbits hS
end Gd
set_option Elab.async false
set_option linter.all false
set_option maxRecDepth 100000
set_option maxHeartbeats 8000000
namespace K1
open PySem PySem.Spec PyProof.Rows L2 Gd Rl Fx
/-! ### the class statements, and their __init__ -/
def cix : List Nat := [2, 3, 4, 5, 6, 7, 8, 9, 10, 11, 12, 13, 14, 15, 16, 17, 18, 20, 21, 23, 24, 25, 26, 27]
def cst (k : Nat) : Stmt := inClass (top (cix.getD k 0)) 0
/-- the text of a one-parameter __init__ -/
def Txt1 (k : Nat) : Prop := ∃ (msg : Str) (kM : Nat) (p1 p2 q1 q2 q3 q4 q5 q6 r1 r2 r3 r4 : Pos), defArgs (cst k) = iA1 (fld k) p1 p2 ∧ defBody (cst k) = [iSup msg kM q1 q2 q3 q4 q5 q6, iSet (fld k) r1 r2 r3 r4] ∧ defScope (cst k) = iS1 (fld k) ∧ (q3.endLine == q5.line) = true
def Txt0 : Prop := ∃ (msg : Str) (kM : Nat) (p1 q1 q2 q3 q4 q5 q6 : Pos), defArgs (cst 22) = iA0 p1 ∧ defBody (cst 22) = [iSup msg kM q1 q2 q3 q4 q5 q6] ∧ defScope (cst 22) = iS0 ∧ (q3.endLine == q5.line) = true
theorem txt0 : Txt1 0 := ⟨_, _, _, _, _, _, _, _, _, _, _, _, _, _, rfl, rfl, rfl, rfl⟩
theorem txt1 : Txt1 1 := ⟨_, _, _, _, _, _, _, _, _, _, _, _, _, _, rfl, rfl, rfl, rfl⟩
theorem txt2 : Txt1 2 := ⟨_, _, _, _, _, _, _, _, _, _, _, _, _, _, rfl, rfl, rfl, rfl⟩
theorem txt3 : Txt1 3 := ⟨_, _, _, _, _, _, _, _, _, _, _, _, _, _, rfl, rfl, rfl, rfl⟩
theorem txt4 : Txt1 4 := ⟨_, _, _, _, _, _, _, _, _, _, _, _, _, _, rfl, rfl, rfl, rfl⟩
theorem txt5 : Txt1 5 := ⟨_, _, _, _, _, _, _, _, _, _, _, _, _, _, rfl, rfl, rfl, rfl⟩
theorem txt6 : Txt1 6 := ⟨_, _, _, _, _, _, _, _, _, _, _, _, _, _, rfl, rfl, rfl, rfl⟩
theorem txt7 : Txt1 7 := ⟨_, _, _, _, _, _, _, _, _, _, _, _, _, _, rfl, rfl, rfl, rfl⟩
theorem txt8 : Txt1 8 := ⟨_, _, _, _, _, _, _, _, _, _, _, _, _, _, rfl, rfl, rfl, rfl⟩
theorem txt9 : Txt1 9 := ⟨_, _, _, _, _, _, _, _, _, _, _, _, _, _, rfl, rfl, rfl, rfl⟩
theorem txt10 : Txt1 10 := ⟨_, _, _, _, _, _, _, _, _, _, _, _, _, _, rfl, rfl, rfl, rfl⟩
theorem txt11 : Txt1 11 := ⟨_, _, _, _, _, _, _, _, _, _, _, _, _, _, rfl, rfl, rfl, rfl⟩
theorem txt12 : Txt1 12 := ⟨_, _, _, _, _, _, _, _, _, _, _, _, _, _, rfl, rfl, rfl, rfl⟩
theorem txt13 : Txt1 13 := ⟨_, _, _, _, _, _, _, _, _, _, _, _, _, _, rfl, rfl, rfl, rfl⟩
theorem txt14 : Txt1 14 := ⟨_, _, _, _, _, _, _, _, _, _, _, _, _, _, rfl, rfl, rfl, rfl⟩
theorem txt15 : Txt1 15 := ⟨_, _, _, _, _, _, _, _, _, _, _, _, _, _, rfl, rfl, rfl, rfl⟩
theorem txt16 : Txt1 16 := ⟨_, _, _, _, _, _, _, _, _, _, _, _, _, _, rfl, rfl, rfl, rfl⟩
theorem txt17 : Txt1 17 := ⟨_, _, _, _, _, _, _, _, _, _, _, _, _, _, rfl, rfl, rfl, rfl⟩
theorem txt18 : Txt1 18 := ⟨_, _, _, _, _, _, _, _, _, _, _, _, _, _, rfl, rfl, rfl, rfl⟩
theorem txt19 : Txt1 19 := ⟨_, _, _, _, _, _, _, _, _, _, _, _, _, _, rfl, rfl, rfl, rfl⟩
theorem txt20 : Txt1 20 := ⟨_, _, _, _, _, _, _, _, _, _, _, _, _, _, rfl, rfl, rfl, rfl⟩
theorem txt21 : Txt1 21 := ⟨_, _, _, _, _, _, _, _, _, _, _, _, _, _, rfl, rfl, rfl, rfl⟩
theorem txt22 : Txt0 := ⟨_, _, _, _, _, _, _, _, _, rfl, rfl, rfl, rfl⟩
theorem txt23 : Txt1 23 := ⟨_, _, _, _, _, _, _, _, _, _, _, _, _, _, rfl, rfl, rfl, rfl⟩
theorem txts : ∀ k, k < 24 → k ≠ 22 → Txt1 k := fun k h n => by
  match k, h, n with
  | 0, _, _ => exact txt0
  | 1, _, _ => exact txt1
  | 2, _, _ => exact txt2
  | 3, _, _ => exact txt3
  | 4, _, _ => exact txt4
  | 5, _, _ => exact txt5
  | 6, _, _ => exact txt6
  | 7, _, _ => exact txt7
  | 8, _, _ => exact txt8
  | 9, _, _ => exact txt9
  | 10, _, _ => exact txt10
  | 11, _, _ => exact txt11
  | 12, _, _ => exact txt12
  | 13, _, _ => exact txt13
  | 14, _, _ => exact txt14
  | 15, _, _ => exact txt15
  | 16, _, _ => exact txt16
  | 17, _, _ => exact txt17
  | 18, _, _ => exact txt18
  | 19, _, _ => exact txt19
  | 20, _, _ => exact txt20
  | 21, _, _ => exact txt21
  | 22, _, n => exact absurd rfl n
  | 23, _, _ => exact txt23
  | k + 24, h, _ => exact absurd h (by omega)
/-! ### what is looked at -/
def clsB (K : PySem.W.Frag) (C W : Addr) (bm : List Value) (nw : String) : Bool := match K.lookup C with
  | some ⟨.type "type", _, .cls cd, sl⟩ => (match sl.toList with
    | [_, _, _, _, some (.builtin n), _] => decide (cd.mro = .ref C :: .ref W :: bm) && (n == nw && (!cd.hasDel && cd.hasDict))
    | _ => false)
  | _ => false
theorem clsB_ok {K : PySem.W.Frag} {C W : Addr} {bm : List Value} {nw : String} (h : clsB K C W bm nw = true) : ∃ nm q N bs sn sub ab col dd k0 k1 k2 k3 k5, K.lookup C = some (excClassObj nm q C N bs (.ref W :: bm) true sn sub ab col dd k0 k1 k2 k3 k5 nw) := by
  unfold clsB at h
  split at h
  · rename_i dd cd sl ho
    split at h
    · rename_i k0 k1 k2 k3 n k5 hs
      obtain ⟨h1, h⟩ := Bool.and_eq_true_iff.mp h
      obtain ⟨h2, h⟩ := Bool.and_eq_true_iff.mp h
      obtain ⟨h3, h4⟩ := Bool.and_eq_true_iff.mp h
      have e1 := of_decide_eq_true h1
      have e2 := eq_of_beq h2
      obtain ⟨nm, bs, mro, ns, qn, hd, sn, sub, ab, col, del⟩ := cd
      dsimp only at e1 h3 h4
      have e3 : del = false := by simpa using h3
      subst e1 e2 e3 h4
      obtain ⟨l⟩ := sl
      have hs' : l = [k0, k1, k2, k3, some (.builtin n), k5] := hs
      subst hs'
      exact ⟨nm, qn, ns, bs, sn, sub, ab, col, dd, k0, k1, k2, k3, k5, ho⟩
    · cases h
  · cases h
abbrev caK (K : PySem.W.Frag) (k : Nat) : Addr := He.ga K (nm k)
abbrev waK (K : PySem.W.Frag) (r : Nat) : Addr := He.ga K (wn r)
abbrev fiK (K : PySem.W.Frag) (k : Nat) : Addr := He.ma K (caK K k) "__init__"
/-- what isinstance asks of a class -/
def isB (K : PySem.W.Frag) (C : Addr) : Bool := (PySem.W.clsIn K C).isSome && (He.eqO (PySem.W.findIn K (.ref C) "__getattribute__") (some (some (.builtin "BaseException.__getattribute__"))) && (He.eqO (PySem.W.findIn K (.ref C) "__getattr__") (some none) && (decide (PySem.W.subIn K (.ref C) (.type "BaseException") = some true) &&
  (He.eqO (PySem.W.findIn K (.ref C) "__class__") (some (some (.builtin "object.__class__"))) && (He.eqO (PySem.W.specialIn K (.builtin "object.__class__") "__get__") (some (some (.builtin "getset_descriptor.__get__"))) && (decide (PySem.W.takesIn K (.builtin "object.__class__") = some true) && decide (PySem.W.mroIn K C (.type "object") = some true)))))))
theorem isB_ok {K : PySem.W.Frag} {C : Addr} (h : isB K C = true) : IsC K C := by
  obtain ⟨h1, h⟩ := Bool.and_eq_true_iff.mp h
  obtain ⟨h2, h⟩ := Bool.and_eq_true_iff.mp h
  obtain ⟨h3, h⟩ := Bool.and_eq_true_iff.mp h
  obtain ⟨h4, h⟩ := Bool.and_eq_true_iff.mp h
  obtain ⟨h5, h⟩ := Bool.and_eq_true_iff.mp h
  obtain ⟨h6, h⟩ := Bool.and_eq_true_iff.mp h
  obtain ⟨h7, h8⟩ := Bool.and_eq_true_iff.mp h
  exact ⟨h1, He.eqO_ok h2, He.eqO_ok h3, of_decide_eq_true h4, He.eqO_ok h5, He.eqO_ok h6, of_decide_eq_true h7, of_decide_eq_true h8⟩
def kitsB (K : PySem.W.Frag) (C : Addr) (r : Nat) : Bool := (List.range 3).all fun j => decide (PySem.W.kitOne K (.ref C) (.ref (waK K j)) = some (decide (r = j))) && decide (PySem.W.kitOne K (.ref C) (.type (bn j)) = some (decide (r = j)))
theorem kitsB_ok {K : PySem.W.Frag} {C : Addr} {r : Nat} (h : kitsB K C r = true) (j : Nat) (hj : j < 3) : PySem.W.kitOne K (.ref C) (.ref (waK K j)) = some (decide (r = j)) ∧ PySem.W.kitOne K (.ref C) (.type (bn j)) = some (decide (r = j)) := by
  obtain ⟨h1, h2⟩ := Bool.and_eq_true_iff.mp (List.all_eq_true.mp h j (List.mem_range.mpr hj))
  exact ⟨of_decide_eq_true h1, of_decide_eq_true h2⟩
/-- the function of an __init__ -/
def fnB (K : PySem.W.Frag) (C fI : Addr) : Bool := match K.lookup fI with
  | some ⟨_, _, .func fd, _⟩ => (match fd.code, fd.closure with
    | .ref cda, [(_, cc)] => PySem.W.codeIn K (.ref cda) fd.qualname && ((match K.lookup cda with
        | some ⟨_, _, .fields vs, _⟩ => (match (vs[2]? : Option Value) with
          | some (.str file _) => file == ("/claim/cut.py" : Str)
          | _ => false)
        | _ => false) && (match K.lookup cc with
        | some ⟨_, _, .cell (some (.ref c)), _⟩ => decide (c = C)
        | _ => false))
    | _, _ => false)
  | _ => false
abbrev FnI : Type := Option (Str × Arguments × FuncBody × Scope × Addr × List Str × Value × Addr)
def fnI (K : PySem.W.Frag) (fI : Addr) : FnI := match K.lookup fI with
  | some ⟨_, _, .func fd, _⟩ => some (fd.name, fd.params, fd.body, fd.scope, fd.globals, fd.closure.map (·.1), fd.defaults, fd.builtins)
  | _ => none
def fnV (st : Stmt) : FnI := some ("__init__", defArgs st, .stmts (defBody st), defScope st, mainGlobals, ["__class__"], .none, builtinsNs)
theorem fn_ok {K : PySem.W.Frag} {C fI : Addr} {st : Stmt} (e : fnI K fI = fnV st) (b : fnB K C fI = true) : ∃ (oc : Value) (od : Option Addr) (qual : Str) (kV doc pm : Value) (an : Option Addr) (cda cc : Addr) (ct : Value) (osl : Array (Option Value)) (vs : Array Value) (file : Str) (tf : Tok) (ccl cl : Value) (cdd cld : Option Addr) (ccs csl : Array (Option Value)),
    K.lookup fI = some ⟨oc, od, .func (PySem.W.ksFn "__init__" qual (defArgs st) (defBody st) (defScope st) .none kV doc pm an (.ref cda) ct cc), osl⟩ ∧ PySem.W.codeIn K (.ref cda) qual = true ∧ K.lookup cda = some ⟨ccl, cdd, .fields vs, ccs⟩ ∧ vs[2]? = some (.str file tf) ∧ file = "/claim/cut.py" ∧ K.lookup cc = some ⟨cl, cld, .cell (some (.ref C)), csl⟩ := by
  unfold fnI at e
  unfold fnB at b
  split at e
  · rename_i oc od fd osl ho
    rw [ho] at b
    dsimp only at b
    split at b
    · rename_i cda y cc h1 h2
      obtain ⟨b1, b⟩ := Bool.and_eq_true_iff.mp b
      obtain ⟨b2, b3⟩ := Bool.and_eq_true_iff.mp b
      split at b2
      · rename_i ccl cdd vs ccs h3
        split at b2
        · rename_i file tf h4
          split at b3
          · rename_i cl cld c csl h5
            have e5 := of_decide_eq_true b3
            subst e5
            obtain ⟨n1, n2, n3, n4, n5, n6, n7, n8, n9, n10, n11, n12, n13, n14, n15⟩ := fd
            dsimp only at h1 h2 b1
            subst h1 h2
            unfold fnV at e
            simp only [Option.some.injEq, Prod.mk.injEq, List.map_cons, List.map_nil, List.cons.injEq, and_true] at e
            obtain ⟨rfl, rfl, rfl, rfl, rfl, rfl, rfl, rfl⟩ := e
            exact ⟨oc, od, n2, n9, n10, n11, n12, cda, cc, n14, osl, vs, file, tf, ccl, cl, cdd, cld, ccs, csl, ho, b1, h3, h4, eq_of_beq b2, h5⟩
          · cases b3
        · cases b2
      · cases b2
    · cases b
  · cases e
/-- all of a class with errors of its own -/
def oneB (K : PySem.W.Frag) (k : Nat) : Bool := clsB K (caK K k) (waK K (rt k)) (bmOf (rt k)) (newOf (rt k)) && (He.eqO (PySem.W.findIn K (.ref (caK K k)) "__setattr__") (some (some (.builtin "object.__setattr__"))) && (He.eqO (PySem.W.findIn K (.ref (caK K k)) "__init__") (some (some (.ref (fiK K k)))) &&
  (decide (PySem.W.typeIn K (.ref (fiK K k)) = some (.type "function")) && (PySem.W.keepIn K (.ref (caK K k)) && (He.eqO (PySem.W.alongIn K "__init__" (.ref (waK K (rt k)) :: bmOf (rt k))) (some (some (.builtin (initOf (rt k))))) &&
  (He.eqO (PySem.W.findIn K (.ref (caK K k)) (fld k)) (some none) && (isB K (caK K k) && (PySem.W.hasDictIn K (caK K k) && (((List.range 24).all fun j => decide (PySem.W.kitOne K (.ref (caK K k)) (.ref (caK K j)) = some (decide (k = j)))) && (kitsB K (caK K k) (rt k) &&
  (He.eqO (PySem.W.nsIn K mainGlobals (nm k)) (some (some (.ref (caK K k)))) && fnB K (caK K k) (fiK K k))))))))))))
/-- all of a base class -/
def baseB (K : PySem.W.Frag) (r : Nat) : Bool := He.eqO (PySem.W.nsIn K mainGlobals (wn r)) (some (some (.ref (waK K r)))) && (isB K (waK K r) && (PySem.W.excIn K (waK K r) (bmOf r) (newOf r) && (PySem.W.keepIn K (.ref (waK K r)) && kitsB K (waK K r) r)))
def exB (K : PySem.W.Frag) : Bool := ((List.range 24).all fun k => oneB K k) && (((List.range 3).all fun r => baseB K r) && He.eqO (PySem.W.nsIn K cStatics "thirdparty.any") (some none))
section
variable {P : Program} {K : PySem.W.Frag} {mg : Str → Option Value} {h : Heap}
theorem clsT_of (hP : (P.main.file == ("/claim/cut.py" : Str)) = true) (hS : (P.main.scope.names.lookup ("super" : Str)).isSome = false) (X : K.In h) (G : h.Ns mainGlobals mg) (su : mg "super" = none) (b : exB K = true) (v : (List.range 24).map (fun k => fnI K (fiK K k)) = (List.range 24).map fun k => fnV (cst k)) : ClsT P K mg (caK K) (fiK K) (waK K) := by
  obtain ⟨b1, b⟩ := Bool.and_eq_true_iff.mp b
  obtain ⟨b2, b3⟩ := Bool.and_eq_true_iff.mp b
  have hv : ∀ k, k < 24 → fnI K (fiK K k) = fnV (cst k) := fun k hk => by
    have e := congrArg (fun l => l[k]?) v
    simp only [List.getElem?_map, List.getElem?_range hk, Option.map_some, Option.some.injEq] at e
    exact e
  have one : ∀ k, k < 24 → ErrT K mg (newOf (rt k)) (initOf (rt k)) (bmOf (rt k)) (caK K k) (waK K (rt k)) (fiK K k) ∧ PySem.W.findIn K (.ref (caK K k)) (fld k) = some none ∧ IsC K (caK K k) ∧ PySem.W.hasDictIn K (caK K k) = true ∧ (∀ j, j < 24 → PySem.W.kitOne K (.ref (caK K k)) (.ref (caK K j)) = some (decide (k = j))) ∧ kitsB K (caK K k) (rt k) = true ∧ mg (nm k) = some (.ref (caK K k)) ∧ fnB K (caK K k) (fiK K k) = true := by
    intro k hk
    have z := List.all_eq_true.mp b1 k (List.mem_range.mpr hk)
    obtain ⟨z1, z⟩ := Bool.and_eq_true_iff.mp z
    obtain ⟨z2, z⟩ := Bool.and_eq_true_iff.mp z
    obtain ⟨z3, z⟩ := Bool.and_eq_true_iff.mp z
    obtain ⟨z4, z⟩ := Bool.and_eq_true_iff.mp z
    obtain ⟨z5, z⟩ := Bool.and_eq_true_iff.mp z
    obtain ⟨z6, z⟩ := Bool.and_eq_true_iff.mp z
    obtain ⟨z7, z⟩ := Bool.and_eq_true_iff.mp z
    obtain ⟨z8, z⟩ := Bool.and_eq_true_iff.mp z
    obtain ⟨z9, z⟩ := Bool.and_eq_true_iff.mp z
    obtain ⟨z10, z⟩ := Bool.and_eq_true_iff.mp z
    obtain ⟨z11, z⟩ := Bool.and_eq_true_iff.mp z
    obtain ⟨z12, z13⟩ := Bool.and_eq_true_iff.mp z
    exact ⟨⟨clsB_ok z1, He.eqO_ok z2, He.eqO_ok z3, of_decide_eq_true z4, z5, He.eqO_ok z6, He.eqO_ok b3, su⟩, He.eqO_ok z7, isB_ok z8, z9, fun j hj => of_decide_eq_true (List.all_eq_true.mp z10 j (List.mem_range.mpr hj)), z11, PySem.W.mg_of X G (He.eqO_ok z12), z13⟩
  have base : ∀ r, r < 3 → mg (wn r) = some (.ref (waK K r)) ∧ IsC K (waK K r) ∧ PySem.W.excIn K (waK K r) (bmOf r) (newOf r) = true ∧ PySem.W.keepIn K (.ref (waK K r)) = true ∧ kitsB K (waK K r) r = true := by
    intro r hr
    have z := List.all_eq_true.mp b2 r (List.mem_range.mpr hr)
    obtain ⟨z1, z⟩ := Bool.and_eq_true_iff.mp z
    obtain ⟨z2, z⟩ := Bool.and_eq_true_iff.mp z
    obtain ⟨z3, z⟩ := Bool.and_eq_true_iff.mp z
    obtain ⟨z4, z5⟩ := Bool.and_eq_true_iff.mp z
    exact ⟨PySem.W.mg_of X G (He.eqO_ok z1), isB_ok z2, z3, z4, z5⟩
  have ff : ∀ k, k < 24 → k ≠ 22 → fld k = "given" ∨ fld k = "index" := by decide +kernel
  refine ⟨fun k hk n => ?_, (one 22 (by decide)).1, ?_, fun k hk => (one k hk).2.2.2.2.2.2.1, fun k hk => (one k hk).2.2.1, fun k hk => ?_, fun k j hk hj => (one k hk).2.2.2.2.1 j hj, fun k r hk hr => (kitsB_ok (one k hk).2.2.2.2.2.1 r hr).1, fun k r hk hr => (kitsB_ok (one k hk).2.2.2.2.2.1 r hr).2,
    fun r hr => (base r hr).1, fun r hr => (base r hr).2.1, fun r hr => (base r hr).2.2.1, fun r hr => (base r hr).2.2.2.1, fun k r hk hr => (kitsB_ok (base k hk).2.2.2.2 r hr).1, fun k r hk hr => (kitsB_ok (base k hk).2.2.2.2 r hr).2⟩
  · obtain ⟨o1, o2, _, _, _, _, _, o8⟩ := one k hk
    obtain ⟨oc, od, qual, kV, doc, pm, an, cda, cc, ct, osl, vs, file, tf, ccl, cl, cdd, cld, ccs, csl, e1, e2, e3, e4, rfl, e6⟩ := fn_ok (hv k hk) o8
    obtain ⟨msg, kM, p1, p2, q1, q2, q3, q4, q5, q6, r1, r2, r3, r4, t1, t2, t3, t4⟩ := txts k hk n
    rw [t1, t2, t3] at e1
    exact ⟨o1, ⟨oc, od, qual, msg, kM, kV, doc, pm, an, cda, cc, ct, osl, p1, p2, q1, q2, q3, q4, q5, q6, r1, r2, r3, r4, vs, _, tf, ccl, cl, cdd, cld, ccs, csl, e1, e2, e3, e4, hP, e6, hS, t4⟩, o2, ff k hk n⟩
  · obtain ⟨_, _, _, _, _, _, _, o8⟩ := one 22 (by decide)
    obtain ⟨oc, od, qual, kV, doc, pm, an, cda, cc, ct, osl, vs, file, tf, ccl, cl, cdd, cld, ccs, csl, e1, e2, e3, e4, rfl, e6⟩ := fn_ok (hv 22 (by decide)) o8
    obtain ⟨msg, kM, p1, q1, q2, q3, q4, q5, q6, t1, t2, t3, t4⟩ := txt22
    rw [t1, t2, t3] at e1
    exact ⟨oc, od, qual, msg, kM, kV, doc, pm, an, cda, cc, ct, osl, p1, q1, q2, q3, q4, q5, q6, vs, _, tf, ccl, cl, cdd, cld, ccs, csl, e1, e2, e3, e4, hP, e6, hS, t4⟩
  · obtain ⟨_, _, o3, o4, _⟩ := one k hk
    exact ⟨o3.ga, o3.gg, o3.ex, o4⟩
end
end K1
set_option Elab.async false
set_option linter.all false
set_option maxRecDepth 100000
set_option maxHeartbeats 0
namespace K1
open PySem PySem.Spec PyProof.Rows L2 Gd Rl Fx
/-! ### the head -/
def dd (x : Str) (st : Stmt) : He.DefD := ⟨(x, none), x, x, defArgs st, defBody st, defScope st, [], []⟩
def fn : List He.DefD := [dd "_law_begun" sBegun, dd "_law_cast" sCast, dd "_law_any_of" sAny, dd "_law_thing" sThing, dd "_law_placed" sPlaced, dd "_law_named" sNamed, dd "_law_flags" sFlags, dd "_law_bases" sBases, dd "_law_held" sHeld, dd "_law_some_right" sSome, dd "_law_right" sRight, dd "law" sLaw]
def fa : List He.Fa := [.glo "_law_begun", .glo "_law_cast", .glo "_law_any_of", .glo "_law_thing", .glo "_law_placed", .glo "_law_named", .glo "_law_flags", .glo "_law_bases", .glo "_law_held", .glo "_law_some_right", .glo "_law_right", .glo "law", .free "len", .free "divmod", .free "int", .free "abs", .free "isinstance", .free "ValueError", .free "LookupError", .free "ArithmeticError", .free "range", .free "repr", .free "all", .free "max", .free "min", .free "super", .int "MOST_VARIABLES" 3, .int "MOST_PLACES" 3, .int "MOST_BRANCHES" 5, .int "MOST_TESTS" 3, .int "MOST_SAYINGS" 3, .int "MOST_NUMBER" 1000000, .int "MOST_STATES" 1000, .int "MOST_FORMS" 9, .int "MOST_CHANGES" 6]
def asK (g : Addr → Option Obj) (n : Nat) : List Addr := cStatics :: He.asD g n
abbrev AlK : Type := (Bool × List He.FnW) × (Bool × List FnI)
def obsK (K : PySem.W.Frag) : AlK := (He.obsD fa fn K, (exB K, (List.range 24).map fun k => fnI K (fiK K k)))
def valK : AlK := (He.valD fn, (true, (List.range 24).map fun k => fnV (cst k)))
def SaysK (K : PySem.W.Frag) : Prop := obsK K = valK
def obsKG (g : Addr → Option Obj) : AlK := obsK (He.frG g (asK g 4))
def hk : PySem.W.Hook where
  α := AlK
  obs := fun s => obsKG s.heap.get?
  val := fun _ => valK
  says := fun _ h => ∃ K : PySem.W.Frag, K.In h ∧ SaysK K
  of := fun _ _ e => ⟨_, He.frG_in, e⟩
  keeps := fun _ _ _ ⟨K, i, c⟩ k => ⟨K, PySem.W.Frag.In.keeps i k, c⟩
abbrev R : PySem.W.OpenRow := PySem.W.OpenLaw.row PySem.Challenge.rw_fallranks_k01_limits_and_errors
def ob (s : PySem.W.SharedT) : AlK := obsKG (HandSHeadRun.getT s)
theorem ob_eq (s : PySem.W.SharedT) : ob s = hk.obs s.abs := by
  have e : HandSHeadRun.getT s = s.abs.heap.get? := funext (HandSHeadRun.getT_eq s)
  unfold ob
  rw [e]
  rfl
def namesA : List Str := ["WrongValue", "InvalidText", "InvalidName", "InvalidIndex", "InvalidPlace", "InvalidPoint", "InvalidForm", "InvalidRank", "InvalidWish", "NotProgram", "InvalidNames", "InvalidSayings", "InvalidBranches", "InvalidForms", "InvalidRanks", "InvalidWalk", "InvalidChanges", "InvalidWishes", "WrongName", "UnknownName", "InUse", "NotPossible", "Stuck", "NoRow", "TooMany", "NothingToUndo", "Broken", "MOST_VARIABLES", "MOST_PLACES", "MOST_BRANCHES"]
def namesB : List Str := ["MOST_TESTS", "MOST_SAYINGS", "MOST_NUMBER", "MOST_STATES", "MOST_FORMS", "MOST_CHANGES", "_law_begun", "_law_cast", "_law_any_of", "_law_thing", "_law_placed", "_law_named", "_law_flags", "_law_bases", "_law_held", "_law_some_right", "_law_right"]
def names : List Str := namesA ++ namesB
theorem run (w : World) : HandSHeadRun.RunEq R (PySem.W.view R.prog [49]) hk ob 9000 names w := by
  intro os
  kernel_rfl
end K1
set_option Elab.async false
set_option linter.all false
set_option maxRecDepth 100000
set_option maxHeartbeats 0
namespace K1
open PySem PySem.Spec PyProof.Rows L2 Gd Rl Fx
theorem con_of {K : PySem.W.Frag} {h : Heap} {mg : Str → Option Value} (X : K.In h) (G : h.Ns mainGlobals mg) (c : He.SaysD fa fn K) : ConT mg := by
  intro i hi
  match i, hi with
  | 0, _ => exact He.int_ok X G (c.fact 26 (f := .int "MOST_VARIABLES" 3) rfl)
  | 1, _ => exact He.int_ok X G (c.fact 27 (f := .int "MOST_PLACES" 3) rfl)
  | 2, _ => exact He.int_ok X G (c.fact 28 (f := .int "MOST_BRANCHES" 5) rfl)
  | 3, _ => exact He.int_ok X G (c.fact 29 (f := .int "MOST_TESTS" 3) rfl)
  | 4, _ => exact He.int_ok X G (c.fact 30 (f := .int "MOST_SAYINGS" 3) rfl)
  | 5, _ => exact He.int_ok X G (c.fact 31 (f := .int "MOST_NUMBER" 1000000) rfl)
  | 6, _ => exact He.int_ok X G (c.fact 32 (f := .int "MOST_STATES" 1000) rfl)
  | 7, _ => exact He.int_ok X G (c.fact 33 (f := .int "MOST_FORMS" 9) rfl)
  | 8, _ => exact He.int_ok X G (c.fact 34 (f := .int "MOST_CHANGES" 6) rfl)
  | i + 9, hi => exact absurd hi (by omega)
theorem facts {w : World} {K : PySem.W.Frag} {h : Heap} {mg : Str → Option Value} {f : Addr} (X : K.In h) (G : h.Ns mainGlobals mg) (hfa : mg ("law" : Str) = some (.ref f)) (cc : SaysK K) :
    ∃ fd : FuncData, (∀ (s : Shared) (v : Value), BindsTo s fd ⟨[v], []⟩ [("_law_script", v)]) ∧ ∀ base : Heap, K.In base → base.Ns mainGlobals mg → FnG (PySem.Challenge.rw_fallranks_k01_limits_and_errors).prog w K mg base 5 f fd ["_law_script"] (spLaw K) := by
  have c : He.SaysD fa fn K := congrArg (fun z : AlK => z.1) cc
  have c2 : exB K = true := congrArg (fun z : AlK => z.2.1) cc
  have c3 : (List.range 24).map (fun k => fnI K (fiK K k)) = (List.range 24).map fun k => fnV (cst k) := congrArg (fun z : AlK => z.2.2) cc
  have free : ∀ (i : Nat) (x : Str), fa[i]? = some (.free x) → mg x = none := fun i x e => He.free_ok X G (c.fact i (f := .free x) e)
  have glo : ∀ (i : Nat) (x : Str), fa[i]? = some (.glo x) → mg x = some (.ref (He.ga K x)) := fun i x e => He.glo_ok X G (c.fact i (f := .glo x) e)
  obtain ⟨d0, F0⟩ := c.def_ 0 (d := dd "_law_begun" sBegun) rfl
  obtain ⟨d1, F1⟩ := c.def_ 1 (d := dd "_law_cast" sCast) rfl
  obtain ⟨d2, F2⟩ := c.def_ 2 (d := dd "_law_any_of" sAny) rfl
  obtain ⟨d3, F3⟩ := c.def_ 3 (d := dd "_law_thing" sThing) rfl
  obtain ⟨d4, F4⟩ := c.def_ 4 (d := dd "_law_placed" sPlaced) rfl
  obtain ⟨d5, F5⟩ := c.def_ 5 (d := dd "_law_named" sNamed) rfl
  obtain ⟨d6, F6⟩ := c.def_ 6 (d := dd "_law_flags" sFlags) rfl
  obtain ⟨d7, F7⟩ := c.def_ 7 (d := dd "_law_bases" sBases) rfl
  obtain ⟨d8, F8⟩ := c.def_ 8 (d := dd "_law_held" sHeld) rfl
  obtain ⟨d9, F9⟩ := c.def_ 9 (d := dd "_law_some_right" sSome) rfl
  obtain ⟨d10, F10⟩ := c.def_ 10 (d := dd "_law_right" sRight) rfl
  obtain ⟨d11, F11⟩ := c.def_ 11 (d := dd "law" sLaw) rfl
  have e := hfa.symm.trans (glo 11 "law" rfl)
  cases e
  have T := clsT_of (P := (PySem.Challenge.rw_fallranks_k01_limits_and_errors).prog) (by decide +kernel) (by decide +kernel) X G (free 25 "super" rfl) c2 c3
  have b := FunD.bindsA (ps := ["_law_script"]) F11 fun _ _ _ _ _ _ us hl => match us, hl with | [_], _ => rfl
  have T1 : Txt mg := ⟨free 12 "len" rfl, free 13 "divmod" rfl, free 14 "int" rfl, free 15 "abs" rfl⟩
  have U : Blt mg := ⟨free 16 "isinstance" rfl, fun r hr => match r, hr with
    | 0, _ => free 17 "ValueError" rfl
    | 1, _ => free 18 "LookupError" rfl
    | 2, _ => free 19 "ArithmeticError" rfl
    | _ + 3, h => absurd h (by omega)⟩
  have U2 : Blt2 mg := ⟨free 12 "len" rfl, free 20 "range" rfl, free 21 "repr" rfl, free 22 "all" rfl, free 23 "max" rfl, free 24 "min" rfl⟩
  have D : DefsT K mg _ _ _ _ _ _ _ _ _ d1 d2 d3 d4 d5 d6 d7 d8 d9 := ⟨F1, F2, F3, F4, F5, F6, F7, F8, F9, glo 1 "_law_cast" rfl, glo 2 "_law_any_of" rfl, glo 3 "_law_thing" rfl, glo 4 "_law_placed" rfl, glo 5 "_law_named" rfl, glo 6 "_law_flags" rfl, glo 7 "_law_bases" rfl, glo 8 "_law_held" rfl, glo 9 "_law_some_right" rfl⟩
  exact ⟨d11, fun s v => b s [v] rfl, fun base _ _ => ok_law F11 T T1 U U2 D (con_of X G c) F0 (glo 0 "_law_begun" rfl) F10 (glo 10 "_law_right" rfl)⟩
end K1
open PySem PySem.W PySem.Calls PyProof.Rows
theorem PySem.Challenge.cw_fallranks_k01_limits_and_errors_holds : PySem.Challenge.rw_fallranks_k01_limits_and_errors.Holds := by
  w_on; o_law
  refine HandSHeadRun.head_any (r := OpenLaw.row PySem.Challenge.rw_fallranks_k01_limits_and_errors) (q := view (OpenLaw.row PySem.Challenge.rw_fallranks_k01_limits_and_errors).prog [49]) (H := K1.hk) (ob := K1.ob) (M := 9000) (loose := K1.names) (d := HandSHeadRun.topDef (OpenLaw.row PySem.Challenge.rw_fallranks_k01_limits_and_errors).prog 49) (kwd := []) K1.ob_eq
    (by kernel_rfl) (fun s => by kernel_rfl) K1.run (by kernel_rfl) (by kernel_rfl) (by kernel_rfl) (by rfl) (by first | assumption | decide +kernel) (by decide +kernel) ⟨rfl, rfl, rfl, rfl, rfl, by decide +kernel⟩ ?hw ?hc
  case hw => w_witness2
  case hc =>
    refine Gd.walk_G (l := PySem.Challenge.rw_fallranks_k01_limits_and_errors) (n := 63) (k := 5) (x := "_law_script") rfl (by decide) (by kernel_rfl) ⟨rfl, by decide, by decide⟩ ?F
    intro w mg fa h Y G hmg0
    obtain ⟨K, KX, c⟩ := Y
    have hmg : mg ("law" : PySem.Str) = some (.ref fa) := by
      have e : (HandSHeadRun.topDef (OpenLaw.row PySem.Challenge.rw_fallranks_k01_limits_and_errors).prog 49).name = ("law" : PySem.Str) := by kernel_rfl
      rw [← e]
      exact hmg0
    obtain ⟨fd, hb, hF⟩ := K1.facts (w := w) KX G hmg c
    exact ⟨K, fd, K1.spLaw K, KX, hb, fun H a ns hl hbits hS => ⟨a, ns, rfl, hS, hl, hbits, fun _ => rfl⟩, hF⟩
