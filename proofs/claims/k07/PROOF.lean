import PyProof.Rows.All
import Wide.All
import OpenK.AllK
import Wide.FinOn
import HandS.ForMost
import HandS.ForExc
import HandS.Defaults
import KE.KExcSuper
import HandS.ExcInit
import HandS.HeadWalk
import KE.KExcIs
import HandS.ExcValue
import HandS.ExcField
import HandS.IsInst
import HandS.Walk
import KE.GoesEnum
import HandS.TupAny
import HandS.Text
import KE.IntTextLaws
import HandS.FStr
import HandS.Star
import HandS.StrMore
import HandS.CallLocal
import KE.KCallOwn
import OpenK.KOps
import HandS.RaiseMore
import HandS.Property
import HandS.ClsMeth
import HandS.Wide
import HandS.MakeKwOnly
import HandS.Lambda
import HandS.HotCalls
import HandS.ExcOwn
import HandS.ExcCtx
import HandS.RaiseFrom
import HandS.SuiteRaise
import KE.KTryMore
import HandS.SetFor
import PyProof.EqAt
import HandS.HeadHook4
import HandS.Style
import HandS.NoneIn
import HandS.EndBits
import HandS.EndTab
import HandS.HeadHook1
import HandS.HeadHook2
import HandS.Head0
import HandS.Head1
import HandS.Head2
import HandS.HeadEnd
import HandS.HeadHook3
import PySem.Challenge.RW_fallranks_k07_whole_texts_judged
set_option Elab.async false
set_option linter.all false
set_option maxRecDepth 100000
set_option maxHeartbeats 4000000
namespace Gd
open PySem PySem.Spec PyProof.Rows L2
/-! defs that show lists: no list is being shown around them -/
/-- a promise kept where nothing is being shown -/
structure FnG (P : Program) (w : World) (K : PySem.W.Frag) (mg : Str → Option Value) (base : Heap) (k : Nat) (f : Addr) (fd : FuncData) (ps : List Str) (sp : Sp) : Prop where
  len : ∀ vs H Q E, sp vs H Q E → vs.length = ps.length
  run : ∀ (A : Around) (outer : List Env) (s : Shared) (H : Hp) (args : Args) (us : List Value) (vs : List V) (Q : VK) (E : XK), A.guards = some [] → Room k A → Env0 P w K mg base A outer s H → BindsTo s fd args (ps.zip us) → Vals vs us → sp vs H Q E →
    codeAny (model P w) A (.call (.ref f) args) (CR CX0 outer P w H s Q E) s
theorem deeper_guards {A : Around} {env : Env} (h : A.guards = some []) : (A.deeper env).guards = some [] := by
  first
    | exact h
    | simpa [Around.deeper] using h
section
variable {P : Program} {w : World} {K : PySem.W.Frag} {mg : Str → Option Value} {base : Heap} {x qual : Str} {params : Arguments} {body : List Stmt} {scope : Scope} {dvs : List V} {kws : List (Str × V)} {f : Addr} {fd : FuncData}
theorem okG {N ps : List Str} {k : Nat} {sp : Sp} (F : FunD K x qual params body scope dvs kws f fd) (S : FnScope N ps scope) (len : ∀ vs H Q E, sp vs H Q E → vs.length = ps.length)
    (hbody : ∀ (cdv : Value) (A : Around) (outer : List Env) (s : Shared) (H : Hp) (vs : List V) (Q : VK) (E : XK), (A.deeper (envOfC qual scope s.heap.objs.size f cdv)).guards = some [] → Room k (A.deeper (envOfC qual scope s.heap.objs.size f cdv)) → sp vs H Q E →
      ∃ t, PSs (cxOf CX0 P w K mg base N qual scope f cdv A outer s H E) body t ∧ t { nx := fun _ H' => Q .non H', rt := Q } (start N vs) H) : FnG P w K mg base (k + 1) f fd ps sp := by
  obtain ⟨oc, od, dV, kV, doc, pm, an, cdv, ct, osl, rfl, lk, hcd, _, _⟩ := F.ex
  refine ⟨len, fun A outer s H args us vs Q E hgd hr e0 hb r hsp => ?_⟩
  have hlv := len _ _ _ _ hsp
  have KX : K.In s.heap := e0.mod.kin.keeps fun b o e => (e0.bs b o e).1
  have lim : s.heap.NoLimit := e0.mod.nolimit.keeps fun b o e => (e0.bs b o e).1
  have hkd : ∀ y ∈ ps.zip us, scope.names.lookup y.1 = some .local ∨ (scope.names.lookup y.1 = some .cell ∧ ((cellsFrom (s.heap.objs.size + 1) scope.names []).lookup y.1).isSome = true) := fun ⟨n, v⟩ hy => by
    rcases S.par n (List.of_mem_zip hy).1 with q | q
    · exact .inl q
    · exact .inr ⟨q, PySem.W.cellsFrom_some _ _ _ (.inl q)⟩
  refine codeAny_call_function hr.depth (KX _ _ lk) rfl S.co S.gen rfl (PySem.W.codeRec_of KX hcd) (hb _ _ _ _ ?_)
  refine wpAny_newFunctionEnv_cells S.kind hkd fun env he s1 z => ?_
  subst he
  refine ⟨lim.keeps z.toInCall.keep, codeAny_func ?_⟩
  obtain ⟨t, ht, hq⟩ := hbody cdv A outer s H vs Q E (deeper_guards hgd) (hr.deeper _) hsp
  have I : Inv (cxOf CX0 P w K mg base N qual scope f cdv A outer s H E) [] (start N vs) H s1 := inv_start S hr.hd e0 hlv r z
  refine wpAny_mono (ht.run [] s1 (start N vs) H _ I hq) (fun fl s' hs => ?_) fun e s' hs => hs
  cases fl with
  | ret u =>
    obtain ⟨v, σ', H', J, rv, q⟩ := hs
    exact ⟨v, H', J.os, J.bare, J.base, J.hok, rv, q⟩
  | next =>
    obtain ⟨σ', H', J, q⟩ := hs
    exact ⟨V.non, H', J.os, J.bare, J.base, J.hok, rfl, q⟩
  | brk =>
    obtain ⟨_, _, _, q⟩ := hs
    exact q.elim
  | cont =>
    obtain ⟨_, _, _, q⟩ := hs
    exact q.elim
end
section
variable {X : Cx} {k : Nat} {f : Addr} {fd : FuncData} {ps : List Str} {sp : Sp} {x : Str} {p pos : Pos} {e : Expr} {es : List Expr} {t : TA}
/-- such a def called -/
theorem pe_callG (F : FnG X.prog X.w X.K X.mg X.base k f fd ps sp) (hgd : X.A.guards = some []) (hr : Room k X.A) (hg : Gl X x) (hm : X.mg x = some (.ref f)) (hk : PySem.W.keepIn X.K (.ref f) = true) (hb : Binds X.K fd ps [])
    (ha : PA X (e :: es) t) (hdb : (x == ("__debug__" : Str)) = false := by decide) (he : starEach (e :: es) X.env = (false, eval e X.env) :: starEach es X.env := by rfl) (hpl : (backTo pos (starEach es X.env)).any (·.1) = false := by rfl) :
    PE X (.Call (.Name x p) (e :: es) [] pos) (tCall sp [] E0 t) := by
  refine ⟨fun pins s σ H Q I h => ?_⟩
  refine wpAny_Call_Name_kw (ld_glob I hg hm ?_ hdb)
  refine PySem.W.callWith_K (h₀ := X.base) I.ok.mod.kin hk (thn (ha.run pos pins s σ H _ I h) fun us s1 ⟨vs, H1, I1, r, q⟩ => ⟨I1.kIn, ?_⟩) he hpl
  have r2 : Vals (vs ++ []) (us ++ []) := r.append .nil
  have hl : (us ++ []).length = ps.length := by
    rw [← r2.length]
    exact F.len _ _ _ _ q
  refine wpAny_call (codeAny_mono (F.run X.A X.stack s1 H1 ⟨us, []⟩ (us ++ []) (vs ++ []) Q E0 hgd hr I1.env0 (hb s1 us I1.kIn hl) r2 q) fun r s' hq => ?_)
  cases r with
  | error er => exact hq.elim
  | ok fl =>
    cases fl with
    | ret u => exact I1.after hq
    | next => exact hq.elim
    | brk => exact hq.elim
    | cont => exact hq.elim
/-! ### repr of data -/
/-- data that stands: as Dp, or a dict of flat things at its top -/
def flatD : V → Option PyData
  | .non => some .none
  | .bl b => some (.bool b)
  | .int i => some (.int i)
  | .str z => some (.str z)
  | _ => none
def keyD : Key → PyData
  | .inl i => .int i
  | .inr z => .str z
def flatR (q : Key × V) (p : PyData × PyData) : Prop := p.1 = keyD q.1 ∧ flatD q.2 = some p.2
def Rp (K : PySem.W.Frag) (H : Hp) (v : V) (d : PyData) : Prop := Dp K H v d ∨ ∃ (a : Addr) (kvs : List (Key × V)) (ds : List (PyData × PyData)), v = .ref a ∧ H a = some (.dK kvs) ∧ Paired flatR kvs ds ∧ d = .dict ds
theorem flat_reads {h : Heap} {v : V} {u : Value} {d : PyData} (r : RelV v u) (e : flatD v = some d) : Reads h u d [] := by
  cases v with
  | non =>
    cases r
    cases e
    exact .none
  | bl b =>
    cases r
    cases e
    exact .bool b
  | int i =>
    obtain ⟨t, rfl⟩ := r
    cases e
    exact .int i t
  | str z =>
    obtain ⟨t, rfl⟩ := r
    cases e
    exact .str z t
  | byt _ => cases e
  | flt _ => cases e
  | ref _ => cases e
  | ty _ => cases e
theorem key_reads {h : Heap} {k : Key} {u : Value} (r : keyIs k u = true) : Reads h u (keyD k) [] := by
  rcases keyIs_shape r with ⟨i, t, rfl, rfl⟩ | ⟨z, t, rfl, rfl⟩
  · exact .int i t
  · exact .str z t
theorem dict_reads {P : Program} {w : World} {h : Heap} : ∀ {kvs : List (Key × V)} {vs : List (Key × Value)} {es : List DictEntry} {ds : List (PyData × PyData)}, KV kvs vs → Pairs (mixKind P w) es vs → Paired flatR kvs ds →
    ReadsAll h (es.map (·.key)) (ds.map (·.1)) [] ∧ ReadsAll h (es.map (·.val)) (ds.map (·.2)) []
  | _, _, _, _, .nil, .nil, .nil => ⟨.nil, .nil⟩
  | _, _, _, _, .cons r t, .cons a b c, .cons f g => by
    obtain ⟨h1, h2⟩ := dict_reads t c g
    obtain ⟨r1, r2⟩ := r
    obtain ⟨f1, f2⟩ := f
    refine ⟨?_, ?_⟩
    · have k1 := key_reads (h := h) a
      rw [← r1, ← f1] at k1
      exact ReadsAll.cons (bs := []) k1 h1
    · have k2 := flat_reads (h := h) r2 f2
      rw [← b] at k2
      exact ReadsAll.cons (bs := []) k2 h2
theorem dp_nodict : ∀ {K : PySem.W.Frag} {H : Hp} (d : PyData) {v : V}, Dp K H v d → d.hasDict = false
  | _, _, .none, _, _ => rfl
  | _, _, .bool _, _, _ => rfl
  | _, _, .int _, _, _ => rfl
  | _, _, .str _, _, _ => rfl
  | K, H, .list ds, _, h => by
    cases h with
    | lst hs ha =>
      simp only [PyData.hasDict]
      exact dp_nodictAll ds ha
  | K, H, .tuple ds, _, h => by
    cases h with
    | tup hs ha =>
      simp only [PyData.hasDict]
      exact dp_nodictAll ds ha
  | _, _, .dict _, _, h => by cases h
where dp_nodictAll {K : PySem.W.Frag} {H : Hp} : ∀ (ds : List PyData) {vs : List V}, DpAll K H vs ds → PyData.hasDictAll ds = false
  | [], _, _ => rfl
  | d :: ds, _, h => by
    cases h with
    | cons h1 h2 =>
      simp only [PyData.hasDictAll, dp_nodict d h1, dp_nodictAll ds h2, Bool.or_self]
/-- repr of such data -/
theorem call_repr (hgd : X.A.guards = some []) (hu : X.A.units + 64 < cLine) : CallR X (.builtin "repr") (fun xs H Q => ∃ v d, xs = [v] ∧ Rp X.K H v d ∧ PyData.showable d = true ∧ d.depth ≤ 20 ∧ d.shown.length ≤ sizeLine ∧ Q (.str d.shown) H) := by
  intro pins s σ H xs us Q I r h
  obtain ⟨v, d, rfl, hd, hs, hdp, hsz, q⟩ := h
  obtain ⟨u, rfl, ru⟩ := vals1 r
  have go : ∀ (a : Addr) (as : List Addr), u = .ref a → Reads s.heap u d as → (d.hasDict = true → sysModules ∉ as) → wpAny (model X.prog X.w) X.A (call (.builtin "repr") [u]) (EP X pins σ Q) X.xe s := by
    intro a as e rd hm
    subst e
    exact repr_of_reads' rd hs hm hgd (by omega) (fun _ _ e => e) (fun h' t tk kk => ⟨.str d.shown, H, I.kept (t' := tk) kk, ⟨t, rfl⟩, q⟩) hsz
  rcases hd with hd | ⟨a, kvs, ds, rfl, ha, hp, rfl⟩
  · have hn := dp_nodict d hd
    obtain ⟨as, rd⟩ := Dp.reads I d v u hd ru
    cases hd with
    | non =>
      cases ru
      simp only [PyData.shown] at q
      exact P.repr_of_none ⟨.str _, H, I.tok _, ⟨_, rfl⟩, q⟩
    | bl b =>
      cases ru
      simp only [PyData.shown] at q
      exact P.repr_of_bool ⟨.str _, H, I.tok _, ⟨_, rfl⟩, q⟩
    | int i =>
      obtain ⟨t, rfl⟩ := ru
      exact P.repr_of_int (by simpa [PyData.showable] using hs) ⟨.str _, H, I.tok _, ⟨_, rfl⟩, by simpa only [PyData.shown] using q⟩
    | str z =>
      obtain ⟨t, rfl⟩ := ru
      exact P.repr_of_str ⟨.str _, H, I.tok _, ⟨_, rfl⟩, by simpa only [PyData.shown] using q⟩ (by simpa only [PyData.shown] using hsz)
    | lst h1 h2 =>
      cases ru
      exact go _ as rfl rd fun z => by rw [hn] at z; cases z
    | tup h1 h2 =>
      cases ru
      exact go _ as rfl rd fun z => by rw [hn] at z; cases z
  · cases ru
    obtain ⟨_, hsy, vs, kv, o, es, ep, e1, e2, e3, _, e5, _⟩ := (show ObjOk X.prog X.w H s.heap a (.dK kvs) from I.hok a _ ha)
    obtain ⟨k1, k2⟩ := dict_reads (h := s.heap) kv e5 hp
    refine go a (a :: [] ++ []) rfl (Reads.dict e1 e2.1 e3 k1 k2) fun _ z => ?_
    simp only [List.append_nil, List.mem_singleton, List.append_eq] at z
    rw [← z] at hsy
    simp at hsy
end
end Gd
set_option Elab.async false
set_option linter.all false
set_option maxRecDepth 100000
set_option maxHeartbeats 4000000
namespace Fx
open PySem PySem.W PySem.Calls PyProof.Rows PySem.HandSPX
open Builtin Builtin.ObjectAttr
/-- a built-in base of errors, as far as errors over it want it -/
structure Root (B newId initId : String) (bmB : List Value) : Prop where
  fb : ExcBaseFacts B newId initId bmB
  kx : KxsFacts B initId
  pass : ∀ self, refuseLoop self "__setattr__" bmB = pure ()
  obj : bmB.contains (.type "object") = true
theorem rootV : Root "ValueError" "ValueError.__new__" "ValueError.__init__" [.type "ValueError", .type "Exception", .type "BaseException", .type "object"] :=
  ⟨F.excBase_ValueError, kxs_ValueError, F.store_ValueError.passes, by decide +kernel⟩
theorem rootL : Root "LookupError" "LookupError.__new__" "LookupError.__init__" [.type "LookupError", .type "Exception", .type "BaseException", .type "object"] :=
  ⟨F.excBase_LookupError, kxs_LookupError, F.store_LookupError.passes, by decide +kernel⟩
theorem rootA : Root "ArithmeticError" "ArithmeticError.__new__" "ArithmeticError.__init__" [.type "ArithmeticError", .type "Exception", .type "BaseException", .type "object"] :=
  ⟨F.excBase_ArithmeticError, kxs_ArithmeticError, F.store_ArithmeticError.passes, by decide +kernel⟩
section
variable {prog : Program} {w : World} {A : Around} {R : Result → Shared → Prop} {g0 : Heap} {gs : Array GenState} {dr : Drawn} {tk0 : Nat} {oz : OsState} {B newId initId : String} {bmB : List Value}
/-- the first attribute of a new error: its dict is made -/
theorem osa (Z : Root B newId initId bmB) {K : Frag} {name : Str} {tk : Tok} {v : Value} {x C W : Addr} {fv : Array Value} {cd : ClassData}
    (X : K.In g0) (hx : g0.get? x = some { cls := .ref C, data := .fields fv }) (hcd : clsIn K C = some cd) (hm : cd.mro = .ref C :: .ref W :: bmB) (hh : cd.hasDict = true) (ha : findIn K (.ref C) name = some none)
    (hq : ∀ g1 tk1 dx, (∀ b o, b ≠ x → g0.get? b = some o → g1.get? b = some o) → g0.objs.size ≤ dx → dx ≠ x → g1.get? x = some { cls := .ref C, dict := some dx, data := .fields fv } →
      g1.Ns1 dx (fun y => if y = name then some v else none) → R (.ok (.ret .none)) ⟨g1, gs, dr, tk1, oz⟩) :
    codeAny (model prog w) A (.call (.builtin "object.__setattr__") ⟨[.ref x, .str name tk, v], []⟩) R ⟨g0, gs, dr, tk0, oz⟩ := by
  have J : PySem.W.InstAt g0 x { cls := .ref C, data := .fields fv } C none := ⟨hx, rfl, rfl, trivial⟩
  have ST := PySem.F.store_object
  have hob : (Value.ref C :: Value.ref W :: bmB).contains (.type "object") = true := by
    rw [List.contains_cons, List.contains_cons, Z.obj, Bool.or_true, Bool.or_true]
  have hxs : x ≠ g0.objs.size := Nat.ne_of_lt (Heap.lt_size hx)
  have hmi : mroIn K C (.type "object") = some true := by
    unfold mroIn
    rw [hcd, Option.bind_some, hm, if_neg (show ¬ (List.isEmpty (Value.ref C :: Value.ref W :: bmB) = true) from Bool.false_ne_true), hob]
  have sub : Looks (model prog w) g0 (isInstance (.ref x) (.type "object")) true := J.type.andThen (looks_mroIn X hmi)
  refine codeAny_call_builtin ST.slot.plain ST.entry (@check_slot (model prog w) _ _ ⟨g0, gs, dr, tk0, oz⟩ "object.__setattr__" "object" "__setattr__" (.ref x) [.str name tk, v] [] _ ST.kind ST.split sub (ST.args (.ref x) (.str name tk) v) ?_)
  have hmr : Looks (model prog w) g0 (mroOf (.ref C)) cd.mro := (looks_clsIn X hcd).andThen .now
  have L3 : Looks (model prog w) g0 (storeTaker? none) none := .now
  have hcls : Looks (model prog w) g0 (classData C) cd := looks_clsIn X hcd
  rw [osa_eq, refuse_eq]
  refine wpAny_bind (wpAny_bind (J.type.at (wpAny_bind (hmr.at ?_))))
  rw [hm, refuseLoop_ref, refuseLoop_ref, Z.pass]
  refine wpAny_pure (wpAny_bind (J.type.at (wpAny_bind ((looks_findIn X ha).at (wpAny_bind (L3.at ?_))))))
  show wpAny _ _ (storeInOwnDict (.ref x) (.ref C) (.str name tk) name v false) _ _ _
  obtain ⟨nm, bs, mro, ns, qn, hd, sn, sb, ab, col, del⟩ := cd
  dsimp only at hh
  subst hh
  unfold storeInOwnDict ownDictForStores
  repeat (first | with_reducible refine store_in_new ?_ ?_ | with_reducible refine wpAny_loadPart_at hx ?_ | with_reducible refine hcls.at ?_ | wp_step)
  · refine ⟨_, #[], _, (Heap.get?_update_ne _ _ _ _ hxs.symm).trans (Heap.get?_push_at rfl rfl), rfl, fun e he => absurd he (by simp), ?_⟩
    intro _
    rfl
  · intro g1 tk1 hn' hs
    have hx₁ : (g0.push { cls := .type "dict", data := .dict #[] }).get? x = some { cls := .ref C, data := .fields fv } := Heap.get?_push_of_some _ hx
    refine hq g1 tk1 g0.objs.size (fun b o hb ho => ?_) (Nat.le_refl _) hxs.symm ?_ hn'
    · exact (hs.2 b (Nat.ne_of_lt (Heap.lt_size ho))).trans ((Heap.get?_update_ne _ _ _ _ hb).trans (Heap.get?_push_of_some _ ho))
    · exact (hs.2 x hxs).trans (Heap.get?_update_self _ hx₁ rfl)
end
/-- the text of an error's __init__: super().__init__(msg), and one attribute or none -/
def iS0 : Scope := { kind := .function, names := [(Str.ofString "self", .local), (Str.ofString "__class__", .free), (Str.ofString "super", .globalImplicit)], isGenerator := false, isCoroutine := false, more := [] }
def iS1 (f : Str) : Scope := { kind := .function, names := [(Str.ofString "self", .local), (f, .local), (Str.ofString "__class__", .free), (Str.ofString "super", .globalImplicit)], isGenerator := false, isCoroutine := false, more := [] }
def iA0 (p1 : Pos) : Arguments := { posonlyargs := [], args := [{ arg := "self", annotation := none, pos := p1 }], vararg := none, kwonlyargs := [], kw_defaults := [], kwarg := none, defaults := [] }
def iA1 (f : Str) (p1 p2 : Pos) : Arguments := { posonlyargs := [], args := [{ arg := "self", annotation := none, pos := p1 }, { arg := f, annotation := none, pos := p2 }], vararg := none, kwonlyargs := [], kw_defaults := [], kwarg := none, defaults := [] }
def iSup (msg : Str) (k : Nat) (q1 q2 q3 q4 q5 q6 : Pos) : Stmt := .Expr (.Call (.Attribute (.Call (.Name "super" q1) [] [] q2) "__init__" q3) [.Constant (.str msg) k q4] [] q5) q6
def iSet (f : Str) (q1 q2 q3 q4 : Pos) : Stmt := .Assign [.Attribute (.Name "self" q1) f q2] (.Name f q3) q4
/-- what the written part says of the class at C, right under the own class at W; its __init__ at fI, which closes over its class in the cell at cc -/
structure ErrT (K : Frag) (mg : Str → Option Value) (newId initId : String) (bmB : List Value) (C W fI : Addr) : Prop where
  cls : ∃ nm q N bs sn sub ab col dd k0 k1 k2 k3 k5, K.lookup C = some (excClassObj nm q C N bs (.ref W :: bmB) true sn sub ab col dd k0 k1 k2 k3 k5 newId)
  sa : findIn K (.ref C) "__setattr__" = some (some (.builtin "object.__setattr__"))
  iC : findIn K (.ref C) "__init__" = some (some (.ref fI))
  tI : typeIn K (.ref fI) = some (.type "function")
  kC : keepIn K (.ref C) = true
  al : alongIn K "__init__" (.ref W :: bmB) = some (some (.builtin initId))
  th : nsIn K cStatics "thirdparty.any" = some none
  su : mg "super" = none
/-- its __init__ with one parameter -/
def Fn1 (prog : Program) (K : Frag) (C fI : Addr) (f : Str) : Prop := ∃ (oc : Value) (od : Option Addr) (qual msg : Str) (kM : Nat) (kV doc pm : Value) (an : Option Addr) (cda cc : Addr) (ct : Value) (osl : Array (Option Value)) (p1 p2 q1 q2 q3 q4 q5 q6 r1 r2 r3 r4 : Pos) (vs : Array Value) (file : Str) (tf : Tok) (ccl cl : Value) (cdd cld : Option Addr) (ccs csl : Array (Option Value)),
    K.lookup fI = some ⟨oc, od, .func (ksFn "__init__" qual (iA1 f p1 p2) [iSup msg kM q1 q2 q3 q4 q5 q6, iSet f r1 r2 r3 r4] (iS1 f) .none kV doc pm an (.ref cda) ct cc), osl⟩ ∧ codeIn K (.ref cda) qual = true ∧
    K.lookup cda = some ⟨ccl, cdd, .fields vs, ccs⟩ ∧ vs[2]? = some (.str file tf) ∧ ((prog.main.file : Str) == file) = true ∧ K.lookup cc = some ⟨cl, cld, .cell (some (.ref C)), csl⟩ ∧ (prog.main.scope.names.lookup ("super" : Str)).isSome = false ∧ (q3.endLine == q5.line) = true
end Fx
set_option Elab.async false
set_option linter.all false
set_option maxRecDepth 100000
set_option maxHeartbeats 4000000
namespace Fx
open PySem PySem.W PySem.Calls PyProof.Rows PySem.HandSPX
open Builtin Builtin.ObjectAttr
section
variable {prog : Program} {w : World} {A : Around} {R : Result → Shared → Prop} {s : Shared} {B newId initId : String} {bmB : List Value} {K : Frag} {mg : Str → Option Value} {base : Heap} {C W fI : Addr}
/-- super().__init__(msg) within the __init__ of a new error at x -/
theorem sup_stmt (Z : Root B newId initId bmB) (T : ErrT K mg newId initId bmB C W fI) (M : L2.Mod K mg base) (kb : ∀ b o, base.get? b = some o → s.heap.get? b = some o) {qual msg : Str} {sc : Scope} {kM : Nat} {kV doc pm ct oc ccl cl : Value} {od an cdd cld : Option Addr} {cda cc L x t0 : Addr} {osl ccs csl : Array (Option Value)} {vs : Array Value} {file : Str} {tf : Tok} {ps : Arguments} {body : List Stmt} {ar : Arg} {m : Str → Option Value} {q1 q2 q3 q4 q5 q6 : Pos} {Q : Flow → Shared → Prop} {E : Value → Shared → Prop}
    (lf : K.lookup fI = some ⟨oc, od, .func (ksFn "__init__" qual ps body sc .none kV doc pm an (.ref cda) ct cc), osl⟩) (hp : (ps.posonlyargs ++ ps.args).head? = some ar) (har : ar.arg = "self")
    (lc : K.lookup cda = some ⟨ccl, cdd, .fields vs, ccs⟩) (hvs : vs[2]? = some (.str file tf)) (hfile : ((prog.main.file : Str) == file) = true) (lcell : K.lookup cc = some ⟨cl, cld, .cell (some (.ref C)), csl⟩) (htop : (prog.main.scope.names.lookup ("super" : Str)).isSome = false)
    (hks : sc.names.lookup ("super" : Str) = some .globalImplicit) (hkc : sc.names.lookup ("__class__" : Str) = some .free) (hka : sc.names.lookup ("self" : Str) = some .local) (hl1 : (q3.endLine == q5.line) = true) (hk : sc.kind = .function) (hi : interactive (ksEnv qual sc L fI (.ref cda) cc) = false)
    (hn : s.heap.Ns L m) (hm : m "self" = some (.ref x)) (hx : s.heap.get? x = some (excO C t0))
    (hq : ∀ h' tk t1, (∀ b o, b ≠ x → s.heap.get? b = some o → h'.get? b = some o) → h'.get? x = some (excO C t1) → Q .next { s with heap := h', toks := tk }) :
    _root_.PySem.wpAt (model prog w) A (.func body (ksEnv qual sc L fI (.ref cda) cc)) (exec (iSup msg kM q1 q2 q3 q4 q5 q6) (ksEnv qual sc L fI (.ref cda) cc)) Q E s := by
  obtain ⟨nm, q, N, bs, sn, sub, ab, col, dd, k0, k1, k2, k3, k5, hC⟩ := T.cls
  have X : K.In s.heap := M.kin.keeps kb
  have hcl : clsIn K C = some { name := nm, bases := bs, mro := .ref C :: .ref W :: bmB, ns := N, qualname := q, hasDict := true, slotNames := sn, subclasses := sub, abstract := ab, collection := col, hasDel := false } := by unfold clsIn; rw [hC] <;> rfl
  obtain ⟨mb, hb1, hb2⟩ := M.blt
  have J : PySem.W.InstAt s.heap x (excO C t0) C none := ⟨hx, rfl, rfl, trivial⟩
  have hCh := X _ _ hC
  have hmC : mroIn K C (.ref C) = some true := by
    unfold mroIn
    rw [hcl, Option.bind_some]
    simp
  have hmB : mroIn K C (.type B) = some true := by
    unfold mroIn
    rw [hcl, Option.bind_some, if_neg (show ¬ (List.isEmpty (Value.ref C :: Value.ref W :: bmB) = true) from Bool.false_ne_true)]
    show some ((Value.ref C :: Value.ref W :: bmB).contains (.type B)) = some true
    rw [List.contains_cons, List.contains_cons, Z.fb.hasB, Bool.or_true, Bool.or_true]
  unfold iSup
  refine ks_wpAt_Expr_any ?_ hi
  refine ks_wpAt_MethodCall (pl := L2.plainOf (.Call (.Name "super" q1) [] [] q2) (ksEnv qual sc L fI (.ref cda) cc)) ?_ ?he
  case he =>
    have e1 := fun ov => L2.mcall_line (o := .Call (.Name "super" q1) [] [] q2) (m := "__init__") (apos := q3) (pos := q5) (env := ksEnv qual sc L fI (.ref cda) cc) (ov := ov) (n := 1) (args := backTo q5 (starEach [.Constant (.str msg) kM q4] (ksEnv qual sc L fI (.ref cda) cc))) (kws := []) (by rfl) hl1
    show (attributeBase _ _ _ _ >>= fun ov => standAt q3.atName >>= fun _ => methodCall _ _ _ _ _ ov _ _ _) = _
    refine congrArg _ (funext fun ov => congrArg _ (funext fun _ => ?_))
    exact e1 ov
  refine ks_wpAt_super_base (env := ksEnv qual sc L fI (.ref cda) cc) hks hkc (by decide) rfl (X _ _ lf) rfl hp rfl (X _ _ lc) rfl hvs hfile htop ?_
  refine ks_loadName_global hk hks (loadGlobal_builtin (env := ksEnv qual sc L fI (.ref cda) cc) (M.glob.keeps kb) T.su (hb1.keeps kb) ((hb2 _ (by decide +kernel)).trans (by first | boot_by_name | rfl | kernel_rfl)) ⟨rfl, ?_⟩)
  refine wpAny_loadName_free hk hkc rfl ⟨_, X _ _ lcell, rfl⟩ ?_
  rw [har]
  refine wpAny_loadName_local hk hka hn hm ?_
  refine ks_wpAny_isType_cls hCh rfl ⟨rfl, ?_⟩
  obtain ⟨hh, g, d, t, os⟩ := s
  refine ks_wpAny_call_super hCh rfl J.at_ J.cls (fun c e => ?_) (looks_mroIn X hmC) (fun h1 e1 kk1 => ?_)
  · cases e
  have X1 : K.In h1 := X.keeps kk1
  have J1 : PySem.W.InstAt h1 x (excO C t0) C none := ⟨kk1 _ _ hx, rfl, rfl, trivial⟩
  have hI : Looks (model prog w) h1 (isInstance (.ref x) (.type B)) true := J1.type.andThen (looks_mroIn X1 hmB)
  have hxC : x ≠ C := ks_ne X J hcl
  refine kxs_getMethod Z.kx e1 (looks_opaque X1 T.th) (l₀ := .ref C :: .ref W :: bmB) ?_ rfl X1 (name := "__init__") ?_ hI hxC (by decide) ?_
  · exact fun A Q E s k q => wpAny_bind ((looks_clsIn X1 hcl) A _ E s k (wpAny_pure q))
  · have e0 : ((Value.ref C :: Value.ref W :: bmB).dropWhile (· != .ref C)).drop 1 = .ref W :: bmB := by simp [List.dropWhile_cons]
    rw [e0]
    exact T.al
  refine kxs_callWith (i := initId) (x := x) (by rfl) ?_
  show wpAny _ _ (evalArgs _ true ((false, eval (.Constant (.str msg) kM q4) (ksEnv qual sc L fI (.ref cda) cc)) :: []) []) _ _ _
  refine evalArgs_plain (spliced_cons (wpAny_Constant_str (spliced_nil ⟨Heap.get?_push_at rfl rfl, ?_⟩)))
  have up2 : ∀ b o, h1.get? b = some o → (h1.push (kxs_mw initId x)).get? b = some o := fun b o e => Heap.get?_push_of_some _ e
  refine wpAny_call (codeAny_of_tree ?_)
  show wpAny _ A.in1 (callAny (.ref _) ⟨[.str msg _], []⟩) _ _ _
  simp only [callAny]
  refine wpAny_bind (wpAny_load (Heap.get?_push_at rfl rfl) ?_)
  simp only [kxs_mw, show (Value.type "method-wrapper" == Value.type "method" || Value.type "method-wrapper" == Value.type "builtin_function_or_method" || Value.type "method-wrapper" == Value.type "method-wrapper") = true by decide, if_true]
  refine KFB.if_so (by decide) ?_
  refine wpAny_bind (check_bound_init Z.fb.toExcCallFacts (up2 _ _ (kk1 _ _ hCh)) (up2 _ _ (kk1 _ _ hx)) rfl ?_)
  refine wpAny_bind (wpAny_pure (wpAny_pure ?_))
  refine ⟨plainId_quiet Z.fb.init.plain _, codeAny_builtin Z.fb.initEntry ?_⟩
  refine exc_init_tree (cls := .ref C) (t0 := t0) (dv := none) (c2 := .none) (c3 := .none) (b4 := .bool false) (up2 _ _ (kk1 _ _ hx)) (by show 1 ≤ sizeLine; rw [sizeLine_eq]; omega) fun h2 k2' he' _ => ?_
  exact hq h2 _ _ (fun b o hb e => k2' b o hb (up2 _ _ (kk1 _ _ e))) he'
end
end Fx
set_option Elab.async false
set_option linter.all false
set_option maxRecDepth 100000
set_option maxHeartbeats 4000000
namespace Fx
open PySem PySem.W PySem.Calls PyProof.Rows PySem.HandSPX
open Builtin Builtin.ObjectAttr
/-- an error made: at x, its dict at dx with the one attribute -/
abbrev excD (C t : Addr) (dx : Option Addr) : Obj := { cls := .ref C, dict := dx, data := .fields #[.ref t, .none, .none, .none, .bool false, .none] }
theorem cellS1 (f : Str) : ∀ y ∈ (iS1 f).names, y.2 ≠ .cell := by
  intro y hy
  simp only [iS1, List.mem_cons, List.not_mem_nil, or_false] at hy
  rcases hy with rfl | rfl | rfl | rfl <;> exact fun z => nomatch z
theorem locS1 {f : Str} (hf : f = "given" ∨ f = "index") (a b : Value) : ∀ y ∈ [((Str.ofString "self" : Str), a), (f, b)], (iS1 f).names.lookup y.1 = some .local := by
  intro y hy
  simp only [List.mem_cons, List.not_mem_nil, or_false] at hy
  rcases hf with rfl | rfl <;> rcases hy with rfl | rfl <;> rfl
theorem cellS0 : ∀ y ∈ iS0.names, y.2 ≠ .cell := by
  intro y hy
  simp only [iS0, List.mem_cons, List.not_mem_nil, or_false] at hy
  rcases hy with rfl | rfl | rfl <;> exact fun z => nomatch z
theorem locS0 (a : Value) : ∀ y ∈ [((Str.ofString "self" : Str), a)], iS0.names.lookup y.1 = some .local := by
  intro y hy
  simp only [List.mem_cons, List.not_mem_nil, or_false] at hy
  subst hy
  rfl
section
variable {prog : Program} {w : World} {A : Around} {R : Result → Shared → Prop} {s : Shared} {B newId initId : String} {bmB : List Value} {K : Frag} {mg : Str → Option Value} {base : Heap} {C W fI : Addr}
theorem ldK {M : Model} {E : Value → Shared → Prop} {nm : Str} {sc : Scope} {L a cc : Addr} {cd : Value} {m : Str → Option Value} {y : Str} {pos : Pos} {v : Value} {Q : Value → Shared → Prop} (hn : s.heap.Ns L m) (hv : m y = some v) (h : Q v s)
    (hk : sc.kind = .function := by rfl) (hl : (ksEnv nm sc L a cd cc).kindOf y = some .local := by rfl) (hd : (y == ("__debug__" : Str)) = false := by decide) : wpAny M A (PySem.eval (.Name y pos) (ksEnv nm sc L a cd cc)) Q E s :=
  wpAny_Name (wpAny_loadName_local hk hl hn hv h) hd
theorem init1 (Z : Root B newId initId bmB) (T : ErrT K mg newId initId bmB C W fI) (M : L2.Mod K mg base) (kb : ∀ b o, base.get? b = some o → s.heap.get? b = some o) {f : Str} (hf : f = "given" ∨ f = "index") (noF : findIn K (.ref C) f = some none)
    (N : Fn1 prog K C fI f) {x t0 : Addr} {v : Value} {args : Args} (hb : args = ⟨[.ref x, v], []⟩ ∨ args = ⟨[.ref x], [(f, v)]⟩) (hx : s.heap.get? x = some (excO C t0)) (hnx : base.get? x = none) (hroom : A.depth < recursionLimit)
    (hq : ∀ h' tk dx t1, (∀ b o, b ≠ x → s.heap.get? b = some o → h'.get? b = some o) → h'.get? x = some (excD C t1 (some dx)) → s.heap.objs.size ≤ dx → dx ≠ x → h'.Ns1 dx (fun y => if y = f then some v else none) → R (.ok (.ret .none)) { s with heap := h', toks := tk }) :
    codeAny (model prog w) A (.call (.ref fI) args) R s := by
  obtain ⟨oc, od, qual, msg, kM, kV, doc, pm, an, cda, cc, ct, osl, p1, p2, q1, q2, q3, q4, q5, q6, r1, r2, r3, r4, vs, file, tf, ccl, cl, cdd, cld, ccs, csl, lf, lcd, lc, hvs, hfile, lcell, htop, hl1⟩ := N
  obtain ⟨nm, q, N, bs, sn, sub, ab, col, dd, k0, k1, k2, k3, k5, hC⟩ := T.cls
  have X : K.In s.heap := M.kin.keeps kb
  have hcl : clsIn K C = some { name := nm, bases := bs, mro := .ref C :: .ref W :: bmB, ns := N, qualname := q, hasDict := true, slotNames := sn, subclasses := sub, abstract := ab, collection := col, hasDel := false } := by unfold clsIn; rw [hC] <;> rfl
  rcases hf with rfl | rfl
  all_goals
    refine ks_codeAny_call_defAt (fd := ksFn "__init__" qual (iA1 _ p1 p2) [iSup msg kM q1 q2 q3 q4 q5 q6, iSet _ r1 r2 r3 r4] (iS1 _) .none kV doc pm an (.ref cda) ct cc) (body := [iSup msg kM q1 q2 q3 q4 q5 q6, iSet _ r1 r2 r3 r4]) (binds := [("self", .ref x), (_, v)]) hroom (X _ _ lf) rfl (M.nolimit.keeps kb) (codeRec_of X lcd) rfl (by rcases hb with rfl | rfl <;> exact .of_eq rfl) (cellS1 _) (locS1 (by first | exact .inl rfl | exact .inr rfl) _ _) (fun h₁ hns hk₁ => ?_) rfl rfl rfl
    refine ks_wpAt_execs_cons (sup_stmt Z T M (fun b o e => hk₁ b o (kb b o e)) lf rfl rfl lc hvs hfile lcell htop rfl rfl rfl hl1 rfl rfl hns (m := fun y => [((PySem.Str.ofString "self" : Str), Value.ref x), (_, v)].reverse.lookup y) (by rfl) (hk₁ _ _ hx) fun h₂ tk₂ t2 k₂ e₂ => ?_)
    refine wpAt_of_wpAny ?_
    have xL : s.heap.objs.size ≠ x := Nat.ne_of_gt (Heap.lt_size hx)
    have hns2 := hns
    obtain ⟨oL, es, ep, hL, rL⟩ := hns2
    have hns' : h₂.Ns s.heap.objs.size (fun y => [((PySem.Str.ofString "self" : Str), Value.ref x), (_, v)].reverse.lookup y) := ⟨oL, es, ep, k₂ _ _ xL hL, rL⟩
    have X₂ : K.In h₂ := fun b o e => k₂ b o (fun z => by
      have y := M.kin b o e
      rw [z, hnx] at y
      cases y) (hk₁ b o (X b o e))
    refine wpAny_execs_cons (plainObj_wpAny_Assign_Attribute ?_)
    refine ldK (v := v) hns' (by rfl) (ldK (v := .ref x) hns' (by rfl) ?_)
    refine set_plain X₂ (ox := excO C t2) (od := none) ⟨e₂, rfl, rfl, trivial⟩ T.sa ?_
    refine osa Z X₂ e₂ hcl rfl rfl noF fun h₃ tk₃ dx k₃ dn dne hx₃ hn₃ => ?_
    show wpAny _ _ (execs _ _) _ _ _
    refine wpAny_execs_nil (hq h₃ tk₃ dx t2 (fun b o hb e => k₃ b o hb (k₂ b o hb (hk₁ b o e))) hx₃ ?_ dne hn₃)
    exact Nat.le_trans (Nat.le_of_lt hns'.lt) dn
end
end Fx
set_option Elab.async false
set_option linter.all false
set_option maxRecDepth 100000
set_option maxHeartbeats 4000000
namespace Fx
open PySem PySem.W PySem.Calls PyProof.Rows PySem.HandSPX
open Builtin Builtin.ObjectAttr
/-! a class of errors called, with any positional and keyword arguments -/
section
variable {M : Model} {A : Around} {E : Value → Shared → Prop} {g0 : Heap} {gs : Array GenState} {dr : Drawn} {tk0 : Nat} {oz : OsState}
variable {nm qn : Str} {C N : Addr} {bs bm bmB : List Value} {hdct : Bool} {sn : List Str} {sub : List Value} {ab : Bool} {col : Option Bool} {dd : Option Addr} {k0 k1 k2 k3 k5 : Option Value} {B newId initId : String}
theorem kw_check (F : ExcBaseFacts B newId initId bmB) (hT : ∀ y : String, bm.contains (.type y) = bmB.contains (.type y)) {rest : List Value} {kw : List (Str × Value)} {Q : Unit → Shared → Prop}
    (hC : g0.get? C = some (excClassObj nm qn C N bs bm hdct sn sub ab col dd k0 k1 k2 k3 k5 newId)) (hq : Q () ⟨g0, gs, dr, tk0, oz⟩) : wpAny M A (checkBuiltinCall newId ⟨.ref C :: rest, kw⟩) Q E ⟨g0, gs, dr, tk0, oz⟩ := by
  have hB : (Value.ref C :: bm).contains (.type B) = true := by
    rw [List.contains_cons, hT, F.hasB, Bool.or_true]
  have hns := F.noStar
  simp only [checkBuiltinCall, F.newKind, F.newSplit, F.newRow]
  repeat (first | refine wpAny_loadPart_at hC ?_ | (refine wpAny_isSubtype_exc hC ?_; rw [hB]) | refine wpAny_staticBase_exc hC ?_ | refine wpAny_madeBy_exc hC ?_ | simp only [bne_self_eq_false, Bool.false_eq_true, if_false] | wp_step)
  first
    | exact hq
    | skip
end
section
variable {prog : Program} {w : World} {A : Around} {E : Value → Shared → Prop} {R : Result → Shared → Prop} {g0 : Heap} {gs : Array GenState} {dr : Drawn} {tk0 : Nat} {oz : OsState}
variable {nm qn : Str} {C N : Addr} {bs bm bmB : List Value} {hdct : Bool} {sn : List Str} {sub : List Value} {ab : Bool} {col : Option Bool} {dd : Option Addr} {k0 k1 k2 k3 k5 : Option Value} {B newId initId : String}
theorem kw_new (F : ExcBaseFacts B newId initId bmB) (hT : ∀ y : String, bm.contains (.type y) = bmB.contains (.type y)) {rest : List Value} {kw : List (Str × Value)}
    (hC : g0.get? C = some (excClassObj nm qn C N bs bm hdct sn sub ab col dd k0 k1 k2 k3 k5 newId))
    (hq : R (.ok (.ret (.ref (g0.objs.size + 1)))) ⟨(g0.push (kdv_tup rest)).push (excO C g0.objs.size), gs, dr, tk0, oz⟩) (hz : rest.length ≤ sizeLine) :
    codeAny (model prog w) A (.builtin newId ⟨.ref C :: rest, kw⟩) R ⟨g0, gs, dr, tk0, oz⟩ := by
  have he := F.ends
  have hB : (Value.ref C :: bm).contains (.type B) = true := by
    rw [List.contains_cons, hT, F.hasB, Bool.or_true]
  have hA : (Value.ref C :: bm).contains (.type "AttributeError") = false := by
    rw [List.contains_cons, hT, F.noAttr]
    rfl
  have hN : (Value.ref C :: bm).contains (.type "NameError") = false := by
    rw [List.contains_cons, hT, F.noName]
    rfl
  refine codeAny_builtinAt F.entry ?_
  unfold Builtin.«BaseException.__new__»
  refine _root_.PySem.wpAt_bind ?_
  show _root_.PySem.wpAt _ _ _ (stack >>= _) _ _ _
  refine _root_.PySem.wpAt_bind (_root_.PySem.wpAt_stack fun p below => _root_.PySem.wpAt_of_wpAny ?_)
  wp_walk
  refine _root_.PySem.wpAt_of_wpAny ?_
  rw [F.owner]
  repeat (first | with_reducible refine wpAny_madeHere_exc F.canon hC ?_ | with_reducible refine wpAny_loadPart_at hC ?_ | (with_reducible refine wpAny_isSubtype_exc hC ?_; first | rw [hB] | rw [hA] | rw [hN]) | wp_step)
  show R _ _
  rw [Heap.size_push]
  exact hq
theorem kw_type (F : ExcBaseFacts B newId initId bmB) (hT : ∀ y : String, bm.contains (.type y) = bmB.contains (.type y)) {rest : List Value} {kw : List (Str × Value)} {fI : Addr} {Q : Fin → Shared → Prop}
    (hC : g0.get? C = some (excClassObj nm qn C N bs bm hdct sn sub ab col dd k0 k1 k2 k3 k5 newId))
    (hi : Looks (model prog w) g0 (typeLookup (.ref C) "__init__") (some (.ref fI))) (hb : ∀ self, Looks (model prog w) g0 (bindSpecial (.ref fI) self) (.ref fI, [self])) (hz : rest.length ≤ sizeLine)
    (hq : codeAny (model prog w) A (.call (.ref fI) ⟨.ref (g0.objs.size + 1) :: rest, kw⟩)
      (fun r s' => match r with | .ok (.ret v) => v = .none ∧ Q (.done (.ret (.ref (g0.objs.size + 1)))) s' | .ok _ => False | .error e => E e s')
      ⟨(g0.push (kdv_tup rest)).push (excO C g0.objs.size), gs, dr, tk0, oz⟩) :
    wpAny (model prog w) A (Builtin.«type.__call__» ⟨.ref C :: rest, kw⟩) Q E ⟨g0, gs, dr, tk0, oz⟩ := by
  repeat (first | with_reducible refine wpAny_loadPart_at hC ?_ | with_reducible refine wpAny_madeBy_exc hC ?_ | wp_step)
  refine codeAny_call_builtin_code (Code.quiet_builtin _ F.quiet) (kw_check F hT hC ?_)
  refine kw_new F hT hC ?_ hz
  show wpAny _ _ _ _ _ _
  have k : ∀ b o, g0.get? b = some o → ((g0.push (kdv_tup rest)).push (excO C g0.objs.size)).get? b = some o := fun b o e => Heap.get?_push_of_some _ (Heap.get?_push_of_some _ e)
  have hC₁ := k _ _ hC
  have hget : ((g0.push (kdv_tup rest)).push (excO C g0.objs.size)).get? (g0.objs.size + 1) = some (excO C g0.objs.size) := by heap_get
  have hCC : (Value.ref C :: bm).contains (.ref C) = true := by simp
  have i1 := hi.keeps k
  have b1 := (hb (.ref (g0.objs.size + 1))).keeps k
  unfold isInstance
  repeat (first | with_reducible refine wpAny_loadPart_at hget ?_ | (with_reducible refine wpAny_isSubtype_exc hC₁ ?_; rw [hCC]) | wp_step)
  show wpAny _ _ (typeLookup (.ref C) _) _ _ _
  refine i1.at ?_
  refine wpAny_holding (wpAny_bind (b1.at ?_))
  refine wpAny_bind (wpAny_call (codeAny_mono hq fun r s' z => ?_))
  rcases r with e | (v | _ | _ | _) <;> first | exact z | exact z.elim | skip
  obtain ⟨rfl, z⟩ := z
  first
    | exact wpAny_pure (wpAny_pure z)
    | (wp_walk; exact z)
theorem kw_call (F : ExcBaseFacts B newId initId bmB) (hT : ∀ y : String, bm.contains (.type y) = bmB.contains (.type y)) {rest : List Value} {kw : List (Str × Value)} {fI : Addr}
    (hC : g0.get? C = some (excClassObj nm qn C N bs bm hdct sn sub ab col dd k0 k1 k2 k3 k5 newId))
    (hi : Looks (model prog w) g0 (typeLookup (.ref C) "__init__") (some (.ref fI))) (hb : ∀ self, Looks (model prog w) g0 (bindSpecial (.ref fI) self) (.ref fI, [self])) (hz : rest.length ≤ sizeLine)
    (hq : codeAny (model prog w) (A.under (.builtin "type.__call__" ⟨.ref C :: rest, kw⟩)) (.call (.ref fI) ⟨.ref (g0.objs.size + 1) :: rest, kw⟩) (InitBack (g0.objs.size + 1) R)
      ⟨(g0.push (kdv_tup rest)).push (excO C g0.objs.size), gs, dr, tk0, oz⟩) :
    codeAny (model prog w) A (.call (.ref C) ⟨rest, kw⟩) R ⟨g0, gs, dr, tk0, oz⟩ := by
  have f1 := tc_lookup
  have f2 := tc_bind (.ref C)
  have hTy : (⟨g0, gs, dr, tk0, oz⟩ : Shared).TypeIs (.ref C) "type" := ⟨_, hC, rfl⟩
  refine codeAny_of_tree ?_
  show wpAny _ _ (callAny (.ref C) _) _ _ _
  repeat (any_goals (first | assumption | with_reducible refine wpAny_loadPart_at hC ?_ | wp_step))
  refine ⟨rfl, ?_⟩
  refine codeAny_call_builtin_at (Code.quiet_builtin _ (by decide +kernel)) entry_typeCall (wpAny_check_type_call_sub hC (kw_type F hT hC hi hb hz ?_))
  refine codeAny_mono hq fun r s' z => ?_
  rcases r with e | (v | _ | _ | _) <;> exact z
end
end Fx
set_option Elab.async false
set_option linter.all false
set_option maxRecDepth 100000
set_option maxHeartbeats 4000000
namespace Fx
open PySem L2
open PySem.W (Frag)
/-- what the walk asks of a class of errors with one attribute f -/
structure Err1 (prog : Program) (K : Frag) (mg : Str → Option Value) (newId initId : String) (bmB : List Value) (C W fI : Addr) (f : Str) : Prop where
  t : ErrT K mg newId initId bmB C W fI
  n : Fn1 prog K C fI f
  no : PySem.W.findIn K (.ref C) f = some none
  ff : f = "given" ∨ f = "index"
section
variable {X : Cx} {pins : List (Addr × Obj)} {σ : St} {H : Hp} {s : Shared} {B newId initId : String} {bmB : List Value} {C W fI : Addr} {f : Str} {k : Nat}
theorem hT_of (Z : Root B newId initId bmB) (W : Addr) : ∀ y : String, (Value.ref W :: bmB).contains (.type y) = bmB.contains (.type y) := fun y => by
  rw [List.contains_cons]
  rfl
/-- what stands new: the error at a, its dict at d -/
theorem err_laid (I : Inv X pins σ H s) {h' : Heap} {a d t1 : Addr} {mA : Str → Option Value} {fs : List (Str × V)} {tk : Nat} (k : ∀ b o, s.heap.get? b = some o → h'.get? b = some o) (ha : s.heap.objs.size ≤ a) (hd : s.heap.objs.size ≤ d) (ne : d ≠ a)
    (ea : h'.get? a = some (excD C t1 (some d))) (ed : h'.Ns1 d mA) (rel : ∀ g, RelO (fs.lookup g) (mA g)) :
    H a = none ∧ H d = none ∧ Inv X pins σ (upd (upd H d (exd d fs)) a (exo a C (some d))) { s with heap := h', toks := tk } := by
  have na : H a = none := I.hok.fresh ha
  have nd : H d = none := I.hok.fresh hd
  have la : ∀ {b : Addr} {o : Obj}, s.heap.get? b = some o → b ≠ a := fun {b o} q => Nat.ne_of_lt (Nat.lt_of_lt_of_le (Heap.lt_size q) ha)
  have ld : ∀ {b : Addr} {o : Obj}, s.heap.get? b = some o → b ≠ d := fun {b o} q => Nat.ne_of_lt (Nat.lt_of_lt_of_le (Heap.lt_size q) hd)
  have up : ∀ {b : Addr}, b ≠ a → b ≠ d → (upd (upd H d (exd d fs)) a (exo a C (some d))) b = H b := fun {b} h1 h2 => by
    rw [upd_ne h1, upd_ne h2]
  have us : ∀ {b : Addr} {o : HO}, H b = some o → (upd (upd H d (exd d fs)) a (exo a C (some d))) b = some o := fun {b o} q => by
    rw [up (ne_of_none q na) (ne_of_none q nd)]
    exact q
  refine ⟨na, nd, I.un (t' := tk) ⟨fun b o q _ _ _ => k b o q, fun b o q _ _ _ => ⟨o.slots, k b o q⟩, fun b o q n _ => ?_, fun b o q _ => ⟨o, k b o q⟩, fun b xs q => us q, fun b o v q => us q, fun b ps q => ⟨#[], by rw [us q]; simp⟩⟩ fun b o q => ?_⟩
  · rw [up (la q) (ld q)]
    exact n
  · by_cases h1 : b = a
    · subst h1
      rw [upd_same] at q
      cases q
      exact exo_ok ea
    · rw [upd_ne h1] at q
      by_cases h2 : b = d
      · subst h2
        rw [upd_same] at q
        cases q
        exact exd_ok ed rel
      · rw [upd_ne h2] at q
        exact (I.hok b o q).stay (fun c v _ z => k c v z) (fun c z => us z) fun c xs z => us z
theorem run_err (Z : Root B newId initId bmB) (T : Err1 X.prog X.K X.mg newId initId bmB C W fI f) (hr : Room (k + 1) X.A) (I : Inv X pins σ H s) {y : V} {u : Value} (ry : RelV y u) {pos : List Value} {kw : List (Str × Value)}
    (ha : (pos = [u] ∧ kw = []) ∨ (pos = [] ∧ kw = [(f, u)])) {Q : VK} (h : ∀ a d, H a = none → H d = none → d ≠ a → Q (.ref a) (upd (upd H d (exd d [(f, y)])) a (exo a C (some d)))) :
    wpAny (model X.prog X.w) X.A (call (.ref C) pos kw) (EP X pins σ Q) X.xe s := by
  obtain ⟨nm, q, N, bs, sn, sub, ab, col, dd, k0, k1, k2, k3, k5, hC⟩ := T.t.cls
  obtain ⟨hp, g, dr, tk, os⟩ := s
  have kk : ∀ b o, hp.get? b = some o → ((hp.push (PySem.W.kdv_tup pos)).push (PySem.HandSPX.excO C hp.objs.size)).get? b = some o := fun b o e => Heap.get?_push_of_some _ (Heap.get?_push_of_some _ e)
  have hget : ((hp.push (PySem.W.kdv_tup pos)).push (PySem.HandSPX.excO C hp.objs.size)).get? (hp.objs.size + 1) = some (PySem.HandSPX.excO C hp.objs.size) := by heap_get
  have hz : pos.length ≤ sizeLine := by
    rw [sizeLine_eq]
    rcases ha with ⟨rfl, _⟩ | ⟨rfl, _⟩
    · show 1 ≤ 16777216
      decide
    · show 0 ≤ 16777216
      decide
  have nb : X.base.get? (hp.objs.size + 1) = none := by
    cases e : X.base.get? (hp.objs.size + 1) with
    | none => rfl
    | some o =>
      have z : hp.get? (hp.objs.size + 1) = some o := I.bk _ _ e
      exact absurd (Nat.lt_of_succ_lt (Heap.lt_size z)) (Nat.lt_irrefl _)
  have args : (Args.mk (Value.ref (hp.objs.size + 1) :: pos) kw) = ⟨[.ref (hp.objs.size + 1), u], []⟩ ∨ (Args.mk (Value.ref (hp.objs.size + 1) :: pos) kw) = ⟨[.ref (hp.objs.size + 1)], [(f, u)]⟩ := by
    rcases ha with ⟨rfl, rfl⟩ | ⟨rfl, rfl⟩
    · exact .inl rfl
    · exact .inr rfl
  refine wpAny_call (kw_call Z.fb (hT_of Z W) (I.kIn _ _ hC) (PySem.W.looks_findIn I.kIn T.t.iC) (fun self => PySem.W.bind_fn I.kIn self T.t.tI) hz ?_)
  refine init1 (s := ⟨(hp.push (PySem.W.kdv_tup pos)).push (PySem.HandSPX.excO C hp.objs.size), g, dr, tk, os⟩) Z T.t I.ok.mod (fun b o e => kk b o (I.bk b o e)) T.ff T.no T.n args hget nb ?_ fun h' tk' dx t1 k1 e1 dn dne hn => ?_
  · rw [make_depth]
    have := hr.dp
    omega
  · have old : ∀ b o, hp.get? b = some o → h'.get? b = some o := fun b o e => k1 b o (Nat.ne_of_lt (Nat.lt_succ_of_lt (Heap.lt_size e))) (kk b o e)
    have sz : hp.objs.size ≤ dx := by
      have z : ((hp.push (PySem.W.kdv_tup pos)).push (PySem.HandSPX.excO C hp.objs.size)).objs.size ≤ dx := dn
      rw [Heap.size_push, Heap.size_push] at z
      omega
    obtain ⟨na, nd, J⟩ := err_laid (fs := [(f, y)]) (tk := tk') I old (Nat.le_succ _) sz dne e1 hn (relO_put (fs := []) (mA := fun _ => none) ry fun g => True.intro)
    exact ⟨rfl, .ref (hp.objs.size + 1), _, J, rfl, h _ _ na nd dne⟩
end
end Fx
set_option Elab.async false
set_option linter.all false
set_option maxRecDepth 100000
set_option maxHeartbeats 4000000
namespace Fx
open PySem L2
open PySem.W (Frag)
section
variable {X : Cx} {pins : List (Addr × Obj)} {σ : St} {H : Hp} {s : Shared} {B newId initId : String} {bmB : List Value} {C W fI : Addr} {f : Str} {k : Nat} {x : Str} {p pos kpos : Pos} {e : Expr} {te : TE}
/-- C(e), C(f=e): a new error at a, its dict at d -/
def tErr (C : Addr) (f : Str) (te : TE) : TE := fun σ H Q => te σ H fun y H1 => ∀ a d, H1 a = none → H1 d = none → d ≠ a → Q (.ref a) (upd (upd H1 d (exd d [(f, y)])) a (exo a C (some d)))
theorem pe_err (Z : Root B newId initId bmB) (T : Err1 X.prog X.K X.mg newId initId bmB C W fI f) (hr : Room (k + 1) X.A) (gC : X.mg x = some (.ref C)) (hg : Gl X x) (he : PE X e te) (hs : starEach [e] X.env = (false, eval e X.env) :: starEach [] X.env := by rfl)
    (hdb : (x == ("__debug__" : Str)) = false := by decide) : PE X (.Call (.Name x p) [e] [] pos) (tErr C f te) := by
  refine ⟨fun pins s σ H Q I h => ?_⟩
  refine wpAny_Call_Name_kw (ld_glob I hg gC ?_ hdb)
  refine PySem.W.callWith_K (h₀ := X.base) I.ok.mod.kin T.t.kC ?_ hs (by rfl)
  rw [hs]
  show wpAny _ _ (spliced ((false, eval e X.env) :: backTo pos (starEach [] X.env))) _ _ s
  refine Calls.spliced_cons (thn (he.run pins s σ H _ I h) fun u s1 ⟨y, H1, I1, r1, q1⟩ => ?_)
  refine Calls.spliced_nil ⟨I1.kIn, ?_⟩
  exact run_err Z T hr I1 r1 (.inl ⟨rfl, rfl⟩) q1
theorem pe_errK (Z : Root B newId initId bmB) (T : Err1 X.prog X.K X.mg newId initId bmB C W fI f) (hr : Room (k + 1) X.A) (gC : X.mg x = some (.ref C)) (hg : Gl X x) (he : PE X e te)
    (hdb : (x == ("__debug__" : Str)) = false := by decide) : PE X (.Call (.Name x p) [] [⟨some f, e, kpos⟩] pos) (tErr C f te) := by
  refine ⟨fun pins s σ H Q I h => ?_⟩
  refine wpAny_Call_Name_kw (ld_glob I hg gC ?_ hdb)
  refine PySem.W.callWith_KW0 (h₀ := X.base) I.ok.mod.kin T.t.kC (by rfl) ?_ (by rfl)
  have hk : PK X [⟨some f, e, kpos⟩] (tCons te tNil) := pk_cons he pk_nil
  refine thn (hk.run pos pins s σ H (fun vs H1 => match vs with | [y] => ∀ a d, H1 a = none → H1 d = none → d ≠ a → Q (.ref a) (upd (upd H1 d (exd d [(f, y)])) a (exo a C (some d))) | _ => False) I h) fun us s1 ⟨vs, H1, I1, r1, q1⟩ => ⟨I1.kIn, ?_⟩
  cases r1 with
  | nil => exact q1.elim
  | cons ry rn =>
    cases rn with
    | nil => exact run_err Z T hr I1 ry (.inr ⟨rfl, rfl⟩) q1
    | cons r2 rn => exact q1.elim
end
/-- an error stands at a -/
def IsE (H : Hp) (a C : Addr) : Prop := (∃ dd fs, H a = some (exo a C (some dd)) ∧ H dd = some (exd dd fs)) ∨ H a = some (exo a C none) ∨ H a = some (ExO (.ref C) a)
/-- what the class says, so that isinstance asks its errors rightly -/
structure IsC (K : Frag) (C : Addr) : Prop where
  cl : (PySem.W.clsIn K C).isSome = true
  ga : PySem.W.findIn K (.ref C) "__getattribute__" = some (some (.builtin "BaseException.__getattribute__"))
  gg : PySem.W.findIn K (.ref C) "__getattr__" = some none
  ex : PySem.W.subIn K (.ref C) (.type "BaseException") = some true
  ha : PySem.W.findIn K (.ref C) "__class__" = some (some (.builtin "object.__class__"))
  hn : PySem.W.specialIn K (.builtin "object.__class__") "__get__" = some (some (.builtin "getset_descriptor.__get__"))
  ht : PySem.W.takesIn K (.builtin "object.__class__") = some true
  hm : PySem.W.mroIn K C (.type "object") = some true
section
variable {X : Cx} {pins : List (Addr × Obj)} {σ : St} {H : Hp} {s : Shared} {a C : Addr}
theorem isE_inst (I : Inv X pins σ H s) (h : IsE H a C) : ∃ ox od, PySem.W.InstAt s.heap a ox C od := by
  rcases h with ⟨dd, fs, h1, h2⟩ | h1 | h1
  · obtain ⟨t1, e1⟩ := exo_at I.hok h1
    obtain ⟨mA, ⟨od, es, ep, e2, _⟩, _⟩ := exd_at I.hok h2
    exact ⟨_, some od, e1, rfl, rfl, e2⟩
  · obtain ⟨t1, e1⟩ := exo_at I.hok h1
    exact ⟨_, none, e1, rfl, rfl, trivial⟩
  · have z : ObjOk X.prog X.w H s.heap a (ExO (.ref C) a) := I.hok a _ h1
    obtain ⟨⟨oe, vs, ho, hz, hd, _⟩, _, _⟩ := z
    obtain ⟨oc, od, oda, osl⟩ := oe
    obtain ⟨z1, z2⟩ := hz
    dsimp only at z1 z2 hd
    subst z1 z2 hd
    exact ⟨_, none, ho, rfl, rfl, trivial⟩
/-- isinstance(e, c), e an error -/
def rIsE (K : Frag) : List V → Hp → VK → Prop := fun xs H Q => ∃ (a C : Addr) (c : V) (u : Value) (b : Bool), xs = [.ref a, c] ∧ ClsV c u ∧ IsE H a C ∧ IsC K C ∧ PySem.W.kitOne K (.ref C) u = some b ∧ Q (.bl b) H
theorem call_isE {X : Cx} : CallR X (.builtin "isinstance") (rIsE X.K) := by
  intro pins s σ H xs us Q I r h
  obtain ⟨a, C, c, u, b, rfl, kc, ie, T, e, q⟩ := h
  obtain ⟨u1, u2, rfl, r1, r2⟩ := vals2 r
  have e2 := kc.eq r2
  subst e2
  cases (show u1 = Value.ref a from r1)
  obtain ⟨ox, od, J⟩ := isE_inst I ie
  exact PySem.W.kia_one (PySem.W.kitx_exc (gt := none) T.cl T.ga T.gg T.ex T.ha T.hn T.ht T.hm) I.kIn J e (fun z => nomatch z) fun tk => ⟨.bl b, H, I.tok tk, rfl, q⟩
/-- e.f, e an error with a dict -/
def tEf (K : Frag) (f : Str) (te : TE) : TE := fun σ H Q => te σ H fun x H1 => ∃ (a C dd : Addr) (fs : List (Str × V)) (v : V), x = .ref a ∧ H1 a = some (exo a C (some dd)) ∧ H1 dd = some (exd dd fs) ∧ fs.lookup f = some v ∧ XfC K C ∧ PySem.W.findIn K (.ref C) f = some none ∧ Q v H1
theorem pe_ef {X : Cx} {e : Expr} {te : TE} {pos : Pos} {n : Str} (he : PE X e te) (hb : attributeBase e n X.env (eval e X.env) = eval e X.env := by rfl) : PE X (.Attribute e n pos) (tEf X.K n te) := by
  refine ⟨fun pins s σ H Q I h => ?_⟩
  refine attr_of hb (thn (he.run pins s σ H _ I h) fun u s1 hh => ?_)
  obtain ⟨x, H1, I1, rx, a, C, dd, fs, v, ex, ea, ed, l, T, hno, q⟩ := hh
  subst ex
  obtain rfl : u = Value.ref a := rx
  obtain ⟨t1, e1⟩ := exo_at I1.hok ea
  obtain ⟨mA, hns, hr⟩ := exd_at I1.hok ed
  obtain ⟨od, ho, hl⟩ := lookIn_ns hns
  obtain ⟨u, hu, ru⟩ := RelO.some_of (v := v) (o := mA n) (by rw [← l]; exact hr n)
  have J : PySem.W.InstAt s1.heap a _ C (some od) := ⟨e1, rfl, rfl, ho⟩
  exact HandSPX.exc_get I1.kIn J T.ga T.gg T.exC (PySem.W.findObj_own T.hdC hno rfl (by rw [hl, hu])) (handed_of ru) ⟨v, H1, I1.tok _, ru, q⟩
end
end Fx
set_option Elab.async false
set_option linter.all false
set_option maxRecDepth 100000
set_option maxHeartbeats 4000000
namespace Fx
open PySem PySem.W PySem.Calls PyProof.Rows PySem.HandSPX
open Builtin Builtin.ObjectAttr
/-- an __init__ without parameters -/
def Fn0 (prog : Program) (K : Frag) (C fI : Addr) : Prop := ∃ (oc : Value) (od : Option Addr) (qual msg : Str) (kM : Nat) (kV doc pm : Value) (an : Option Addr) (cda cc : Addr) (ct : Value) (osl : Array (Option Value)) (p1 q1 q2 q3 q4 q5 q6 : Pos) (vs : Array Value) (file : Str) (tf : Tok) (ccl cl : Value) (cdd cld : Option Addr) (ccs csl : Array (Option Value)),
    K.lookup fI = some ⟨oc, od, .func (ksFn "__init__" qual (iA0 p1) [iSup msg kM q1 q2 q3 q4 q5 q6] iS0 .none kV doc pm an (.ref cda) ct cc), osl⟩ ∧ codeIn K (.ref cda) qual = true ∧
    K.lookup cda = some ⟨ccl, cdd, .fields vs, ccs⟩ ∧ vs[2]? = some (.str file tf) ∧ ((prog.main.file : Str) == file) = true ∧ K.lookup cc = some ⟨cl, cld, .cell (some (.ref C)), csl⟩ ∧ (prog.main.scope.names.lookup ("super" : Str)).isSome = false ∧ (q3.endLine == q5.line) = true
section
variable {prog : Program} {w : World} {A : Around} {R : Result → Shared → Prop} {s : Shared} {B newId initId : String} {bmB : List Value} {K : Frag} {mg : Str → Option Value} {base : Heap} {C W fI : Addr}
theorem init0 (Z : Root B newId initId bmB) (T : ErrT K mg newId initId bmB C W fI) (M : L2.Mod K mg base) (kb : ∀ b o, base.get? b = some o → s.heap.get? b = some o)
    (N : Fn0 prog K C fI) {x t0 : Addr} (hx : s.heap.get? x = some (excO C t0)) (hroom : A.depth < recursionLimit)
    (hq : ∀ h' tk t1, (∀ b o, b ≠ x → s.heap.get? b = some o → h'.get? b = some o) → h'.get? x = some (excD C t1 none) → R (.ok (.ret .none)) { s with heap := h', toks := tk }) :
    codeAny (model prog w) A (.call (.ref fI) ⟨[.ref x], []⟩) R s := by
  obtain ⟨oc, od, qual, msg, kM, kV, doc, pm, an, cda, cc, ct, osl, p1, q1, q2, q3, q4, q5, q6, vs, file, tf, ccl, cl, cdd, cld, ccs, csl, lf, lcd, lc, hvs, hfile, lcell, htop, hl1⟩ := N
  have X : K.In s.heap := M.kin.keeps kb
  refine ks_codeAny_call_defAt (fd := ksFn "__init__" qual (iA0 p1) [iSup msg kM q1 q2 q3 q4 q5 q6] iS0 .none kV doc pm an (.ref cda) ct cc) (body := [iSup msg kM q1 q2 q3 q4 q5 q6]) (binds := [("self", .ref x)]) hroom (X _ _ lf) rfl (M.nolimit.keeps kb) (codeRec_of X lcd) rfl (.of_eq rfl) cellS0 (locS0 _) (fun h₁ hns hk₁ => ?_) rfl rfl rfl
  refine ks_wpAt_execs_cons (sup_stmt Z T M (fun b o e => hk₁ b o (kb b o e)) lf rfl rfl lc hvs hfile lcell htop rfl rfl rfl hl1 rfl rfl hns (m := fun y => [((PySem.Str.ofString "self" : Str), Value.ref x)].reverse.lookup y) (by rfl) (hk₁ _ _ hx) fun h₂ tk₂ t2 k₂ e₂ => ?_)
  refine _root_.PySem.wpAt_of_wpAny ?_
  exact wpAny_execs_nil (hq h₂ tk₂ t2 (fun b o hb e => k₂ b o hb (hk₁ b o e)) e₂)
end
end Fx
namespace Fx
open PySem L2
open PySem.W (Frag)
section
variable {X : Cx} {pins : List (Addr × Obj)} {σ : St} {H : Hp} {s : Shared} {B newId initId : String} {bmB : List Value} {C W fI : Addr} {k : Nat} {x : Str} {p pos : Pos}
/-- C(), C's __init__ without parameters -/
theorem pe_err0 (Z : Root B newId initId bmB) (T : ErrT X.K X.mg newId initId bmB C W fI) (N : Fn0 X.prog X.K C fI) (hr : Room (k + 1) X.A) (gC : X.mg x = some (.ref C)) (hg : Gl X x)
    (hdb : (x == ("__debug__" : Str)) = false := by decide) : PE X (.Call (.Name x p) [] [] pos) (fun σ H Q => ∀ a, H a = none → Q (.ref a) (upd H a (exo a C none))) := by
  refine ⟨fun pins s σ H Q I h => ?_⟩
  refine wpAny_Call_Name_kw (ld_glob I hg gC ?_ hdb)
  refine PySem.W.callWith_K0 I.kIn T.kC ?_
  obtain ⟨nm, q, N', bs, sn, sub, ab, col, dd, k0, k1, k2, k3, k5, hC⟩ := T.cls
  obtain ⟨hp, g, dr, tk, os⟩ := s
  have kk : ∀ b o, hp.get? b = some o → ((hp.push (PySem.W.kdv_tup [])).push (PySem.HandSPX.excO C hp.objs.size)).get? b = some o := fun b o e => Heap.get?_push_of_some _ (Heap.get?_push_of_some _ e)
  have hget : ((hp.push (PySem.W.kdv_tup [])).push (PySem.HandSPX.excO C hp.objs.size)).get? (hp.objs.size + 1) = some (PySem.HandSPX.excO C hp.objs.size) := by heap_get
  show wpAny _ _ (call (.ref C) []) _ _ _
  refine wpAny_call (kw_call Z.fb (hT_of Z W) (I.kIn _ _ hC) (PySem.W.looks_findIn I.kIn T.iC) (fun self => PySem.W.bind_fn I.kIn self T.tI) (by show 0 ≤ sizeLine; exact Nat.zero_le _) ?_)
  refine init0 (s := ⟨(hp.push (PySem.W.kdv_tup [])).push (PySem.HandSPX.excO C hp.objs.size), g, dr, tk, os⟩) Z T I.ok.mod (fun b o e => kk b o (I.bk b o e)) N hget ?_ fun h' tk' t1 k1 e1 => ?_
  · rw [make_depth]
    have := hr.dp
    omega
  · have old : ∀ b o, hp.get? b = some o → h'.get? b = some o := fun b o e => k1 b o (Nat.ne_of_lt (Nat.lt_succ_of_lt (Heap.lt_size e))) (kk b o e)
    have na : H (hp.objs.size + 1) = none := I.hok.fresh (Nat.le_succ _)
    exact ⟨rfl, .ref (hp.objs.size + 1), _, I.laid (t' := tk') (a := hp.objs.size + 1) (o := exo (hp.objs.size + 1) C none) old (Nat.le_succ _) (exo_ok e1), rfl, h _ na⟩
/-- C(), C without an __init__ of its own -/
theorem pe_exc0 {bm0 : List Value} (F : ExcBaseFacts B newId initId bm0) (q : PySem.W.excIn X.K C bm0 newId = true) (gC : X.mg x = some (.ref C)) (kC : PySem.W.keepIn X.K (.ref C) = true) (hg : Gl X x)
    (hdb : (x == ("__debug__" : Str)) = false := by decide) : PE X (.Call (.Name x p) [] [] pos) (fun σ H Q => ∀ a, H a = none → Q (.ref a) (upd H a (ExO (.ref C) a))) := by
  refine ⟨fun pins s σ H Q I h => ?_⟩
  refine wpAny_Call_Name_kw (ld_glob I hg gC ?_ hdb)
  refine PySem.W.callWith_K0 I.kIn kC ?_
  show wpAny _ _ (call (.ref C) []) _ _ _
  obtain ⟨bm, N, nm, qn, bs, hdct, sn, sub, ab, col, dd, k0, k1, k2, k3, k5, mN, hC, hN, hni, T⟩ := exc_obj I.kIn q
  refine wpAny_call_exc_subT F T hC hN hni (fun h' a hm => ?_) (Nat.zero_le _)
  have hn : H a = none := I.hok.gone hm.new
  obtain ⟨t, ht, _, _⟩ := hm.there
  exact ⟨.ref a, upd H a (ExO (.ref C) a), I.laidN hm.keeps hm.new hn (exO_ok ht ⟨rfl, rfl⟩ rfl rfl rfl (show 4 < 6 by decide)), rfl, h a hn⟩
end
end Fx
set_option Elab.async false
set_option linter.all false
set_option maxRecDepth 100000
set_option maxHeartbeats 4000000
namespace Rl
open PySem PySem.Spec PyProof.Rows L2 Gd
/-! rules whose readings say of a new object only that it stands, and that all stands that stood -/
theorem same_new {H : Hp} {p : Addr} {o : HO} (n : H p = none) : Same H (upd H p o) := fun b u e => by
  rw [upd_ne (ne_of_none e n)]
  exact e
theorem Same.seqT {K : PySem.W.Frag} {H H' : Hp} {a : Addr} {xs : List V} (e : Same H H') (h : SqT K H a xs) : SqT K H' a xs := by
  rcases h with (h | ⟨o, h⟩) | h
  · exact .inl (.inl (e _ _ h))
  · exact .inl (.inr ⟨o, e _ _ h⟩)
  · exact .inr h
mutual
theorem dp_same {K : PySem.W.Frag} {H H' : Hp} (e : Same H H') : ∀ (d : PyData) {v : V}, Dp K H v d → Dp K H' v d
  | .none, _, h => by cases h; exact .non
  | .bool b, _, h => by cases h; exact .bl b
  | .int i, _, h => by cases h; exact .int i
  | .str z, _, h => by cases h; exact .str z
  | .list ds, _, h => by
    cases h with
    | lst hs ha => exact .lst (e.seq hs) (dp_sameAll e ds ha)
  | .tuple ds, _, h => by
    cases h with
    | tup hs ha => exact .tup (Same.seqT e hs) (dp_sameAll e ds ha)
  | .dict _, _, h => by cases h
theorem dp_sameAll {K : PySem.W.Frag} {H H' : Hp} (e : Same H H') : ∀ (ds : List PyData) {vs : List V}, DpAll K H vs ds → DpAll K H' vs ds
  | [], _, h => by cases h; exact .nil
  | d :: ds, _, h => by
    cases h with
    | cons h1 h2 => exact .cons (dp_same e d h1) (dp_sameAll e ds h2)
end
theorem rp_same {K : PySem.W.Frag} {H H' : Hp} (e : Same H H') {d : PyData} {v : V} (h : Rp K H v d) : Rp K H' v d := by
  rcases h with h | ⟨a, kvs, ds, rfl, ha, hp, rfl⟩
  · exact .inl (dp_same e d h)
  · exact .inr ⟨a, kvs, ds, rfl, e _ _ ha, hp, rfl⟩
/-- a new object o at p -/
def New (H : Hp) (p : Addr) (o : HO) (H' : Hp) : Prop := H p = none ∧ H' p = some o ∧ Same H H'
theorem New.mk' {H : Hp} {p : Addr} {o : HO} (n : H p = none) : New H p o (upd H p o) := ⟨n, upd_same, same_new n⟩
def tTupR (t : TA) : TE := fun σ H Q => t σ H fun xs H1 => xs.length ≤ 1000 ∧ ∀ p H2, New H1 p (.tup xs) H2 → Q (.ref p) H2
def tLstR (t : TA) : TE := fun σ H Q => t σ H fun xs H1 => xs.length ≤ 1000 ∧ ∀ p H2, New H1 p (.lst xs) H2 → Q (.ref p) H2
section
variable {X : Cx} {es : List Expr} {t : TA} {pos : Pos}
theorem sz1000 {n : Nat} (h : n ≤ 1000) : n ≤ sizeLine := Nat.le_of_lt (small1000 h)
theorem pe_tupR {x1} (h : PA X es t) : PE X (.Tuple es x1 pos) (tTupR t) := by
  refine ⟨fun pins s σ H Q I hq => ?_⟩
  refine wpAny_Tuple_spliced (thn (h.run pos pins s σ H _ I hq) fun us s1 ⟨xs, H1, I1, r, z, q⟩ => ⟨by rw [← r.length]; exact sz1000 z, ?_⟩)
  have hf : H1 s1.heap.objs.size = none := I1.hok.fresh (Nat.le_refl _)
  exact ⟨.ref s1.heap.objs.size, upd H1 s1.heap.objs.size (.tup xs), I1.laid (t' := s1.toks) (fun b u e => Heap.get?_push_of_some _ e) (Nat.le_refl _) ⟨sz1000 z, us, r, ⟨_, Heap.get?_push_size _ rfl, rfl, _, rfl⟩⟩, rfl, q _ _ (.mk' hf)⟩
theorem pe_lstR (h : PA X es t) : PE X (.List es pos) (tLstR t) := by
  refine ⟨fun pins s σ H Q I hq => ?_⟩
  refine wpAny_List_spliced (thn (h.run pos pins s σ H _ I hq) fun us s1 ⟨xs, H1, I1, r, z, q⟩ => ⟨by rw [← r.length]; exact sz1000 z, ?_⟩)
  have hf : H1 s1.heap.objs.size = none := I1.hok.fresh (Nat.le_refl _)
  exact ⟨.ref s1.heap.objs.size, upd H1 s1.heap.objs.size (.lst xs), I1.laid (t' := s1.toks) (fun b u e => Heap.get?_push_of_some _ e) (Nat.le_refl _) ⟨sz1000 z, us, 0, r, Heap.get?_push_size _ rfl⟩, rfl, q _ _ (.mk' hf)⟩
theorem pe_dnewR : PE X (.Dict [] [] pos) (fun σ H Q => ∀ p H2, New H p (.dK []) H2 → Q (.ref p) H2) :=
  ⟨fun pins s σ H Q I h => pe_dnewK.run pins s σ H Q I fun p np => h p _ (.mk' np)⟩
def rCatR : R2 := fun x y H Q => ∃ l b xs zs, x = .ref l ∧ y = .ref b ∧ H l = some (.lst xs) ∧ H b = some (.lst zs) ∧ xs.length + zs.length ≤ 1000 ∧ ∀ p H2, New H p (.lst (xs ++ zs)) H2 → Q (.ref p) H2
theorem op_catR : OpR X (binaryOp .Add) rCatR := by
  intro pins s σ H x y v u Q I rx ry h
  obtain ⟨l, b, xs, zs, e1, e2, h1, h2, z, q⟩ := h
  exact op_cat pins s σ H x y v u Q I rx ry ⟨l, b, xs, zs, e1, e2, h1, h2, sz1000 z, fun p np => q p _ (.mk' np)⟩
def rRepR : R2 := fun x y H Q => ∃ l k xs, x = .ref l ∧ y = .int k ∧ H l = some (.lst xs) ∧ 0 ≤ k ∧ k ≤ 100 ∧ xs.length * k.toNat ≤ 1000 ∧ ∀ p H2, New H p (.lst (List.replicate k.toNat xs).flatten) H2 → Q (.ref p) H2
theorem op_repR : OpR X (binaryOp .Mult) rRepR := by
  intro pins s σ H x y v u Q I rx ry h
  obtain ⟨l, k, xs, e1, e2, h1, h2, h3, z, q⟩ := h
  exact op_rep pins s σ H x y v u Q I rx ry ⟨l, k, xs, e1, e2, h1, by omega, by omega, sz1000 z, fun p np => q p _ (.mk' np)⟩
def rSlR (K : PySem.W.Frag) : V → Option Int → Option Int → Hp → VK → Prop := fun x lo hi H Q => ∃ a xs, x = .ref a ∧ SqL K H a xs ∧ ∀ p H2, New H p (.lst (cutV xs lo hi)) H2 → Q (.ref p) H2
theorem sl_listR : SlR X (rSlR X.K) := by
  intro pins s σ H x v vl vu lo hi sl Q I rx hs pl pu h
  obtain ⟨a, xs, e1, h1, q⟩ := h
  exact sl_list pins s σ H x v vl vu lo hi sl Q I rx hs pl pu ⟨a, xs, e1, h1, fun p np => q p _ (.mk' np)⟩
end
end Rl
namespace Fx
open PySem L2 Rl
open PySem.W (Frag)
/-- an error of the class at C with the one attribute f -/
def ErrAt (H : Hp) (a C : Addr) (f : Str) (y : V) : Prop := ∃ d, H a = some (exo a C (some d)) ∧ H d = some (exd d [(f, y)])
theorem ErrAt.same {H H' : Hp} (s : Same H H') {a C : Addr} {f : Str} {y : V} (h : ErrAt H a C f y) : ErrAt H' a C f y :=
  let ⟨d, h1, h2⟩ := h
  ⟨d, s _ _ h1, s _ _ h2⟩
theorem errAt_new {H : Hp} {a d C : Addr} {f : Str} {y : V} (na : H a = none) (nd : H d = none) (ne : d ≠ a) : ErrAt (upd (upd H d (exd d [(f, y)])) a (exo a C (some d))) a C f y ∧ Same H (upd (upd H d (exd d [(f, y)])) a (exo a C (some d))) :=
  ⟨⟨d, upd_same, by rw [upd_ne ne, upd_same]⟩, fun b u e => by rw [upd_ne (ne_of_none e na), upd_ne (ne_of_none e nd)]; exact e⟩
def tErrR (C : Addr) (f : Str) (te : TE) : TE := fun σ H Q => te σ H fun y H1 => ∀ a H2, ErrAt H2 a C f y → Same H1 H2 → Q (.ref a) H2
section
variable {X : Cx} {B newId initId : String} {bmB : List Value} {C W fI : Addr} {f : Str} {k : Nat} {x : Str} {p pos kpos : Pos} {e : Expr} {te : TE}
theorem pe_errR (Z : Root B newId initId bmB) (T : Err1 X.prog X.K X.mg newId initId bmB C W fI f) (hr : Room (k + 1) X.A) (gC : X.mg x = some (.ref C)) (hg : Gl X x) (he : PE X e te) (hs : starEach [e] X.env = (false, eval e X.env) :: starEach [] X.env := by rfl)
    (hdb : (x == ("__debug__" : Str)) = false := by decide) : PE X (.Call (.Name x p) [e] [] pos) (tErrR C f te) := by
  refine ⟨fun pins s σ H Q I h => ?_⟩
  refine wpAny_Call_Name_kw (ld_glob I hg gC ?_ hdb)
  refine PySem.W.callWith_K (h₀ := X.base) I.ok.mod.kin T.t.kC ?_ hs (by rfl)
  rw [hs]
  show wpAny _ _ (spliced ((false, eval e X.env) :: backTo pos (starEach [] X.env))) _ _ s
  refine Calls.spliced_cons (thn (he.run pins s σ H _ I h) fun u s1 ⟨y, H1, I1, r1, q1⟩ => ?_)
  exact Calls.spliced_nil ⟨I1.kIn, run_err Z T hr I1 r1 (.inl ⟨rfl, rfl⟩) fun a d na nd ne => q1 a _ (errAt_new na nd ne).1 (errAt_new na nd ne).2⟩
theorem pe_errKR (Z : Root B newId initId bmB) (T : Err1 X.prog X.K X.mg newId initId bmB C W fI f) (hr : Room (k + 1) X.A) (gC : X.mg x = some (.ref C)) (hg : Gl X x) (he : PE X e te)
    (hdb : (x == ("__debug__" : Str)) = false := by decide) : PE X (.Call (.Name x p) [] [⟨some f, e, kpos⟩] pos) (tErrR C f te) := by
  refine ⟨fun pins s σ H Q I h => ?_⟩
  refine wpAny_Call_Name_kw (ld_glob I hg gC ?_ hdb)
  refine PySem.W.callWith_KW0 (h₀ := X.base) I.ok.mod.kin T.t.kC (by rfl) ?_ (by rfl)
  have hk : PK X [⟨some f, e, kpos⟩] (tCons te tNil) := pk_cons he pk_nil
  refine thn (hk.run pos pins s σ H (fun vs H1 => match vs with | [y] => ∀ a H2, ErrAt H2 a C f y → Same H1 H2 → Q (.ref a) H2 | _ => False) I h) fun us s1 ⟨vs, H1, I1, r1, q1⟩ => ⟨I1.kIn, ?_⟩
  cases r1 with
  | nil => exact q1.elim
  | cons ry rn =>
    cases rn with
    | nil => exact run_err Z T hr I1 ry (.inr ⟨rfl, rfl⟩) fun a d na nd ne => q1 a _ (errAt_new na nd ne).1 (errAt_new na nd ne).2
    | cons r2 rn => exact q1.elim
end
end Fx
set_option Elab.async false
set_option linter.all false
set_option maxRecDepth 100000
set_option maxHeartbeats 4000000
namespace Rl
open PySem PySem.Spec PyProof.Rows L2 Gd
/-! comprehensions whose readings say what each item is -/
section
variable {J : It} {n : Nat} {G : Hp → Prop} {Y : Nat → Hp → V → Hp → Prop}
/-- [e for x in it]: each item y keeps E, which says of the heap without the list that grows -/
theorem lcR (w : Walk J n G Y) {g : TG} {te : TE} {vs : List Nat} {σ : L2.St} {H1 : Hp} {Q : Addr → Hp → Prop} (n1 : n ≤ 1000) (hG : ∀ H, Same H1 H → G H) (E : Nat → V → Hp → Prop) (hE : ∀ i y H H', Same H H' → E i y H → E i y H')
    (turn : ∀ (D : Addr) (acc : List V) (i : Nat) (x : V) (H H' : Hp) (K : V → Hp → Prop), i < n → Same H1 H → H1 D = none → H D = some (.lst acc) → Y i H x H' → (∀ y H4, Same H H4 → E i y (delH H4 D) → K y H4) → g x (wipe σ vs) H' fun σ2 H2 => wipe σ2 vs = wipe σ vs ∧ te σ2 H2 K)
    (done : ∀ (D : Addr) (H' : Hp) (ys : List V), New H1 D (.lst ys) H' → ys.length = n → (∀ i y, ys[i]? = some y → E i y (delH H' D)) → Q D H') :
    ∀ D, H1 D = none → ∃ W : Nat → Nat → Hp → Prop, (∃ m, W 0 m (upd H1 D (.lst []))) ∧ ∀ i m H, W i m H →
      (J.stop i H ∧ Q D H) ∨ (J.go i H ∧ ∃ Nx : Hp → Prop, (∀ H', Nx H' → ∃ m', m' < m ∧ W (i + 1) m' H') ∧ ∀ x H', J.yld i H x H' → g x (wipe σ vs) H' fun σ2 H2 => wipe σ2 vs = wipe σ vs ∧ tYes σ2 H2 fun b H3 =>
        if b = true then te σ2 H3 fun y H4 => ∃ acc, H4 D = some (.lst acc) ∧ acc.length < sizeLine ∧ Nx (upd H4 D (.lst (acc ++ [y]))) else Nx H3) := by
  intro D hD
  refine lc_it w (Qd := fun H => Q D H) (fun i H => Same H1 H ∧ ∃ acc, H D = some (.lst acc) ∧ acc.length = i ∧ ∀ j y, acc[j]? = some y → E j y (delH H D)) ⟨same_new hD, [], upd_same, rfl, fun j y e => by simp at e⟩ (fun i H _ ⟨s, _⟩ => hG H s) ?_ ?_
  · rintro i x H H' hi ⟨s, acc, ha, hl, he⟩ y
    refine turn D acc i x H H' _ hi s hD ha y fun v H4 s4 e4 => ?_
    have hD4 := s4 _ _ ha
    refine ⟨acc, hD4, small1000 (by omega), fun b u e => ?_, acc ++ [v], upd_same, by rw [List.length_append, hl]; rfl, fun j z ej => ?_⟩
    · rw [upd_ne (ne_of_none e hD)]
      exact s4 _ _ (s b u e)
    · have up : ∀ {Ha : Hp}, Same Ha H4 → Same (delH Ha D) (delH (upd H4 D (.lst (acc ++ [v]))) D) := fun {Ha} sa b u e => by
        by_cases q : b = D
        · rw [q, delH_same] at e
          cases e
        · rw [delH_ne q] at e
          rw [delH_ne q, upd_ne q]
          exact sa b u e
      by_cases q : j < acc.length
      · rw [List.getElem?_append_left q] at ej
        exact hE _ _ _ _ (up s4) (he j z ej)
      · rw [List.getElem?_append_right (by omega)] at ej
        have e0 : j - acc.length = 0 := by
          cases r : j - acc.length with
          | zero => rfl
          | succ m =>
            rw [r] at ej
            simp at ej
        rw [e0] at ej
        have ez : v = z := by simpa using ej
        subst ez
        have ej2 : j = i := by omega
        subst ej2
        exact hE _ _ _ _ (up (Same.refl _)) e4
  · rintro H ⟨s, acc, ha, hl, he⟩
    exact done D H acc ⟨hD, ha, s⟩ hl he
end
/-- a list told item by item -/
theorem list_of {n : Nat} {ys : List V} {f : Nat → V} (hl : ys.length = n) (h : ∀ i y, ys[i]? = some y → y = f i) : ys = (List.range n).map f := by
  apply List.ext_getElem
  · rw [hl, List.length_map, List.length_range]
  · intro i h1 h2
    rw [List.getElem_map, List.getElem_range]
    exact h i _ (by simp [h1])
/-! ### types of data -/
def tyN : PyData → String
  | .none => "NoneType"
  | .bool _ => "bool"
  | .int _ => "int"
  | .str _ => "str"
  | .list _ => "list"
  | .tuple _ => "tuple"
  | .dict _ => "dict"
theorem sql_ty {K : PySem.W.Frag} {H : Hp} {a : Addr} {xs : List V} (h : SqL K H a xs) : TyX K H (.ref a) (.type "list") := by
  rcases h with (h | ⟨o, h⟩) | ⟨o, its, n, h, c, _⟩
  · exact .base (.lst h)
  · exact .base (.frz h)
  · exact .kList h c
theorem sqt_ty {K : PySem.W.Frag} {H : Hp} {a : Addr} {xs : List V} (h : SqT K H a xs) : TyX K H (.ref a) (.type "tuple") := by
  rcases h with (h | ⟨o, h⟩) | ⟨o, its, n, h, c, _⟩
  · exact .base (.tup h)
  · exact .fTuple h
  · exact .kTuple h c
theorem rp_ty {K : PySem.W.Frag} {H : Hp} {v : V} {d : PyData} (h : Rp K H v d) : TyX K H v (.type (tyN d)) := by
  rcases h with h | ⟨a, kvs, ds, rfl, ha, _, rfl⟩
  · cases h with
    | non => exact .base .non
    | bl b => exact .base (.bl b)
    | int i => exact .base (.int i)
    | str z => exact .base (.str z)
    | lst h _ => exact sql_ty h
    | tup h _ => exact sqt_ty h
  · exact .base (.dK ha)
/-- isinstance(x, T), T a built-in type, x data -/
def rIsD (K : PySem.W.Frag) (T : String) : List V → Hp → VK → Prop := fun xs H Q => ∃ (v : V) (d : PyData) (b : Bool), xs = [v, .ty T] ∧ Rp K H v d ∧ kitB (tyN d) T = some b ∧ Q (.bl b) H
theorem call_isD {X : Cx} {T : String} : CallR X (.builtin "isinstance") (rIsD X.K T) := by
  intro pins s σ H xs us Q I r h
  obtain ⟨v, d, b, e, hd, hb, q⟩ := h
  exact call_isi pins s σ H xs us Q I r ⟨v, .ty T, .type (tyN d), .type T, b, e, .ty T, rp_ty hd, kit_ty hb, q⟩
theorem kit_int (d : PyData) : kitB (tyN d) "int" = some (match d with | .int _ => true | .bool _ => true | _ => false) := by
  cases d <;> (first | decide +kernel | (simp only [tyN]; decide +kernel))
theorem kit_bool (d : PyData) : kitB (tyN d) "bool" = some (match d with | .bool _ => true | _ => false) := by
  cases d <;> (first | decide +kernel | (simp only [tyN]; decide +kernel))
theorem kit_str (d : PyData) : kitB (tyN d) "str" = some (match d with | .str _ => true | _ => false) := by
  cases d <;> (first | decide +kernel | (simp only [tyN]; decide +kernel))
theorem kit_tuple (d : PyData) : kitB (tyN d) "tuple" = some (match d with | .tuple _ => true | _ => false) := by
  cases d <;> (first | decide +kernel | (simp only [tyN]; decide +kernel))
theorem dp_at {K : PySem.W.Frag} {H : Hp} : ∀ {vs : List V} {ds : List PyData}, DpAll K H vs ds → ∀ {i : Nat} {v : V}, vs[i]? = some v → ∃ d, ds[i]? = some d ∧ Dp K H v d
  | _, _, .nil, i, v, e => by simp at e
  | _, _, .cons a b, 0, v, e => by
    simp at e
    subst e
    exact ⟨_, rfl, a⟩
  | _, _, .cons a b, i + 1, v, e => dp_at b (i := i) (by simpa using e)
theorem dp_len {K : PySem.W.Frag} {H : Hp} : ∀ {vs : List V} {ds : List PyData}, DpAll K H vs ds → vs.length = ds.length
  | _, _, .nil => rfl
  | _, _, .cons a b => by
    rw [List.length_cons, List.length_cons, dp_len b]
theorem dp_of {K : PySem.W.Frag} {H : Hp} : ∀ {vs : List V} {ds : List PyData}, vs.length = ds.length → (∀ (i : Nat) (v : V), vs[i]? = some v → ∃ d, ds[i]? = some d ∧ Dp K H v d) → DpAll K H vs ds
  | [], [], _, _ => .nil
  | [], _ :: _, h, _ => by simp at h
  | _ :: _, [], h, _ => by simp at h
  | v :: vs, d :: ds, h, e => by
    obtain ⟨d', e1, e2⟩ := e 0 v rfl
    have e3 : d = d' := by simpa using e1
    subst e3
    exact .cons e2 (dp_of (by simpa using h) fun i v q => e (i + 1) v (by simpa using q))
end Rl
set_option Elab.async false
set_option linter.all false
set_option maxRecDepth 100000
set_option maxHeartbeats 8000000
namespace Pg
open PySem PySem.Spec PyProof.Rows L2 Gd Rl
def top (i : Nat) : Stmt := PySem.Challenge.pw_fallranks_k07_whole_texts_judged.main.body.getD i (.Pass ⟨0, 0, 0, 0⟩)
abbrev FnP (K : PySem.W.Frag) (x : Str) (st : Stmt) (f : Addr) (fd : FuncData) : Prop := FunD K x x (defArgs st) (defBody st) (defScope st) [] [] f fd
abbrev sInt : Stmt := top 19
abbrev sName : Stmt := top 20
abbrev sInts : Stmt := top 21
abbrev sForm : Stmt := top 22
abbrev sForms : Stmt := top 23
/-! ### what data is, in plain Lean -/
def letS : Str := "abcdefghijklmnopqrstuvwxyz"
def figS : Str := "0123456789"
def intB : PyData → Bool
  | .int _ => true
  | _ => false
def nameS (z : Str) : Bool := match z.cps.toList with
  | [] => false
  | c :: r => decide ((c :: r).length ≤ 8) && (decide (c ∈ letS.cps.toList) && (c :: r).all fun c => decide (c ∈ (letS ++ figS).cps.toList))
def nameB : PyData → Bool
  | .str z => nameS z
  | _ => false
def numB : PyData → Bool
  | .int i => decide (-1000000 ≤ i) && decide (i ≤ 1000000)
  | _ => false
def intsB (n : Nat) : PyData → Bool
  | .tuple ds => decide (ds.length = n) && ds.all intB
  | _ => false
def formB (m : Nat) : PyData → Bool
  | .tuple ds => decide (ds.length = m + 1) && ds.all numB
  | _ => false
def formsB (m : Nat) : PyData → Bool
  | .tuple ds => ds.all (formB m)
  | _ => false
def lenD : PyData → Nat
  | .tuple ds => ds.length
  | _ => 0
def sayB (m : Nat) : PyData → Bool
  | .tuple [p, f] => nameB p && formB m f
  | _ => false
def brB (m : Nat) : PyData → Bool
  | .tuple [s, t, ts, cs] => nameB s && (nameB t && ((formsB m ts && decide (lenD ts ≤ 3)) && (formsB m cs && decide (lenD cs = m))))
  | _ => false
mutual
/-- no text and no row within is too long -/
def okD : PyData → Bool
  | .str z => decide (z.length ≤ 1000)
  | .list ds => decide (ds.length ≤ 1000) && okAll ds
  | .tuple ds => decide (ds.length ≤ 1000) && okAll ds
  | _ => true
def okAll : List PyData → Bool
  | [] => true
  | d :: ds => okD d && okAll ds
end
theorem ok_at : ∀ {ds : List PyData}, okAll ds = true → ∀ {i : Nat} {d : PyData}, ds[i]? = some d → okD d = true
  | [], _, i, d, e => by simp at e
  | a :: ds, h, 0, d, e => by
    simp at e
    subst e
    rw [okAll, Bool.and_eq_true] at h
    exact h.1
  | a :: ds, h, i + 1, d, e => by
    rw [okAll, Bool.and_eq_true] at h
    exact ok_at h.2 (i := i) (by simpa using e)
theorem all_getD (l : List Nat) (p : Nat → Bool) : ((List.range l.length).map fun i => p (l.getD i 0)).all id = l.all p := by
  have e : ((List.range l.length).map fun i => p (l.getD i 0)) = l.map p := by
    apply List.ext_getElem
    · simp
    · intro i h1 h2
      simp only [List.length_map, List.length_range] at h1
      simp [List.getD_eq_getElem?_getD, List.getElem?_eq_getElem h1]
  rw [e, List.all_map]
  rfl
/-- what the walk asks of the module -/
structure Mo (mg : Str → Option Value) : Prop where
  isi : mg "isinstance" = none
  int : mg "int" = none
  bool : mg "bool" = none
  str : mg "str" = none
  tuple : mg "tuple" = none
  len : mg "len" = none
  all : mg "all" = none
  enum : mg "enumerate" = none
  lname : ∃ t, mg "LONGEST_NAME" = some (.int 8 t)
  lets : ∃ t, mg "LETTERS" = some (.str letS t)
  figs : ∃ t, mg "FIGURES" = some (.str figS t)
  mnum : ∃ t, mg "MOST_NUMBER" = some (.int 1000000 t)
  mvar : ∃ t, mg "MOST_VARIABLES" = some (.int 3 t)
  mpla : ∃ t, mg "MOST_PLACES" = some (.int 3 t)
  mbra : ∃ t, mg "MOST_BRANCHES" = some (.int 5 t)
  mtes : ∃ t, mg "MOST_TESTS" = some (.int 3 t)
  msay : ∃ t, mg "MOST_SAYINGS" = some (.int 3 t)
/-- a judge of data: one argument -/
def spJ (K : PySem.W.Frag) (B : PyData → Bool) : Sp := fun vs H Q _ => ∃ (v : V) (d : PyData), vs = [v] ∧ Rp K H v d ∧ okD d = true ∧ ∀ H', Same H H' → Q (.bl (B d)) H'
/-- two arguments, the second how many variables -/
def spJ2 (K : PySem.W.Frag) (B : Nat → PyData → Bool) : Sp := fun vs H Q _ => ∃ (v : V) (d : PyData) (m : Nat), vs = [v, .int m] ∧ Rp K H v d ∧ okD d = true ∧ ∀ H', Same H H' → Q (.bl (B m d)) H'
section
variable {P : Program} {w : World} {K : PySem.W.Frag} {mg : Str → Option Value} {base : Heap} {f : Addr} {fd : FuncData}
theorem scInt : FnScope ["value"] ["value"] (defScope sInt) := ⟨rfl, rfl, rfl, by decide +kernel, rfl, by decide +kernel, by decide +kernel⟩
theorem ok_int (F : FnP K "is_integer" sInt f fd) (T : Mo mg) : FnOk P w K mg base CX0 1 f fd ["value"] (spJ K intB) := by
  refine F.ok scInt (fun vs H Q E h => ?_) (fun cdv A outer s H vs Q E hr h => ?_)
  · obtain ⟨v, d, rfl, _⟩ := h
    rfl
  · obtain ⟨v, d, rfl, hd, ho, k⟩ := h
    refine ⟨_, PSs.nox <| pss_one (ps_ret (pe_and (pe_callB (call_isD (T := "int")) (by rfl) T.isi boot_isinstance (pa_cons (pv 0) (pa_cons (pe_bltn (v := .ty "int") (by rfl) T.int (by decide +kernel) rfl) pa_nil)))
      (pe_one (pe_not (pe_callB (call_isD (T := "bool")) (by rfl) T.isi boot_isinstance (pa_cons (pv 0) (pa_cons (pe_bltn (v := .ty "bool") (by rfl) T.bool (by decide +kernel) rfl) pa_nil))))))), ?_⟩
    refine ⟨_, rfl, v, d, _, rfl, hd, kit_int d, _, rfl, ?_⟩
    have k0 := k H (Same.refl H)
    cases d with
    | int i => exact ⟨_, rfl, v, _, _, rfl, hd, kit_bool _, _, rfl, k0⟩
    | bool b => exact ⟨_, rfl, v, _, _, rfl, hd, kit_bool _, _, rfl, k0⟩
    | none => exact k0
    | str z => exact k0
    | list ds => exact k0
    | tuple ds => exact k0
    | dict ds => exact k0
theorem scName : FnScope ["value", "sign"] ["value"] (defScope sName) := ⟨rfl, rfl, rfl, by decide +kernel, rfl, by decide +kernel, by decide +kernel⟩
theorem ok_name (F : FnP K "is_name" sName f fd) (T : Mo mg) : FnOk P w K mg base CX0 1 f fd ["value"] (spJ K nameB) := by
  obtain ⟨t1, c1⟩ := T.lname
  obtain ⟨t2, c2⟩ := T.lets
  obtain ⟨t3, c3⟩ := T.figs
  refine F.ok scName (fun vs H Q E h => ?_) (fun cdv A outer s H vs Q E hr h => ?_)
  · obtain ⟨v, d, rfl, _⟩ := h
    rfl
  · obtain ⟨v, d, rfl, hd, ho, k⟩ := h
    refine ⟨_, PSs.nox <| pss_cons (ps_if (PW.pt (pw_or (pt_not (pt_val (pe_callB (call_isD (T := "str")) (by rfl) T.isi boot_isinstance (pa_cons (pv 0) (pa_cons (pe_bltn (v := .ty "str") (by rfl) T.str (by decide +kernel) rfl) pa_nil)))))
        (pw_or1 (pt_not (pt_chain op_le op_le pe_int (pe_callB call_len_str (by rfl) T.len PySem.boot_len (pa_cons (pv 0) pa_nil)) (pe_glob (v := .int 8) (by rfl) c1 ⟨_, rfl⟩)))))) (pss_one (ps_ret pe_bl)) pss_nil)
      <| pss_one (ps_ret (pe_and (pe_cmpR op_in_sign (pe_item_str (pv 0) pe_int (fun _ _ => rfl)) (pe_glob (v := .str letS) (by rfl) c2 ⟨_, rfl⟩) (by rfl))
        (pe_one (pe_callB (cr_all rfl) (by rfl) T.all (by decide +kernel) (pa_cons (pe_lc (own := [("sign", 1)]) (g := gName 1) (tt := tYes) rfl scName.nd (pi_str (pv 0)) (blkOk_by (N := ["value", "sign"]) (sc := defScope sName) (by decide +kernel)) (fun _ _ _ _ _ => pg_name (i := 1) scName.nd rfl (Or.inl rfl)) (fun _ _ _ _ _ => pts_nil)
          (fun _ _ _ _ _ => pe_cmpR op_in_sign (pv 1) (pe_op op_add_str (pe_glob (v := .str letS) (by rfl) c2 ⟨_, rfl⟩) (pe_glob (v := .str figS) (by rfl) c3 ⟨_, rfl⟩)) (by rfl))) pa_nil))))), ?_⟩
    refine ⟨_, rfl, v, d, _, rfl, hd, kit_str d, _, rfl, ?_⟩
    have k0 := k H (Same.refl H)
    cases d with
    | str z =>
      have hv : v = V.str z := by
        rcases hd with hd | ⟨a, kvs, ds, _, _, _, e⟩
        · cases hd
          rfl
        · cases e
      subst hv
      have hz : z.length ≤ 1000 := of_decide_eq_true ho
      have lz : (z.length : Int) = (z.cps.toList.length : Nat) := by
        rw [Array.length_toList]
        rfl
      refine iteF ?_
      refine ⟨_, rfl, z, rfl, sz1000 hz, _, _, rfl, rfl, _, rfl, ?_⟩
      refine ite2 (fun h1 => ?_) (fun h1 => ?_)
      · refine ⟨_, _, rfl, rfl, _, rfl, ?_⟩
        have h1' : 1 ≤ z.length := by
          have := of_decide_eq_true h1
          omega
        obtain ⟨c, r, hl⟩ : ∃ c r, z.cps.toList = c :: r := by
          cases hl : z.cps.toList with
          | nil =>
            rw [hl] at lz
            simp at lz
            omega
          | cons c r => exact ⟨c, r, rfl⟩
        have hlen : z.length = (c :: r).length := by
          rw [hl] at lz
          omega
        have hB : nameB (.str z) = (decide ((c :: r).length ≤ 8) && (decide (c ∈ letS.cps.toList) && (c :: r).all fun c => decide (c ∈ (letS ++ figS).cps.toList))) := by
          show nameS z = _
          unfold nameS
          rw [hl]
        by_cases h2 : z.length ≤ 8
        · rw [show decide ((z.length : Int) ≤ 8) = true from decide_eq_true (by omega)]
          refine iteF ?_
          have hc0 : z.cps[(0 : Int).toNat]? = some c := by
            rw [← Array.getElem?_toList, hl]
            rfl
          refine ⟨_, rfl, z, 0, c, rfl, rfl, by decide, by decide, by omega, hc0, c, letS, rfl, rfl, _, rfl, ?_⟩
          rw [show decide ((c :: r).length ≤ 8) = true from decide_eq_true (by omega), Bool.true_and] at hB
          by_cases h3 : c ∈ letS.cps.toList
          · rw [decide_eq_true h3] at hB ⊢
            rw [Bool.true_and] at hB
            refine ⟨_, rfl, z, rfl, lcR walk_str (n1 := hz) (fun _ _ => trivial) (fun i y _ => y = .bl (decide ((c :: r).getD i 0 ∈ (letS ++ figS).cps.toList))) (fun _ _ _ _ _ e => e) ?_ ?_⟩
            · rintro D acc i x Ha Hb K2 hi s nD hD ⟨rfl, c', ec, rfl⟩ kk
              refine ⟨rfl, _, rfl, _, _, rfl, rfl, by decide +kernel, c', _, rfl, rfl, kk _ _ (Same.refl _) ?_⟩
              have e2 : (c :: r)[i]? = some c' := by
                rw [← hl, Array.getElem?_toList]
                exact ec
              rw [List.getD_eq_getElem?_getD, e2]
              rfl
            · rintro D Hb ys nw hlen2 he
              have ey : ys = ((List.range z.cps.size).map fun i => decide ((c :: r).getD i 0 ∈ (letS ++ figS).cps.toList)).map V.bl := by
                rw [List.map_map]
                exact list_of hlen2 he
              refine ⟨D, _, rfl, by rw [← ey]; exact SqL.of nw.2.1, ?_⟩
              have e3 : (((List.range z.cps.size).map fun i => decide ((c :: r).getD i 0 ∈ (letS ++ figS).cps.toList)).all id) = nameB (.str z) := by
                rw [hB, show z.cps.size = (c :: r).length from hlen]
                exact all_getD (c :: r) fun c => decide (c ∈ (letS ++ figS).cps.toList)
              rw [e3]
              exact k Hb nw.2.2
          · rw [decide_eq_false h3] at hB ⊢
            rw [Bool.false_and] at hB
            rw [hB] at k0
            exact k0
        · rw [show decide ((z.length : Int) ≤ 8) = false from decide_eq_false (by omega)]
          refine iteT ?_
          rw [show decide ((c :: r).length ≤ 8) = false from decide_eq_false (by omega), Bool.false_and] at hB
          rw [hB] at k0
          exact k0
      · refine ⟨_, rfl, ?_⟩
        refine iteT ?_
        have h1' : z.length = 0 := by
          have : ¬ (1 : Int) ≤ z.length := fun q => h1 (decide_eq_true q)
          omega
        have hB : nameB (.str z) = false := by
          show nameS z = _
          unfold nameS
          cases hl : z.cps.toList with
          | nil => rfl
          | cons c r =>
            rw [hl] at lz
            simp at lz
            omega
        rw [hB] at k0
        exact k0
    | int i => exact k0
    | bool b => exact k0
    | none => exact k0
    | list ds => exact k0
    | tuple ds => exact k0
    | dict ds => exact k0
end
end Pg
set_option Elab.async false
set_option linter.all false
set_option maxRecDepth 100000
set_option maxHeartbeats 8000000
namespace Pg
open PySem PySem.Spec PyProof.Rows L2 Gd Rl
abbrev sSay : Stmt := top 30
abbrev sBr : Stmt := top 31
theorem rp_tup {K : PySem.W.Frag} {H : Hp} {v : V} {ds : List PyData} (h : Rp K H v (.tuple ds)) : ∃ a xs, v = .ref a ∧ SqT K H a xs ∧ DpAll K H xs ds := by
  rcases h with h | ⟨a, kvs, es, _, _, _, e⟩
  · cases h with
    | tup h1 h2 => exact ⟨_, _, rfl, h1, h2⟩
  · cases e
theorem ok_tup {ds : List PyData} (h : okD (.tuple ds) = true) : ds.length ≤ 1000 ∧ okAll ds = true := by
  rw [okD, Bool.and_eq_true] at h
  exact ⟨of_decide_eq_true h.1, h.2⟩
theorem all_getP (l : List PyData) (p : PyData → Bool) : ((List.range l.length).map fun i => p (l.getD i .none)).all id = l.all p := by
  have e : ((List.range l.length).map fun i => p (l.getD i .none)) = l.map p := by
    apply List.ext_getElem
    · simp
    · intro i h1 h2
      simp only [List.length_map, List.length_range] at h1
      simp [List.getD_eq_getElem?_getD, List.getElem?_eq_getElem h1]
  rw [e, List.all_map]
  rfl
theorem iteNE {c A B : Prop} [Decidable c] (hc : ¬ c) (h : A) : if (!decide c) = true then A else B := by
  rw [decide_eq_false hc]
  exact iteT h
section
variable {P : Program} {w : World} {K : PySem.W.Frag} {mg : Str → Option Value} {base : Heap} {f : Addr} {fd : FuncData}
theorem scInts : FnScope ["value", "many", "number"] ["value", "many"] (defScope sInts) := ⟨rfl, rfl, rfl, by decide +kernel, rfl, by decide +kernel, by decide +kernel⟩
theorem ok_areints {fI : Addr} {dI : FuncData} (F : FnP K "are_integers" sInts f fd) (T : Mo mg) (FI : FnP K "is_integer" sInt fI dI) (gI : mg "is_integer" = some (.ref fI)) : FnOk P w K mg base CX0 2 f fd ["value", "many"] (spJ2 K intsB) := by
  have GI : FnOk P w K mg base CX0 1 fI dI ["value"] (spJ K intB) := ok_int FI T
  have bI : Binds K dI ["value"] [] := FI.bindsN fun _ _ _ _ _ _ us hl => match us, hl with | [_], _ => rfl
  refine F.ok scInts (fun vs H Q E h => ?_) (fun cdv A outer s H vs Q E hr h => ?_)
  · obtain ⟨v, d, m, rfl, _⟩ := h
    rfl
  · obtain ⟨v, d, m, rfl, hd, ho, k⟩ := h
    refine ⟨_, PSs.nox <| pss_one (ps_ret (pe_and (pe_callB (call_isD (T := "tuple")) (by rfl) T.isi boot_isinstance (pa_cons (pv 0) (pa_cons (pe_bltn (v := .ty "tuple") (by rfl) T.tuple (by decide +kernel) rfl) pa_nil)))
      (pe_and (pe_cmpR op_eq (pe_callB call_len (by rfl) T.len PySem.boot_len (pa_cons (pv 0) pa_nil)) (pv 1) (nomark _))
      (pe_one (pe_callB (cr_all rfl) (by rfl) T.all (by decide +kernel) (pa_cons (pe_lc (own := [("number", 2)]) (g := gName 2) (tt := tYes) rfl scInts.nd (pi_tup (pv 0)) (blkOk_by (N := ["value", "many", "number"]) (sc := defScope sInts) (by decide +kernel)) (fun _ _ _ _ _ => pg_name (i := 2) scInts.nd rfl (Or.inl rfl)) (fun _ _ _ _ _ => pts_nil)
          (fun _ _ _ _ _ => pe_call GI hr (by rfl) gI FI.kp bI .nil pass0 (pa_cons (pv 2) pa_nil))) pa_nil)))))), ?_⟩
    refine ⟨_, rfl, v, d, _, rfl, hd, kit_tuple d, _, rfl, ?_⟩
    have k0 := k H (Same.refl H)
    cases d with
    | tuple ds =>
      obtain ⟨a, xs, rfl, hs, ha⟩ := rp_tup hd
      obtain ⟨hl, hk⟩ := ok_tup ho
      have lx := dp_len ha
      refine ⟨_, rfl, _, xs.length, rfl, .inr ⟨_, hs, rfl⟩, _, rfl, rfl, _, rfl, ?_⟩
      by_cases h1 : ds.length = m
      · have hB : intsB m (.tuple ds) = ds.all intB := by
          show (decide (ds.length = m) && ds.all intB) = _
          rw [decide_eq_true h1, Bool.true_and]
        rw [show decide (V.int ((xs.length : Nat) : Int) = V.int (m : Int)) = true from decide_eq_true (by rw [lx, h1])]
        refine ⟨_, rfl, a, rfl, ⟨_, hs⟩, lcR (walk_tup (xs := xs)) (n1 := by omega) (fun H' s' => Same.seqT s' hs) (fun i y _ => y = .bl (intB (ds.getD i .none))) (fun _ _ _ _ _ e => e) ?_ ?_⟩
        · rintro D acc i x Ha Hb K2 hi s nD hD ⟨rfl, ex⟩ kk
          obtain ⟨d, ed, hx⟩ := dp_at ha ex
          have eg : ds.getD i .none = d := by
            rw [List.getD_eq_getElem?_getD, ed]
            rfl
          exact ⟨rfl, _, rfl, x, d, rfl, .inl (dp_same s d hx), ok_at hk ed, fun Hc sc => kk _ _ sc (by rw [eg])⟩
        · rintro D Hb ys nw hlen he
          have ey : ys = ((List.range ds.length).map fun i => intB (ds.getD i .none)).map V.bl := by
            rw [List.map_map]
            exact list_of (by rw [hlen, lx]) he
          refine ⟨D, _, rfl, by rw [← ey]; exact SqL.of nw.2.1, ?_⟩
          rw [all_getP, ← hB]
          exact k Hb nw.2.2
      · have hB : intsB m (.tuple ds) = false := by
          show (decide (ds.length = m) && ds.all intB) = _
          rw [decide_eq_false h1, Bool.false_and]
        rw [show decide (V.int ((xs.length : Nat) : Int) = V.int (m : Int)) = false from decide_eq_false fun e => h1 (by
          have := V.int.inj e
          omega)]
        rw [hB] at k0
        exact k0
    | int i => exact k0
    | bool b => exact k0
    | none => exact k0
    | list ds => exact k0
    | str z => exact k0
    | dict ds => exact k0
/-- where are_integers stands -/
def Ints (K : PySem.W.Frag) (mg : Str → Option Value) : Prop := ∃ fM dM, FnP K "are_integers" sInts fM dM ∧ mg "are_integers" = some (.ref fM)
theorem numB_int {d : PyData} (h : numB d = true) : intB d = true := by
  cases d with
  | int i => rfl
  | bool b => cases h
  | none => cases h
  | str z => cases h
  | list es => cases h
  | tuple es => cases h
  | dict es => cases h
theorem form_ints {m : Nat} {d : PyData} (h : intsB (m + 1) d = false) : formB m d = false := by
  cases d with
  | tuple ds =>
    have h2 : (decide (ds.length = m + 1) && ds.all intB) = false := h
    show (decide (ds.length = m + 1) && ds.all numB) = false
    cases e : decide (ds.length = m + 1) with
    | false => rfl
    | true =>
      rw [e, Bool.true_and] at h2
      rw [Bool.true_and]
      cases e3 : ds.all numB with
      | false => rfl
      | true =>
        have : ds.all intB = true := List.all_eq_true.mpr fun x hx => numB_int (List.all_eq_true.mp e3 x hx)
        rw [h2] at this
        cases this
  | int i => rfl
  | bool b => rfl
  | none => rfl
  | str z => rfl
  | list es => rfl
  | dict es => rfl
theorem ints_tup {m : Nat} {d : PyData} (h : intsB m d = true) : ∃ ds, d = .tuple ds ∧ ds.length = m ∧ ∀ x ∈ ds, intB x = true := by
  cases d with
  | tuple ds =>
    have h2 : (decide (ds.length = m) && ds.all intB) = true := h
    obtain ⟨e1, e2⟩ := Bool.and_eq_true_iff.mp h2
    exact ⟨ds, rfl, of_decide_eq_true e1, List.all_eq_true.mp e2⟩
  | int i => cases h
  | bool b => cases h
  | none => cases h
  | str z => cases h
  | list es => cases h
  | dict es => cases h
theorem scForm : FnScope ["value", "many", "number"] ["value", "many"] (defScope sForm) := ⟨rfl, rfl, rfl, by decide +kernel, rfl, by decide +kernel, by decide +kernel⟩
theorem ok_form {fI : Addr} {dI : FuncData} (F : FnP K "is_form" sForm f fd) (T : Mo mg) (FI : FnP K "is_integer" sInt fI dI) (gI : mg "is_integer" = some (.ref fI)) (Z : Ints K mg) : FnOk P w K mg base CX0 3 f fd ["value", "many"] (spJ2 K formB) := by
  obtain ⟨fM, dM, FM, gM⟩ := Z
  have GM : FnOk P w K mg base CX0 2 fM dM ["value", "many"] (spJ2 K intsB) := ok_areints FM T FI gI
  have bM : Binds K dM ["value", "many"] [] := FM.bindsN fun _ _ _ _ _ _ us hl => match us, hl with | [_, _], _ => rfl
  obtain ⟨t1, c1⟩ := T.mnum
  refine F.ok scForm (fun vs H Q E h => ?_) (fun cdv A outer s H vs Q E hr h => ?_)
  · obtain ⟨v, d, m, rfl, _⟩ := h
    rfl
  · obtain ⟨v, d, m, rfl, hd, ho, k⟩ := h
    refine ⟨_, PSs.nox <| pss_one (ps_ret (pe_and (pe_call GM hr (by rfl) gM FM.kp bM .nil pass0 (pa_cons (pv 0) (pa_cons (pe_op op_add (pv 1) pe_int) pa_nil)))
      (pe_one (pe_callB (cr_all rfl) (by rfl) T.all (by decide +kernel) (pa_cons (pe_lc (own := [("number", 2)]) (g := gName 2) (tt := tYes) rfl scForm.nd (pi_tup (pv 0)) (blkOk_by (N := ["value", "many", "number"]) (sc := defScope sForm) (by decide +kernel)) (fun _ _ _ _ _ => pg_name (i := 2) scForm.nd rfl (Or.inl rfl)) (fun _ _ _ _ _ => pts_nil)
          (fun _ _ _ _ _ => pe_chain op_le op_le (pe_un un_neg (pe_glob (v := .int 1000000) (by rfl) c1 ⟨_, rfl⟩)) (pv 2) (pe_glob (v := .int 1000000) (by rfl) c1 ⟨_, rfl⟩))) pa_nil))))), ?_⟩
    refine ⟨_, rfl, _, rfl, _, _, rfl, rfl, v, d, m + 1, rfl, hd, ho, fun H1 s1 => ⟨_, rfl, ?_⟩⟩
    cases hi : intsB (m + 1) d with
    | false =>
      have z := k H1 s1
      rw [form_ints hi] at z
      exact z
    | true =>
      obtain ⟨ds, rfl, hlen, hall⟩ := ints_tup hi
      obtain ⟨a, xs, rfl, hs0, ha⟩ := rp_tup hd
      obtain ⟨hl, hk⟩ := ok_tup ho
      have lx := dp_len ha
      have hs := Same.seqT s1 hs0
      have hB : formB m (.tuple ds) = ds.all numB := by
        show (decide (ds.length = m + 1) && ds.all numB) = _
        rw [decide_eq_true hlen, Bool.true_and]
      refine ⟨_, rfl, a, rfl, ⟨_, hs⟩, lcR (walk_tup (xs := xs)) (n1 := by omega) (fun H' s' => Same.seqT s' hs) (fun i y _ => y = .bl (numB (ds.getD i .none))) (fun _ _ _ _ _ e => e) ?_ ?_⟩
      · rintro D acc i x Ha Hb K2 hi s nD hD ⟨rfl, ex⟩ kk
        obtain ⟨d, ed, hx⟩ := dp_at ha ex
        have eg : ds.getD i .none = d := by
          rw [List.getD_eq_getElem?_getD, ed]
          rfl
        have hd1 := hall d (List.mem_of_getElem? ed)
        cases d with
        | int i =>
          cases hx
          refine ⟨rfl, _, rfl, _, rfl, _, _, rfl, rfl, _, rfl, ?_⟩
          by_cases h2 : (-1000000 : Int) ≤ i
          · rw [show decide (-(1000000 : Int) ≤ i) = true from decide_eq_true h2]
            refine iteT ?_
            refine ⟨_, _, rfl, rfl, kk _ _ (Same.refl _) ?_⟩
            rw [eg]
            show V.bl _ = V.bl (decide (-1000000 ≤ i) && decide (i ≤ 1000000))
            rw [decide_eq_true h2, Bool.true_and]
          · rw [show decide (-(1000000 : Int) ≤ i) = false from decide_eq_false h2]
            refine iteF ?_
            refine kk _ _ (Same.refl _) ?_
            rw [eg]
            show V.bl _ = V.bl (decide (-1000000 ≤ i) && decide (i ≤ 1000000))
            rw [decide_eq_false h2, Bool.false_and]
        | bool b => cases hd1
        | none => cases hd1
        | str z => cases hd1
        | list es => cases hd1
        | tuple es => cases hd1
        | dict es => cases hd1
      · rintro D Hb ys nw hlen2 he
        have ey : ys = ((List.range ds.length).map fun i => numB (ds.getD i .none)).map V.bl := by
          rw [List.map_map]
          exact list_of (by rw [hlen2, lx]) he
        refine ⟨D, _, rfl, by rw [← ey]; exact SqL.of nw.2.1, ?_⟩
        rw [all_getP, ← hB]
        exact k Hb (s1.trans nw.2.2)
theorem scForms : FnScope ["value", "many", "form"] ["value", "many"] (defScope sForms) := ⟨rfl, rfl, rfl, by decide +kernel, rfl, by decide +kernel, by decide +kernel⟩
theorem ok_forms {fI fF : Addr} {dI dF : FuncData} (F : FnP K "are_forms" sForms f fd) (T : Mo mg) (FI : FnP K "is_integer" sInt fI dI) (gI : mg "is_integer" = some (.ref fI)) (FF : FnP K "is_form" sForm fF dF) (gF : mg "is_form" = some (.ref fF)) (Z : Ints K mg) : FnOk P w K mg base CX0 4 f fd ["value", "many"] (spJ2 K formsB) := by
  have GF : FnOk P w K mg base CX0 3 fF dF ["value", "many"] (spJ2 K formB) := ok_form FF T FI gI Z
  have bF : Binds K dF ["value", "many"] [] := FF.bindsN fun _ _ _ _ _ _ us hl => match us, hl with | [_, _], _ => rfl
  refine F.ok scForms (fun vs H Q E h => ?_) (fun cdv A outer s H vs Q E hr h => ?_)
  · obtain ⟨v, d, m, rfl, _⟩ := h
    rfl
  · obtain ⟨v, d, m, rfl, hd, ho, k⟩ := h
    refine ⟨_, PSs.nox <| pss_one (ps_ret (pe_and (pe_callB (call_isD (T := "tuple")) (by rfl) T.isi boot_isinstance (pa_cons (pv 0) (pa_cons (pe_bltn (v := .ty "tuple") (by rfl) T.tuple (by decide +kernel) rfl) pa_nil)))
      (pe_one (pe_callB (cr_all rfl) (by rfl) T.all (by decide +kernel) (pa_cons (pe_lc (own := [("form", 2)]) (g := gName 2) (tt := tYes) rfl scForms.nd (pi_tup (pv 0)) (blkOk_by (N := ["value", "many", "form"]) (sc := defScope sForms) (by decide +kernel)) (fun _ _ _ _ _ => pg_name (i := 2) scForms.nd rfl (Or.inl rfl)) (fun _ _ _ _ _ => pts_nil)
          (fun _ _ _ _ _ => pe_call GF hr (by rfl) gF FF.kp bF .nil pass0 (pa_cons (pv 2) (pa_cons (pv 1) pa_nil)))) pa_nil))))), ?_⟩
    refine ⟨_, rfl, v, d, _, rfl, hd, kit_tuple d, _, rfl, ?_⟩
    have k0 := k H (Same.refl H)
    cases d with
    | tuple ds =>
      obtain ⟨a, xs, rfl, hs, ha⟩ := rp_tup hd
      obtain ⟨hl, hk⟩ := ok_tup ho
      have lx := dp_len ha
      refine ⟨_, rfl, a, rfl, ⟨_, hs⟩, lcR (walk_tup (xs := xs)) (n1 := by omega) (fun H' s' => Same.seqT s' hs) (fun i y _ => y = .bl (formB m (ds.getD i .none))) (fun _ _ _ _ _ e => e) ?_ ?_⟩
      · rintro D acc i x Ha Hb K2 hi s nD hD ⟨rfl, ex⟩ kk
        obtain ⟨d, ed, hx⟩ := dp_at ha ex
        have eg : ds.getD i .none = d := by
          rw [List.getD_eq_getElem?_getD, ed]
          rfl
        exact ⟨rfl, _, rfl, _, rfl, x, d, m, rfl, .inl (dp_same s d hx), ok_at hk ed, fun Hc sc => kk _ _ sc (by rw [eg])⟩
      · rintro D Hb ys nw hlen he
        have ey : ys = ((List.range ds.length).map fun i => formB m (ds.getD i .none)).map V.bl := by
          rw [List.map_map]
          exact list_of (by rw [hlen, lx]) he
        refine ⟨D, _, rfl, by rw [← ey]; exact SqL.of nw.2.1, ?_⟩
        rw [all_getP]
        exact k Hb nw.2.2
    | int i => exact k0
    | bool b => exact k0
    | none => exact k0
    | list ds => exact k0
    | str z => exact k0
    | dict ds => exact k0
/-! ### where the judges stand -/
structure Js (K : PySem.W.Frag) (mg : Str → Option Value) (fI fN fF fS : Addr) (dI dN dF dS : FuncData) : Prop where
  i : FnP K "is_integer" sInt fI dI
  n : FnP K "is_name" sName fN dN
  f : FnP K "is_form" sForm fF dF
  s : FnP K "are_forms" sForms fS dS
  gi : mg "is_integer" = some (.ref fI)
  gn : mg "is_name" = some (.ref fN)
  gf : mg "is_form" = some (.ref fF)
  gs : mg "are_forms" = some (.ref fS)
  z : Ints K mg
theorem scSay : FnScope ["value", "many"] ["value", "many"] (defScope sSay) := ⟨rfl, rfl, rfl, by decide +kernel, rfl, by decide +kernel, by decide +kernel⟩
theorem sayB_len {m : Nat} : ∀ {ds : List PyData}, ds.length ≠ 2 → sayB m (.tuple ds) = false
  | [], _ => rfl
  | [_], _ => rfl
  | [_, _], h => absurd rfl h
  | _ :: _ :: _ :: _, _ => rfl
theorem ok_say {fI fN fF fS : Addr} {dI dN dF dS : FuncData} (F : FnP K "_is_saying" sSay f fd) (T : Mo mg) (J : Js K mg fI fN fF fS dI dN dF dS) : FnOk P w K mg base CX0 4 f fd ["value", "many"] (spJ2 K sayB) := by
  have GN : FnOk P w K mg base CX0 1 fN dN ["value"] (spJ K nameB) := ok_name J.n T
  have GF : FnOk P w K mg base CX0 3 fF dF ["value", "many"] (spJ2 K formB) := ok_form J.f T J.i J.gi J.z
  have bN : Binds K dN ["value"] [] := J.n.bindsN fun _ _ _ _ _ _ us hl => match us, hl with | [_], _ => rfl
  have bF : Binds K dF ["value", "many"] [] := J.f.bindsN fun _ _ _ _ _ _ us hl => match us, hl with | [_, _], _ => rfl
  refine F.ok scSay (fun vs H Q E h => ?_) (fun cdv A outer s H vs Q E hr h => ?_)
  · obtain ⟨v, d, m, rfl, _⟩ := h
    rfl
  · obtain ⟨v, d, m, rfl, hd, ho, k⟩ := h
    have hr1 := hr.mono (show 1 ≤ 3 by decide)
    refine ⟨_, PSs.nox <| pss_one (ps_ret (pe_and (pe_callB (call_isD (T := "tuple")) (by rfl) T.isi boot_isinstance (pa_cons (pv 0) (pa_cons (pe_bltn (v := .ty "tuple") (by rfl) T.tuple (by decide +kernel) rfl) pa_nil)))
      (pe_and (pe_cmpR op_eq (pe_callB call_len (by rfl) T.len PySem.boot_len (pa_cons (pv 0) pa_nil)) pe_int (nomark _))
      (pe_and (pe_call GN hr1 (by rfl) J.gn J.n.kp bN .nil pass0 (pa_cons (pe_ix ix_tup (pv 0) pe_int (fun _ _ => rfl)) pa_nil))
      (pe_one (pe_call GF hr (by rfl) J.gf J.f.kp bF .nil pass0 (pa_cons (pe_ix ix_tup (pv 0) pe_int (fun _ _ => rfl)) (pa_cons (pv 1) pa_nil)))))))), ?_⟩
    refine ⟨_, rfl, v, d, _, rfl, hd, kit_tuple d, _, rfl, ?_⟩
    have k0 := k H (Same.refl H)
    cases d with
    | tuple ds =>
      obtain ⟨a, xs, rfl, hs, ha⟩ := rp_tup hd
      obtain ⟨hl, hk⟩ := ok_tup ho
      have lx := dp_len ha
      refine ⟨_, rfl, _, xs.length, rfl, .inr ⟨_, hs, rfl⟩, rfl, _, rfl, ?_⟩
      by_cases h2 : ds.length = 2
      · match ds, h2, ha, hk with
        | [p, g], _, ha, hk =>
          cases ha with
          | cons hp ha =>
            cases ha with
            | cons hg ha =>
              cases ha
              rename_i v0 v1
              have k1 : okD p = true := ok_at hk (i := 0) rfl
              have k2 : okD g = true := ok_at hk (i := 1) rfl
              refine ⟨_, rfl, a, _, 0, v0, rfl, rfl, hs, rfl, v0, p, rfl, .inl hp, k1, fun H1 s1 => ⟨_, rfl, ?_⟩⟩
              have eB : sayB m (.tuple [p, g]) = (nameB p && formB m g) := rfl
              cases hn : nameB p with
              | false =>
                rw [hn, Bool.false_and] at eB
                have z := k H1 s1
                rw [eB] at z
                exact z
              | true =>
                rw [hn, Bool.true_and] at eB
                refine ⟨_, rfl, a, _, 1, v1, rfl, rfl, Same.seqT s1 hs, rfl, _, rfl, v1, g, m, rfl, .inl (dp_same s1 g hg), k2, fun H2 s2 => ?_⟩
                have z := k H2 (s1.trans s2)
                rw [eB] at z
                exact z
      · rw [show decide (V.int ((xs.length : Nat) : Int) = V.int 2) = false from decide_eq_false fun e => h2 (by
          have := V.int.inj e
          omega)]
        rw [sayB_len h2] at k0
        exact k0
    | int i => exact k0
    | bool b => exact k0
    | none => exact k0
    | list ds => exact k0
    | str z => exact k0
    | dict ds => exact k0
theorem scBr : FnScope ["value", "many", "source", "target", "tests", "changes"] ["value", "many"] (defScope sBr) := ⟨rfl, rfl, rfl, by decide +kernel, rfl, by decide +kernel, by decide +kernel⟩
theorem brB_len {m : Nat} : ∀ {ds : List PyData}, ds.length ≠ 4 → brB m (.tuple ds) = false
  | [], _ => rfl
  | [_], _ => rfl
  | [_, _], _ => rfl
  | [_, _, _], _ => rfl
  | [_, _, _, _], h => absurd rfl h
  | _ :: _ :: _ :: _ :: _ :: _, _ => rfl
theorem forms_tup {m : Nat} : ∀ {d : PyData}, formsB m d = true → ∃ ds, d = .tuple ds
  | .tuple ds, _ => ⟨ds, rfl⟩
  | .none, h => by cases h
  | .bool _, h => by cases h
  | .int _, h => by cases h
  | .str _, h => by cases h
  | .list _, h => by cases h
  | .dict _, h => by cases h
theorem ok_br {fI fN fF fS : Addr} {dI dN dF dS : FuncData} (F : FnP K "_is_branch" sBr f fd) (T : Mo mg) (J : Js K mg fI fN fF fS dI dN dF dS) : FnOk P w K mg base CX0 5 f fd ["value", "many"] (spJ2 K brB) := by
  have GN : FnOk P w K mg base CX0 1 fN dN ["value"] (spJ K nameB) := ok_name J.n T
  have GS : FnOk P w K mg base CX0 4 fS dS ["value", "many"] (spJ2 K formsB) := ok_forms J.s T J.i J.gi J.f J.gf J.z
  have bN : Binds K dN ["value"] [] := J.n.bindsN fun _ _ _ _ _ _ us hl => match us, hl with | [_], _ => rfl
  have bS : Binds K dS ["value", "many"] [] := J.s.bindsN fun _ _ _ _ _ _ us hl => match us, hl with | [_, _], _ => rfl
  obtain ⟨t1, c1⟩ := T.mtes
  refine F.ok scBr (fun vs H Q E h => ?_) (fun cdv A outer s H vs Q E hr h => ?_)
  · obtain ⟨v, d, m, rfl, _⟩ := h
    rfl
  · obtain ⟨v, d, m, rfl, hd, ho, k⟩ := h
    have hr1 := hr.mono (show 1 ≤ 4 by decide)
    refine ⟨_, PSs.nox <| pss_cons (ps_if (PW.pt (pw_or (pt_not (pt_val (pe_callB (call_isD (T := "tuple")) (by rfl) T.isi boot_isinstance (pa_cons (pv 0) (pa_cons (pe_bltn (v := .ty "tuple") (by rfl) T.tuple (by decide +kernel) rfl) pa_nil)))))
        (pw_or1 (pt_cmpR op_ne (pe_callB call_len (by rfl) T.len PySem.boot_len (pa_cons (pv 0) pa_nil)) pe_int (nomark _))))) (pss_one (ps_ret pe_bl)) pss_nil)
      <| pss_cons (ps_asg (pv 0) (pg_tup (by rfl) (pgs_cons (pg_name (i := 2) scBr.nd rfl (.inl rfl)) (pgs_cons (pg_name (i := 3) scBr.nd rfl (.inl rfl)) (pgs_cons (pg_name (i := 4) scBr.nd rfl (.inl rfl)) (pgs_cons (pg_name (i := 5) scBr.nd rfl (.inl rfl)) pgs_nil))))))
      <| pss_cons (ps_if (PW.pt (pw_or (pt_not (pt_val (pe_call GN hr1 (by rfl) J.gn J.n.kp bN .nil pass0 (pa_cons (pv 2) pa_nil)))) (pw_or1 (pt_not (pt_val (pe_call GN hr1 (by rfl) J.gn J.n.kp bN .nil pass0 (pa_cons (pv 3) pa_nil))))))) (pss_one (ps_ret pe_bl)) pss_nil)
      <| pss_cons (ps_if (PW.pt (pw_or (pt_not (pt_val (pe_call GS hr (by rfl) J.gs J.s.kp bS .nil pass0 (pa_cons (pv 4) (pa_cons (pv 1) pa_nil))))) (pw_or1 (pt_cmpR op_gt (pe_callB call_len (by rfl) T.len PySem.boot_len (pa_cons (pv 4) pa_nil)) (pe_glob (v := .int 3) (by rfl) c1 ⟨_, rfl⟩) (nomark _))))) (pss_one (ps_ret pe_bl)) pss_nil)
      <| pss_one (ps_ret (pe_and (pe_call GS hr (by rfl) J.gs J.s.kp bS .nil pass0 (pa_cons (pv 5) (pa_cons (pv 1) pa_nil))) (pe_one (pe_cmpR op_eq (pe_callB call_len (by rfl) T.len PySem.boot_len (pa_cons (pv 5) pa_nil)) (pv 1) (nomark _))))), ?_⟩
    refine ⟨_, rfl, v, d, _, rfl, hd, kit_tuple d, _, rfl, ?_⟩
    have k0 := k H (Same.refl H)
    cases d with
    | tuple ds =>
      obtain ⟨a, xs, rfl, hs, ha⟩ := rp_tup hd
      obtain ⟨hl, hk⟩ := ok_tup ho
      have lx := dp_len ha
      refine iteF ?_
      refine ⟨_, rfl, _, xs.length, rfl, .inr ⟨_, hs, rfl⟩, rfl, _, rfl, ?_⟩
      by_cases h4 : ds.length = 4
      · refine iteNS (by rw [lx, h4]; rfl) ?_
        match ds, h4, ha, hk, hl, lx with
        | [p, q, ts, cs], _, ha, hk, hl, lx =>
          cases ha with
          | @cons v0 _ _ _ a0 ha =>
          cases ha with
          | @cons v1 _ _ _ a1 ha =>
          cases ha with
          | @cons v2 _ _ _ a2 ha =>
          cases ha with
          | @cons v3 _ _ _ a3 ha =>
          cases ha
          have o0 : okD p = true := ok_at hk (i := 0) rfl
          have o1 : okD q = true := ok_at hk (i := 1) rfl
          have o2 : okD ts = true := ok_at hk (i := 2) rfl
          have o3 : okD cs = true := ok_at hk (i := 3) rfl
          have eB : brB m (.tuple [p, q, ts, cs]) = (nameB p && (nameB q && ((formsB m ts && decide (lenD ts ≤ 3)) && (formsB m cs && decide (lenD cs = m))))) := rfl
          refine ⟨_, rfl, a, _, rfl, hs, rfl, _, _, rfl, _, _, rfl, _, _, rfl, _, _, rfl, rfl, ?_⟩
          refine ⟨_, rfl, v0, p, rfl, .inl a0, o0, fun H1 s1 => ⟨_, rfl, ?_⟩⟩
          cases hp : nameB p with
          | false =>
            rw [hp, Bool.false_and] at eB
            have z := k H1 s1
            rw [eB] at z
            exact iteT (iteT z)
          | true =>
          rw [hp, Bool.true_and] at eB
          refine iteF ?_
          refine ⟨_, rfl, v1, q, rfl, .inl (dp_same s1 q a1), o1, fun H2 s2 => ⟨_, rfl, ?_⟩⟩
          have s12 := s1.trans s2
          cases hq : nameB q with
          | false =>
            rw [hq, Bool.false_and] at eB
            have z := k H2 s12
            rw [eB] at z
            exact iteT z
          | true =>
          rw [hq, Bool.true_and] at eB
          refine iteF ?_
          refine ⟨_, rfl, _, rfl, v2, ts, m, rfl, .inl (dp_same s12 ts a2), o2, fun H3 s3 => ⟨_, rfl, ?_⟩⟩
          have s13 := s12.trans s3
          cases ht : formsB m ts with
          | false =>
            rw [ht, Bool.false_and, Bool.false_and] at eB
            have z := k H3 s13
            rw [eB] at z
            exact iteT (iteT z)
          | true =>
          rw [ht, Bool.true_and] at eB
          refine iteF ?_
          obtain ⟨tds, rfl⟩ := forms_tup ht
          obtain ⟨ta, txs, rfl, hts, htd⟩ := rp_tup (.inl (dp_same s13 _ a2))
          have lt := dp_len htd
          refine ⟨_, rfl, _, txs.length, rfl, .inr ⟨_, hts, rfl⟩, _, _, rfl, rfl, _, rfl, ?_⟩
          by_cases h3 : tds.length ≤ 3
          · have eB2 : brB m (.tuple [p, q, .tuple tds, cs]) = (formsB m cs && decide (lenD cs = m)) := by
              rw [eB, show decide (lenD (.tuple tds) ≤ 3) = true from decide_eq_true h3, Bool.true_and]
            rw [show decide ((3 : Int) < ((txs.length : Nat) : Int)) = false from decide_eq_false (by omega)]
            refine iteF ?_
            refine ⟨_, rfl, _, rfl, v3, cs, m, rfl, .inl (dp_same s13 cs a3), o3, fun H4 s4 => ⟨_, rfl, ?_⟩⟩
            have s14 := s13.trans s4
            cases hc : formsB m cs with
            | false =>
              rw [hc, Bool.false_and] at eB2
              have z := k H4 s14
              rw [eB2] at z
              exact z
            | true =>
              rw [hc, Bool.true_and] at eB2
              obtain ⟨cds, rfl⟩ := forms_tup hc
              obtain ⟨ca, cxs, rfl, hcs, hcd⟩ := rp_tup (.inl (dp_same s14 _ a3))
              have lc := dp_len hcd
              refine ⟨_, rfl, _, cxs.length, rfl, .inr ⟨_, hcs, rfl⟩, _, rfl, rfl, ?_⟩
              have e5 : decide (V.int ((cxs.length : Nat) : Int) = V.int (m : Int)) = decide (lenD (.tuple cds) = m) := by
                rw [decide_eq_decide, V.int.injEq]
                show _ ↔ cds.length = m
                omega
              rw [e5, ← eB2]
              exact k H4 s14
          · rw [show decide ((3 : Int) < ((txs.length : Nat) : Int)) = true from decide_eq_true (by omega)]
            have eB2 : brB m (.tuple [p, q, .tuple tds, cs]) = false := by
              rw [eB, show decide (lenD (.tuple tds) ≤ 3) = false from decide_eq_false h3, Bool.false_and]
            have z := k H3 s13
            rw [eB2] at z
            exact iteT z
      · refine iteNE (fun e => h4 ?_) ?_
        · have e2 : ((xs.length : Nat) : Int) = 4 := V.int.inj e
          omega
        · rw [brB_len h4] at k0
          exact k0
    | int i => exact k0
    | bool b => exact k0
    | none => exact k0
    | list ds => exact k0
    | str z => exact k0
    | dict ds => exact k0
end
end Pg
set_option Elab.async false
set_option linter.all false
set_option maxRecDepth 100000
set_option maxHeartbeats 8000000
namespace Te
open PySem PySem.Spec PyProof.Rows L2 Gd Rl
/-! enumerate over what begins as told, here a tuple -/
abbrev ecell (h : Heap) : Obj := ⟨.type "enumerate", none, .fields #[.none, .bool false, .ref h.objs.size, rawInt 0, .none, .none], #[]⟩
theorem enum_new1 {v : Value} {o : Obj} {S : Heap → Prop} (B : Begins v o S) :
    Meets (Builtin.«enumerate.__new__» ⟨[.type "enumerate", v], []⟩) (fun _ R s => S s.heap ∧ R (.ok (.ret (.ref (s.heap.push o).objs.size))) { s with heap := (s.heap.push o).push (ecell s.heap) }) :=
  .of_wp fun prog w A R s h => by
    obtain ⟨hp, g, d, tk, os⟩ := s
    obtain ⟨hS, h⟩ := h
    have sub1 := sub_enumerate
    have it1 : ∀ {A1 : Around} {E1 Q1 : Value → Shared → Prop}, Q1 (.ref hp.objs.size) ⟨hp.push o, g, d, tk, os⟩ → wpAny (model prog w) A1 (pyIter v) Q1 E1 ⟨hp, g, d, tk, os⟩ := fun q => B.iter prog w _ _ ⟨hp, g, d, tk, os⟩ _ hS q
    wp_walk using it1
    refine wpAny_stack_any fun st => wpAny_pure ?_
    split
    · rename_i c _ _ _ _ _
      cases (c == Value.type "enumerate") <;> (wp_walk using it1; exact ⟨_, rfl, h⟩)
    · wp_walk using it1
      exact ⟨_, rfl, h⟩
theorem enum_call1 {prog : Program} {w : World} {A : Around} {E : Value → Shared → Prop} {s : Shared} {v : Value} {o : Obj} {S : Heap → Prop} {Q : Value → Shared → Prop} (B : Begins v o S) (hS : S s.heap)
    (h : ∀ h', IsEnum h' (s.heap.objs.size + 1) s.heap.objs.size 0 .none → h'.get? s.heap.objs.size = some o → (∀ b ob, s.heap.get? b = some ob → h'.get? b = some ob) → Q (.ref (s.heap.objs.size + 1)) { s with heap := h' }) :
    wpAny (model prog w) A (call (.type "enumerate") [v]) Q E s := by
  refine callType_new F.called_enumerate (by decide) (F.typeCall_enumerate_1 _) (F.newCall_enumerate_1 _) (fun obj => F.args_object_init_2 obj _) F.entry_enumerate_new (enum_new1 B) ⟨hS, ?_⟩
  have z1 : (s.heap.push o).objs.size = s.heap.objs.size + 1 := Heap.size_push ..
  show _ ∧ _
  rw [z1]
  have he : IsEnum ((s.heap.push o).push (ecell s.heap)) (s.heap.objs.size + 1) s.heap.objs.size 0 .none := by
    have q := Heap.get?_push_size (s.heap.push o) (o := ecell s.heap) rfl
    rw [z1] at q
    exact q
  exact ⟨⟨_, he, rfl⟩, h _ he (Heap.get?_push_of_some _ (Heap.get?_push_size _ B.free)) fun b ob x => Heap.get?_push_of_some _ (Heap.get?_push_of_some _ x)⟩
/-- the tuple at a as it stands, each item in a new pair behind its index -/
def Iet (K : PySem.W.Frag) (a : Addr) : It :=
  ⟨fun i H => ∃ (xs : List V) (x : V), SqT K H a xs ∧ xs[i]? = some x, fun i H v H' => ∃ T x, v = .ref T ∧ H T = none ∧ H' = upd H T (.tup [.int (i : Nat), x]) ∧ ∀ xs, SqT K H a xs → xs[i]? = some x, fun i H => ∃ xs : List V, SqT K H a xs ∧ xs.length ≤ i⟩
abbrev StE (a e it : Addr) (i : Nat) (h : Heap) : Prop := (∃ old, IsEnum h e it ((i : Nat) : Int) old) ∧ h.IsTupleIter it a i ∧ (e ≠ it ∧ a ≠ it ∧ e ≠ a)
theorem two {b e it : Addr} (h : b ∈ [e, it]) : b = e ∨ b = it := by simpa using h
theorem turn_enumT {P : Program} {w : World} {K : PySem.W.Frag} {elts : List Expr} {kk : Nat} {tpos : Pos} (a e it : Addr) : Turn P w K (.Tuple elts kk tpos) (Iet K a) [e, it] e (StE a e it) where
  mem := by simp
  obj := fun i h st b hb => by
    obtain ⟨⟨old, he⟩, ⟨o, ho, hc, hd⟩, _⟩ := st
    rcases two hb with rfl | rfl
    · exact ⟨_, he, fun v q => nomatch q⟩
    · exact ⟨o, ho, fun v q => by rw [hd] at q; cases q⟩
  keep := fun i h h' st k => let ⟨⟨old, he⟩, hi, hne⟩ := st; ⟨⟨old, k e (by simp) _ he⟩, hi.at fun o q => k it (by simp) o q, hne⟩
  item := by
    intro X hP hw hK hc i pins s σ H E I hf st hg
    subst hP hw hK
    obtain ⟨⟨old, he⟩, hit, n1, n2, n3⟩ := st
    obtain ⟨xs, x, hq, hx⟩ := hg
    obtain ⟨its, rv, p, hz⟩ := I.tuple hq
    obtain ⟨u, hu, ru⟩ := rv.get hx
    have hel : e < s.heap.objs.size := Heap.lt_size he
    have hil : it < s.heap.objs.size := by
      obtain ⟨_, q, _⟩ := hit
      exact Heap.lt_size q
    have D := Draws.tuple (prog := X.prog) (w := X.w) (A := X.A.in1) (I.ok.hd hc) it a n2 its.toArray
    have hlt : i < its.toArray.size := by
      have := (List.getElem?_eq_some_iff.mp hu).1
      simpa using this
    refine wpAny_pyNext_enum_itemD D he ⟨hit, p⟩ hlt n1 (fun hm => ?_) fun y h' tk hy ho hst' hT hsz hk => ?_
    · rcases (by simpa using hm : e = it ∨ e = a) with q | q
      · exact n1 q
      · exact n3 q
    · have ey : y = u := by
        have h1 : its[i]? = some y := by simpa using hy
        rw [hu] at h1
        exact (Option.some.inj h1).symm
      subst ey
      refine ⟨_, rfl, wpAny_letOwnedTupleGo_enum (s := { s with heap := h', toks := tk + 1 }) ho fun h'' he' sb => ?_⟩
      have hT2 : h''.get? s.heap.objs.size = some { cls := .type "tuple", data := .seq #[.int i tk, y] } := (sb.2 _ (Nat.ne_of_gt hel)).trans hT
      have new : ObjOk X.prog X.w (upd H s.heap.objs.size (.tup [.int (i : Nat), x])) h'' s.heap.objs.size (.tup [.int (i : Nat), x]) :=
        ⟨by show 2 ≤ sizeLine; decide, [.int i tk, y], .cons ⟨_, rfl⟩ (.cons ru .nil), ⟨_, hT2, rfl, _, rfl⟩⟩
      have I1 : Inv X pins σ (upd H s.heap.objs.size (.tup [.int (i : Nat), x])) { s with heap := h'', toks := tk + 1 } :=
        I.turnedNew (ch := [e, it]) (fun b ob hb q => (sb.2 b (fun z => hb (by simp [z]))).trans (hk b ob (fun z => hb (by simp [z])) (fun z => hb (by simp [z])) q)) hf (Nat.le_refl _) new
      refine ⟨.ref s.heap.objs.size, _, I1, rfl, ⟨_, x, rfl, I.hok.fresh (Nat.le_refl _), rfl, fun ys hys => by rw [I.tuple_inj hys hq]; exact hx⟩, ⟨⟨y, ?_⟩, hst'.1.at fun o q => (sb.2 it (Ne.symm n1)).trans q, n1, n2, n3⟩, fun b hb => ?_⟩
      · rw [show ((i + 1 : Nat) : Int) = (i : Int) + 1 by omega]
        exact he'
      · have hb' : b < s.heap.objs.size := by
          rcases two hb with rfl | rfl
          · exact hel
          · exact hil
        rw [upd_ne (Nat.ne_of_lt hb')]
        exact (hf b hb).1
  done := by
    intro X hP hw hK hc i pins s σ H E I hf st hg
    subst hP hw hK
    obtain ⟨⟨old, he⟩, hit, n1, n2, n3⟩ := st
    obtain ⟨xs, hq, hx⟩ := hg
    obtain ⟨its, rv, p, hz⟩ := I.tuple hq
    obtain ⟨f0, f1, f2, f3, f4, f5⟩ := hf it (by simp)
    have hl := rv.length
    have hnone : its.toArray[i]? = none := by
      simp
      omega
    have D : Draws X.prog X.w X.A.in1 it [it, a] i (fun _ _ => False) (fun j h => j = i ∧ h.IsTupleIter it a i ∧ h.IsTuple a its.toArray) :=
      { live := fun j h ⟨_, q, _⟩ => let ⟨o, ho, _⟩ := q; ⟨o, ho⟩
        frame := fun j h h' ⟨e1, q1, q2⟩ k => ⟨e1, q1.at fun o e => k it (by simp) o e, q2.at fun o e => k a (by simp) o e⟩
        item := fun j s Q E hj ⟨e1, _⟩ _ => absurd e1 (Nat.ne_of_lt hj)
        done := fun s Q E ⟨_, q1, q2⟩ hE => wpAny_nextOf_tuple_end (I.ok.hd hc) q1 q2 hnone hE }
    exact wpAny_pyNext_enum_endD D he ⟨rfl, hit, p⟩ fun h' eb => ⟨rfl, I.turned (t' := s.toks) (fun b o hb q => eb b o hb q) f0 f1 f3 f4 f5⟩
  self := fun A i s Q E st h => let ⟨⟨_, he⟩, _⟩ := st; wpAny_pyIter_enum he h
def iEnumT (K : PySem.W.Frag) (ta : TA) : TI := fun σ H R => ta σ H fun vs H1 => ∃ a xs, vs = [.ref a] ∧ SqT K H1 a xs ∧ R (Iet K a) H1
theorem pi_enumT {X : Cx} {e : Expr} {ta : TA} {p pos tpos : Pos} {elts : List Expr} {kk : Nat} (hg : Gl X "enumerate") (hm : X.mg "enumerate" = none) (ha : PA X [e] ta) (hs : starEach [e] X.env = [(false, eval e X.env)] := by rfl) :
    PI X (.Tuple elts kk tpos) (.Call (.Name "enumerate" p) [e] [] pos) (iEnumT X.K ta) := by
  refine ⟨fun pins s σ H R I h => ?_⟩
  refine Call_ (ld_blt I hg hm boot_enumerate (PyProof.Rows.callWith_type1 (thn (ha.run pos pins s σ H _ I h) fun us s1 ⟨vs, H1, I1, r1, q1⟩ => ?_) hs rfl))
  obtain ⟨a, xs, ex, hq, q⟩ := q1
  subst ex
  cases r1 with
  | cons r rr =>
    cases rr
    cases r
    obtain ⟨its, rv, p', hz⟩ := I1.tuple hq
    have pt : s1.heap.IsTuple a its.toArray := p'
    have hal : a < s1.heap.objs.size := by
      obtain ⟨_, q, _⟩ := pt
      exact Heap.lt_size q
    refine enum_call1 (begins_tuple a its.toArray) pt fun h' he hit hk => wpAny_pyIter_enum he ?_
    have I2 : Inv X pins σ H1 { s1 with heap := h' } := I1.kept (t' := s1.toks) hk
    refine ⟨s1.heap.objs.size + 1, [s1.heap.objs.size + 1, s1.heap.objs.size], _, _, H1, rfl, I2, turn_enumT a (s1.heap.objs.size + 1) s1.heap.objs.size, ⟨⟨.none, he⟩, ⟨_, hit, rfl, rfl⟩, Nat.succ_ne_self _, Nat.ne_of_lt hal, Nat.ne_of_gt (Nat.lt_succ_of_lt hal)⟩, fun b hb => ?_, q⟩
    have hle : s1.heap.objs.size ≤ b := by
      rcases two hb with rfl | rfl
      · exact Nat.le_add_right _ _
      · exact Nat.le_refl _
    exact I1.fpOk hle (I1.hok.fresh hle)
theorem walk_enumT {K : PySem.W.Frag} {a : Addr} {xs : List V} : Walk (Iet K a) xs.length (fun H => SqT K H a xs) (YPair (fun i => some (.int (i : Nat))) (fun i => xs[i]?)) :=
  ⟨fun i _ hi q => ⟨xs, xs[i], q, by simp [hi]⟩, fun _ q => ⟨xs, q, Nat.le_refl _⟩, fun i H v H' _ q y => let ⟨T, x, h1, h2, h3, h4⟩ := y; ⟨T, .int (i : Nat), x, h1, h2, h3, rfl, h4 xs q⟩⟩
end Te
set_option Elab.async false
set_option linter.all false
set_option maxRecDepth 100000
set_option maxHeartbeats 8000000
namespace Pg
open PySem PySem.Spec PyProof.Rows L2 Gd Rl Te
abbrev sCN : Stmt := top 27
abbrev sCS : Stmt := top 28
abbrev sPl : Stmt := top 32
/-! ### the parts of a program -/
structure Arm where
  src : Str
  tgt : Str
  tests : List (List Int)
  turns : List (List Int)
def fD (f : List Int) : PyData := .tuple (f.map PyData.int)
def sayD (s : Str × List Int) : PyData := .tuple [.str s.1, fD s.2]
def armD (a : Arm) : PyData := .tuple [.str a.src, .str a.tgt, .tuple (a.tests.map fD), .tuple (a.turns.map fD)]
def namesD (ns : List Str) : PyData := .tuple (ns.map PyData.str)
def saysD (ss : List (Str × List Int)) : PyData := .tuple (ss.map sayD)
def armsD (as : List Arm) : PyData := .tuple (as.map armD)
theorem iteDN {c A B : Prop} [Decidable c] (hc : ¬ c) (h : B) : if decide c = true then A else B := by
  rw [decide_eq_false hc]
  exact iteF h
theorem iteDY {c A B : Prop} [Decidable c] (hc : c) (h : A) : if decide c = true then A else B := by
  rw [decide_eq_true hc]
  exact iteT h
theorem iteBF {b : Bool} {A B : Prop} (hb : b = false) (h : B) : if b = true then A else B := by
  rw [hb]
  exact iteF h
theorem iteBT {b : Bool} {A B : Prop} (hb : b = true) (h : A) : if b = true then A else B := by
  rw [hb]
  exact iteT h
theorem notT {b : Bool} (h : b = true) : (!b) = false := by rw [h]; rfl
/-! ### a part of a tuple -/
def rSlTR (K : PySem.W.Frag) : V → Option Int → Option Int → Hp → VK → Prop := fun x lo hi H Q => ∃ a xs, x = .ref a ∧ SqT K H a xs ∧ ∀ p H2, Same H H2 → SqT K H2 p (cutV xs lo hi) → Q (.ref p) H2
theorem cut_whole {xs : List V} {lo hi : Option Int} (h : HT.sIx xs.length 0 lo = 0 ∧ HT.sIx xs.length xs.length hi = xs.length) : cutV xs lo hi = xs := by
  unfold cutV
  rw [h.1, h.2, List.drop_zero, Nat.sub_zero, List.take_length]
theorem cut_take {xs : List V} {i : Nat} (h : i ≤ xs.length) : cutV xs none (some (i : Int)) = xs.take i := by
  unfold cutV
  rw [HT.sIx_none, HT.sIx_nat, List.drop_zero, Nat.sub_zero, Nat.min_eq_left h]
theorem sl_tupR {X : Cx} : SlR X (rSlTR X.K) := by
  intro pins s σ H x v vl vu lo hi sl Q I rx hs pl pu h
  obtain ⟨a, xs, e, hx, q⟩ := h
  refine sl_tupA pins s σ H x v vl vu lo hi sl Q I rx hs pl pu ⟨a, xs, e, hx, fun w => q a H (Same.refl H) (by rw [cut_whole w]; exact hx), fun _ p np => q p _ (same_new np) (SqT.of upd_same)⟩
theorem dp_strs {K : PySem.W.Frag} {H : Hp} : ∀ {ns : List Str} {vs : List V}, DpAll K H vs (ns.map PyData.str) → vs = ns.map V.str
  | [], _, h => by
    cases h
    rfl
  | n :: ns, _, h => by
    cases h with
    | cons a b =>
      cases a
      rw [List.map_cons, dp_strs b]
theorem flat_strs (ns : List Str) : (ns.map V.str).all flatV = true := by
  rw [List.all_map]
  exact List.all_eq_true.mpr fun _ _ => rfl
theorem inV_strs (z : Str) : ∀ ns : List Str, inV (.str z) (ns.map V.str) = ns.contains z
  | [] => rfl
  | n :: ns => by
    have ih := inV_strs z ns
    unfold inV at ih ⊢
    rw [List.map_cons, List.any_cons, ih, List.contains_cons]
    congr 1
    show (n == z) = (z == n)
    rw [Bool.eq_iff_iff]
    simp only [beq_iff_eq]
    exact eq_comm
theorem name_len {z : Str} (h : nameS z = true) : z.length ≤ 1000 := by
  have lz : z.length = z.cps.toList.length := by
    rw [Array.length_toList]
    rfl
  unfold nameS at h
  rw [lz]
  cases e : z.cps.toList with
  | nil => exact Nat.zero_le _
  | cons c r =>
    rw [e] at h
    simp only [Bool.and_eq_true, decide_eq_true_eq] at h
    omega
section
variable {P : Program} {w : World} {K : PySem.W.Frag} {mg : Str → Option Value} {base : Heap} {f : Addr} {fd : FuncData}
/-! ### _check_names -/
structure OkN (ns : List Str) : Prop where
  one : 1 ≤ ns.length
  three : ns.length ≤ 3
  nm : ∀ z ∈ ns, nameS z = true
  nd : ns.Nodup
theorem not_ahead {ns : List Str} (h : ns.Nodup) {i : Nat} {z : Str} (e : ns[i]? = some z) : (ns.take i).contains z = false := by
  rw [Bool.eq_false_iff]
  intro hc
  have hm : z ∈ ns.take i := by simpa using hc
  obtain ⟨j, hj, ej⟩ := List.getElem_of_mem hm
  have hj2 : j < i ∧ j < ns.length := by
    rw [List.length_take] at hj
    omega
  rw [List.getElem_take] at ej
  obtain ⟨hi, ei⟩ := List.getElem?_eq_some_iff.mp e
  exact List.pairwise_iff_getElem.mp h j i hj2.2 hi hj2.1 (by rw [ej, ei])
def spCN (K : PySem.W.Frag) : Sp := fun vs H Q _ => ∃ (v : V) (ns : List Str), vs = [v] ∧ Dp K H v (namesD ns) ∧ OkN ns ∧ ∀ H', Same H H' → Q .non H'
theorem scCN : FnScope ["names", "at", "name"] ["names"] (defScope sCN) := ⟨rfl, rfl, rfl, by decide +kernel, rfl, by decide +kernel, by decide +kernel⟩
theorem ok_cn {fI fN fF fS : Addr} {dI dN dF dS : FuncData} (F : FnP K "_check_names" sCN f fd) (T : Mo mg) (J : Js K mg fI fN fF fS dI dN dF dS) : FnOk P w K mg base CX0 2 f fd ["names"] (spCN K) := by
  have GN : FnOk P w K mg base CX0 1 fN dN ["value"] (spJ K nameB) := ok_name J.n T
  have bN : Binds K dN ["value"] [] := J.n.bindsN fun _ _ _ _ _ _ us hl => match us, hl with | [_], _ => rfl
  obtain ⟨t1, c1⟩ := T.mvar
  refine F.ok scCN (fun vs H Q E h => ?_) (fun cdv A outer s H vs Q E hr h => ?_)
  · obtain ⟨v, d, rfl, _⟩ := h
    rfl
  · obtain ⟨v, ns, rfl, hd, ok, k⟩ := h
    refine ⟨_, PSs.nox <| pss_cons (ps_if (PW.pt (pw_or (pt_not (pt_val (pe_callB (call_isD (T := "tuple")) (by rfl) T.isi boot_isinstance (pa_cons (pv 0) (pa_cons (pe_bltn (v := .ty "tuple") (by rfl) T.tuple (by decide +kernel) rfl) pa_nil)))))
        (pw_or1 (pt_not (pt_truth (pv 0) (by intro _; rfl)))))) (pss_one ps_never) pss_nil)
      <| pss_one (ps_for PassesOwn.never rfl (pi_enumT (by rfl) T.enum (pa_cons (pv 0) pa_nil)) (pg_tup (by rfl) (pgs_cons (pg_name (i := 1) scCN.nd rfl (.inl rfl)) (pgs_cons (pg_name (i := 2) scCN.nd rfl (.inl rfl)) pgs_nil)))
          (pss_one (ps_if (PW.pt (pw_or (pt_cmpR op_ge (pv 1) (pe_glob (v := .int 3) (by rfl) c1 ⟨_, rfl⟩) (nomark _))
            (pw_or (pt_not (pt_val (pe_call GN hr (by rfl) J.gn J.n.kp bN .nil pass0 (pa_cons (pv 2) pa_nil)))) (pw_or1 (pt_cmpR op_in_seq (pv 2) (pe_slice (r := rSlTR K) sl_tupR (pv 0) po_none (po_some (pv 1))) (by rfl)))))) (pss_one ps_never) pss_nil))), ?_⟩
    obtain ⟨a, xs, rfl, hs, ha⟩ := rp_tup (.inl hd)
    have ex := dp_strs ha
    subst ex
    refine ⟨_, rfl, _, _, _, rfl, .inl hd, kit_tuple _, _, rfl, ?_⟩
    refine iteF ?_
    refine ⟨_, rfl, true, .inr (.inl ⟨_, hs, ?_⟩), ?_⟩
    · cases ns with
      | nil => exact absurd ok.one (by decide)
      | cons n ns => rfl
    refine iteF ?_
    refine ⟨_, rfl, a, _, rfl, hs, for_it walk_enumT (fun i σ H' => ∃ x1 x2, σ = [some (.ref a), x1, x2] ∧ Same H H') ⟨_, _, rfl, Same.refl H⟩ (fun i σ H' _ ⟨_, _, _, s⟩ => Same.seqT s hs) ?_ ?_⟩
    · rintro i x σ H1 H2 hi ⟨x1, x2, rfl, s1⟩ ⟨T, y, z, rfl, nT, rfl, ey, ez⟩
      cases ey
      have hi' : i < ns.length := by simpa using hi
      obtain ⟨nm, en, rfl⟩ : ∃ nm, ns[i]? = some nm ∧ z = .str nm := by
        replace ez : (ns.map V.str)[i]? = some z := ez
        rw [List.getElem?_map] at ez
        cases e : ns[i]? with
        | none =>
          rw [e] at ez
          cases ez
        | some nm =>
          rw [e] at ez
          exact ⟨nm, rfl, (Option.some.inj ez).symm⟩
      have hnm : nameS nm = true := ok.nm nm (List.mem_of_getElem? en)
      have s2 : Same H (upd H1 T (.tup [.int (i : Nat), .str nm])) := s1.trans (same_new nT)
      refine ⟨T, _, rfl, SqT.of upd_same, rfl, _, _, rfl, _, _, rfl, rfl, ?_⟩
      refine ⟨_, rfl, _, _, rfl, rfl, _, rfl, ?_⟩
      have h3 := ok.three
      refine iteDN (by omega) ?_
      refine ⟨_, rfl, _, .str nm, rfl, .inl (.str _), decide_eq_true (name_len hnm), fun H3 s3 => ⟨_, rfl, ?_⟩⟩
      refine iteBF (notT hnm) ?_
      have s13 := s2.trans s3
      refine ⟨_, rfl, _, rfl, _, rfl, _, rfl, a, _, rfl, Same.seqT s13 hs, fun p H4 s4 hp => ?_⟩
      rw [cut_take (by rw [List.length_map]; omega), ← List.map_take] at hp
      refine ⟨p, _, rfl, .inr hp, rfl, flat_strs _, _, rfl, ?_⟩
      refine iteBF (by rw [if_neg Bool.false_ne_true, inV_strs]; exact not_ahead ok.nd en) ?_
      exact ⟨_, _, rfl, s13.trans s4⟩
    · rintro σ H' ⟨x1, x2, rfl, s1⟩
      exact k H' s1
/-! ### _check_sayings -/
theorem say_ok {m : Nat} (hm : m ≤ 990) {s : Str × List Int} (h : sayB m (sayD s) = true) : okD (sayD s) = true := by
  have h1 : nameS s.1 = true ∧ formB m (fD s.2) = true := by
    have : (nameS s.1 && formB m (fD s.2)) = true := h
    simpa using this
  have h2 : (decide ((s.2.map PyData.int).length = m + 1) && (s.2.map PyData.int).all numB) = true := h1.2
  have h3 : s.2.length = m + 1 := by
    rw [Bool.and_eq_true] at h2
    have := of_decide_eq_true h2.1
    simpa using this
  have hi : ∀ l : List Int, okAll (l.map PyData.int) = true := fun l => by
    induction l with
    | nil => rfl
    | cons a l ih =>
      rw [List.map_cons, okAll, ih]
      rfl
  have hf : okD (fD s.2) = true := by
    unfold fD
    rw [okD, hi, decide_eq_true (by rw [List.length_map]; omega)]
    rfl
  unfold sayD
  simp only [okD, okAll, hf, decide_eq_true (name_len h1.1)]
  rfl
structure OkS (m : Nat) (ss : List (Str × List Int)) : Prop where
  three : ss.length ≤ 3
  sy : ∀ s ∈ ss, sayB m (sayD s) = true
def spCS (K : PySem.W.Frag) : Sp := fun vs H Q _ => ∃ (v : V) (m : Nat) (ss : List (Str × List Int)), vs = [v, .int m] ∧ m ≤ 990 ∧ Dp K H v (saysD ss) ∧ OkS m ss ∧ ∀ H', Same H H' → Q .non H'
theorem scCS : FnScope ["sayings", "many", "at", "saying"] ["sayings", "many"] (defScope sCS) := ⟨rfl, rfl, rfl, by decide +kernel, rfl, by decide +kernel, by decide +kernel⟩
theorem map_at {α : Type} {K : PySem.W.Frag} {H : Hp} {g : α → PyData} {l : List α} {xs : List V} (ha : DpAll K H xs (l.map g)) {i : Nat} {z : V} (e : xs[i]? = some z) : ∃ s, l[i]? = some s ∧ Dp K H z (g s) := by
  obtain ⟨d, e1, e2⟩ := dp_at ha e
  rw [List.getElem?_map] at e1
  cases h : l[i]? with
  | none =>
    rw [h] at e1
    cases e1
  | some s =>
    rw [h] at e1
    have e3 : g s = d := Option.some.inj e1
    exact ⟨s, rfl, e3 ▸ e2⟩
theorem ok_cs {fI fN fF fS fY : Addr} {dI dN dF dS dY : FuncData} (F : FnP K "_check_sayings" sCS f fd) (T : Mo mg) (J : Js K mg fI fN fF fS dI dN dF dS) (FY : FnP K "_is_saying" sSay fY dY) (gY : mg "_is_saying" = some (.ref fY)) : FnOk P w K mg base CX0 5 f fd ["sayings", "many"] (spCS K) := by
  have GY : FnOk P w K mg base CX0 4 fY dY ["value", "many"] (spJ2 K sayB) := ok_say FY T J
  have bY : Binds K dY ["value", "many"] [] := FY.bindsN fun _ _ _ _ _ _ us hl => match us, hl with | [_, _], _ => rfl
  obtain ⟨t1, c1⟩ := T.msay
  refine F.ok scCS (fun vs H Q E h => ?_) (fun cdv A outer s H vs Q E hr h => ?_)
  · obtain ⟨v, m, ss, rfl, _⟩ := h
    rfl
  · obtain ⟨v, m, ss, rfl, hm, hd, ok, k⟩ := h
    refine ⟨_, PSs.nox <| pss_cons (ps_if (pt_not (pt_val (pe_callB (call_isD (T := "tuple")) (by rfl) T.isi boot_isinstance (pa_cons (pv 0) (pa_cons (pe_bltn (v := .ty "tuple") (by rfl) T.tuple (by decide +kernel) rfl) pa_nil))))) (pss_one ps_never) pss_nil)
      <| pss_one (ps_for PassesOwn.never rfl (pi_enumT (by rfl) T.enum (pa_cons (pv 0) pa_nil)) (pg_tup (by rfl) (pgs_cons (pg_name (i := 2) scCS.nd rfl (.inl rfl)) (pgs_cons (pg_name (i := 3) scCS.nd rfl (.inl rfl)) pgs_nil)))
          (pss_one (ps_if (PW.pt (pw_or (pt_cmpR op_ge (pv 2) (pe_glob (v := .int 3) (by rfl) c1 ⟨_, rfl⟩) (nomark _))
            (pw_or1 (pt_not (pt_val (pe_call GY hr (by rfl) gY FY.kp bY .nil pass0 (pa_cons (pv 3) (pa_cons (pv 1) pa_nil)))))))) (pss_one ps_never) pss_nil))), ?_⟩
    obtain ⟨a, xs, rfl, hs, ha⟩ := rp_tup (.inl hd)
    have lx := dp_len ha
    rw [List.length_map] at lx
    refine ⟨_, rfl, _, _, _, rfl, .inl hd, kit_tuple _, _, rfl, ?_⟩
    refine iteF ?_
    refine ⟨_, rfl, a, _, rfl, hs, for_it walk_enumT (fun i σ H' => ∃ x1 x2, σ = [some (.ref a), some (.int m), x1, x2] ∧ Same H H') ⟨_, _, rfl, Same.refl H⟩ (fun i σ H' _ ⟨_, _, _, s⟩ => Same.seqT s hs) ?_ ?_⟩
    · rintro i x σ H1 H2 hi ⟨x1, x2, rfl, s1⟩ ⟨T, y, z, rfl, nT, rfl, ey, ez⟩
      cases ey
      obtain ⟨sy, es, hz⟩ := map_at ha ez
      have hsy := ok.sy sy (List.mem_of_getElem? es)
      have s2 : Same H (upd H1 T (.tup [.int (i : Nat), z])) := s1.trans (same_new nT)
      refine ⟨T, _, rfl, SqT.of upd_same, rfl, _, _, rfl, _, _, rfl, rfl, ?_⟩
      refine ⟨_, rfl, _, _, rfl, rfl, _, rfl, ?_⟩
      have h3 := ok.three
      refine iteDN (by omega) ?_
      refine ⟨_, rfl, _, rfl, z, sayD sy, m, rfl, .inl (dp_same s2 _ hz), say_ok hm hsy, fun H3 s3 => ⟨_, rfl, ?_⟩⟩
      refine iteBF (notT hsy) ?_
      exact ⟨_, _, rfl, s2.trans s3⟩
    · rintro σ H' ⟨x1, x2, rfl, s1⟩
      exact k H' s1
end
end Pg
set_option Elab.async false
set_option linter.all false
set_option maxRecDepth 100000
set_option maxHeartbeats 8000000
namespace Pg
open PySem PySem.Spec PyProof.Rows L2 Gd Rl Te
/-! ### the places -/
def standS (ss : List (Str × List Int)) (as : List Arm) : List Str := ss.map Prod.fst ++ (as.map fun a => [a.src, a.tgt]).flatten
def firstB (l : List Str) (i : Nat) : Bool := !(l.take i).contains (l.getD i "")
def firsts (l : List Str) : List Str := ((List.range l.length).filter (firstB l)).map fun i => l.getD i ""
def placesS (ss : List (Str × List Int)) (as : List Arm) : List Str := firsts (standS ss as)
theorem firsts_le (l : List Str) : (firsts l).length ≤ l.length := by
  unfold firsts
  rw [List.length_map]
  exact Nat.le_trans (List.length_filter_le _ _) (by rw [List.length_range]; exact Nat.le_refl _)
theorem flat_two (as : List Arm) : ((as.map fun a => [a.src, a.tgt]).flatten).length = 2 * as.length := by
  induction as with
  | nil => rfl
  | cons a as ih =>
    rw [List.map_cons, List.flatten_cons, List.length_append, ih]
    show 2 + 2 * as.length = 2 * (as.length + 1)
    omega
theorem stand_len (ss : List (Str × List Int)) (as : List Arm) : (standS ss as).length = ss.length + 2 * as.length := by
  unfold standS
  rw [List.length_append, List.length_map, flat_two]
theorem firsts_app (l r : List Str) : (firsts l).length ≤ (firsts (l ++ r)).length := by
  unfold firsts
  rw [List.length_map, List.length_map, List.length_append, List.range_add, List.filter_append, List.length_append]
  have e : (List.range l.length).filter (firstB (l ++ r)) = (List.range l.length).filter (firstB l) := by
    apply List.filter_congr
    intro i hi
    have hi2 : i < l.length := List.mem_range.mp hi
    unfold firstB
    rw [List.take_append_of_le_length (Nat.le_of_lt hi2), List.getD_eq_getElem?_getD, List.getD_eq_getElem?_getD, List.getElem?_append_left hi2]
  rw [e]
  exact Nat.le_add_right _ _
theorem places_take (ss : List (Str × List Int)) (as : List Arm) (i : Nat) : (placesS ss (as.take i)).length ≤ (placesS ss as).length := by
  have e : standS ss as = standS ss (as.take i) ++ ((as.drop i).map fun a => [a.src, a.tgt]).flatten := by
    unfold standS
    rw [List.append_assoc, ← List.flatten_append, ← List.map_append, List.take_append_drop]
  unfold placesS
  rw [e]
  exact firsts_app _ _
theorem list_is {α : Type} {l : List α} {g : α → V} {ys : List V} (hl : ys.length = l.length) (h : ∀ (i : Nat) (y : V), ys[i]? = some y → ∃ s, l[i]? = some s ∧ y = g s) : ys = l.map g := by
  apply List.ext_getElem
  · rw [hl, List.length_map]
  · intro i h1 h2
    obtain ⟨s, e1, e2⟩ := h i _ (List.getElem?_eq_getElem h1)
    rw [e2, List.getElem_map]
    obtain ⟨q, e3⟩ := List.getElem?_eq_some_iff.mp e1
    rw [e3]
theorem fst_strs (ss : List (Str × List Int)) : (ss.map fun s => V.str s.1) = (ss.map Prod.fst).map V.str := by
  rw [List.map_map]
  rfl
theorem ahead_len (p : Nat → Bool) (i : Nat) : ((List.range i).filter p).length ≤ i := Nat.le_trans (List.length_filter_le _ _) (by rw [List.length_range]; exact Nat.le_refl _)
theorem strs_at {l : List Str} {i : Nat} {z : V} (e : (l.map V.str)[i]? = some z) : ∃ c, l[i]? = some c ∧ z = .str c := by
  rw [List.getElem?_map] at e
  cases h : l[i]? with
  | none =>
    rw [h] at e
    cases e
  | some c =>
    rw [h] at e
    exact ⟨c, rfl, (Option.some.inj e).symm⟩
section
variable {P : Program} {w : World} {K : PySem.W.Frag} {mg : Str → Option Value} {base : Heap} {f : Addr} {fd : FuncData}
def spPl (K : PySem.W.Frag) : Sp := fun vs H Q _ => ∃ (u v : V) (ss : List (Str × List Int)) (as : List Arm), vs = [u, v] ∧ Dp K H u (saysD ss) ∧ Dp K H v (armsD as) ∧ ss.length ≤ 3 ∧ as.length ≤ 5 ∧ ∀ p H', Same H H' → SqT K H' p ((placesS ss as).map V.str) → Q (.ref p) H'
abbrev nPl : List Str := ["sayings", "branches", "saying", "standing", "branch", "at", "place"]
theorem scPl : FnScope nPl ["sayings", "branches"] (defScope sPl) := ⟨rfl, rfl, rfl, by decide +kernel, rfl, by decide +kernel, by decide +kernel⟩
theorem ok_pl (F : FnP K "_places_of" sPl f fd) (T : Mo mg) : FnOk P w K mg base CX0 1 f fd ["sayings", "branches"] (spPl K) := by
  refine F.ok scPl (fun vs H Q E h => ?_) (fun cdv A outer s H vs Q E hr h => ?_)
  · obtain ⟨u, v, ss, as, rfl, _⟩ := h
    rfl
  · obtain ⟨u, v, ss, as, rfl, hu, hv, l3, l5, k⟩ := h
    refine ⟨_, PSs.nox <| pss_cons (ps_set (i := 3) scPl.nd rfl (.inr rfl) (pe_lc (own := [("saying", 2)]) (g := gName 2) (tt := tYes) rfl scPl.nd (pi_tup (pv 0)) (blkOk_by (N := nPl) (sc := defScope sPl) (by decide +kernel)) (fun _ _ _ _ _ => pg_name (i := 2) scPl.nd rfl (Or.inl rfl)) (fun _ _ _ _ _ => pts_nil)
          (fun _ _ _ _ _ => pe_ix (r := rIxT K) ix_tup (pv 2) pe_int (fun _ _ => rfl))))
      <| pss_cons (ps_for PassesOwn.never rfl (pi_tup (pv 1)) (pg_name (i := 4) scPl.nd rfl (.inl rfl))
          (pss_one (ps_expr (pe_bm PySem.F.plainAttrs_list PySem.F.slot_list_extend PySem.F.type_list_extend mt_extend (pv 3) (pa_cons (pe_lstR (pa_cons (pe_ix ix_tup (pv 4) pe_int (fun _ _ => rfl)) (pa_cons (pe_ix ix_tup (pv 4) pe_int (fun _ _ => rfl)) pa_nil))) pa_nil)))))
      <| pss_one (ps_ret (pe_callTy call_tuple_of (by rfl) T.tuple (by decide +kernel) (pa_cons (pe_lc (own := [("at", 5), ("place", 6)]) (g := gTup K 2 (gCons (gName 5) (gCons (gName 6) gNil))) rfl scPl.nd (pi_enum (by rfl) T.enum (pa_cons (pv 3) pa_nil)) (blkOk_by (N := nPl) (sc := defScope sPl) (by decide +kernel))
          (fun _ _ _ _ _ => pg_tup (by rfl) (pgs_cons (pg_name (i := 5) scPl.nd rfl (.inl rfl)) (pgs_cons (pg_name (i := 6) scPl.nd rfl (.inl rfl)) pgs_nil)))
          (fun _ _ _ _ _ => pts_one (pt_cmpR (r := rIn K true) op_notIn_seq (pv 6) (pe_slice (r := rSlR K) sl_listR (pv 3) po_none (po_some (pv 5))) (by rfl)))
          (fun _ _ _ _ _ => pv 6)) pa_nil))), ?_⟩
    obtain ⟨a, xs, rfl, hs, ha⟩ := rp_tup (.inl hu)
    obtain ⟨b, ys, rfl, hb, hbs⟩ := rp_tup (.inl hv)
    have lx := dp_len ha
    have ly := dp_len hbs
    rw [List.length_map] at lx ly
    refine ⟨_, rfl, a, rfl, ⟨_, hs⟩, lcR (walk_tup (xs := xs)) (n1 := by omega) (fun H' s' => Same.seqT s' hs) (fun i y _ => ∃ s, ss[i]? = some s ∧ y = .str s.1) (fun _ _ _ _ _ e => e) ?_ ?_⟩
    · rintro D acc i x Ha Hb K2 hi s nD hD ⟨rfl, ex⟩ kk
      obtain ⟨sy, es, hz⟩ := map_at ha ex
      obtain ⟨p, zs, rfl, hp, hzs⟩ := rp_tup (.inl hz)
      cases hzs with
      | cons z0 hz1 =>
        cases z0
        cases hz1 with
        | cons z1 hz2 =>
        cases hz2
        exact ⟨rfl, _, rfl, p, _, 0, _, rfl, rfl, Same.seqT s hp, rfl, kk _ _ (Same.refl _) ⟨sy, es, rfl⟩⟩
    · rintro D H1 zs nw hlen he
      have ez : zs = (ss.map Prod.fst).map V.str := by
        rw [← fst_strs]
        exact list_is (by rw [hlen, lx]) he
      subst ez
      obtain ⟨nD, hD, s1⟩ := nw
      refine ⟨_, rfl, b, rfl, ⟨_, Same.seqT s1 hb⟩, for_tup (Pv := fun i σ H' => ∃ x2 x4 x5 x6, σ = [some (.ref a), some (.ref b), x2, some (.ref D), x4, x5, x6] ∧ Same H H' ∧ H' D = some (.lst ((standS ss (as.take i)).map V.str))) ⟨_, _, _, _, rfl, s1, ?_⟩ (fun i σ H' _ ⟨_, _, _, _, _, s, _⟩ => Same.seqT s hb) ?_ ?_⟩
      · rw [hD]
        congr 3
        unfold standS
        simp
      · rintro i x σ H2 ex ⟨x2, x4, x5, x6, rfl, s2, hD2⟩
        obtain ⟨ar, ea, hz⟩ := map_at hbs ex
        obtain ⟨p, zs, rfl, hp, hzs⟩ := rp_tup (.inl hz)
        cases hzs with
        | cons z0 hz1 =>
          cases hz1 with
          | cons z1 hz2 =>
            cases z0
            cases z1
            cases hz2 with
            | cons z2 hz3 =>
            cases hz3 with
            | cons z3 hz4 =>
            cases hz4
            have hp2 := Same.seqT s2 hp
            have hi : i < as.length := (List.getElem?_eq_some_iff.mp ea).1
            have elen : (standS ss (as.take i)).length ≤ 13 := by
              rw [stand_len, List.length_take]
              omega
            refine ⟨_, rfl, .inl ⟨rfl, _, SqL.of hD2⟩, _, rfl, p, _, 0, _, rfl, rfl, hp2, rfl, _, rfl, p, _, 1, _, rfl, rfl, hp2, rfl, (show 2 ≤ 1000 by decide), fun l H3 n3 => ?_⟩
            have hD3 := n3.2.2 _ _ hD2
            refine ⟨D, l, _, _, rfl, rfl, hD3, n3.2.1, sz1000 (by rw [List.length_map]; simp; omega), ?_⟩
            refine ⟨_, _, _, _, rfl, fun c o e => ?_, ?_⟩
            · rw [upd_ne (ne_of_none e nD)]
              exact n3.2.2 _ _ (s2 _ _ e)
            · rw [upd_same]
              congr 2
              rw [List.take_add_one, ea]
              unfold standS
              simp
      · rintro σ H2 ⟨x2, x4, x5, x6, rfl, s2, hD2⟩
        rw [ly, List.take_length] at hD2
        have l16 : (standS ss as).length ≤ 13 := by
          rw [stand_len]
          omega
        have l1000 : ((standS ss as).map V.str).length ≤ 1000 := by
          rw [List.length_map]
          omega
        refine ⟨_, rfl, D, _, rfl, SqL.of hD2, fun D2 nD2 => lc_it walk_enum (fun i H' => Same H2 H' ∧ H' D2 = some (.lst ((((List.range i).filter (firstB (standS ss as))).map fun j => (standS ss as).getD j "").map V.str))) ⟨same_new nD2, upd_same⟩ (fun i H' _ ⟨s, _⟩ => s.seq (SqL.of hD2)) ?_ ?_⟩
        · rintro i x H3 H4 hi ⟨s3, h3⟩ ⟨T, y, z, rfl, nT, rfl, ey, ez⟩
          cases ey
          replace ez : ((standS ss as).map V.str)[i]? = some z := ez
          obtain ⟨c, ec, rfl⟩ := strs_at ez
          have hi2 : i < (standS ss as).length := (List.getElem?_eq_some_iff.mp ec).1
          have s4 : Same H3 (upd H3 T (.tup [.int (i : Nat), .str c])) := same_new nT
          have hD4 := s4 _ _ (s3 _ _ hD2)
          refine ⟨T, _, rfl, SqT.of upd_same, rfl, _, _, rfl, _, _, rfl, rfl, rfl, ?_⟩
          refine ⟨_, rfl, _, rfl, _, rfl, _, rfl, D, _, rfl, SqL.of hD4, fun p H5 n5 => ?_⟩
          rw [cut_take (by rw [List.length_map]; omega), ← List.map_take] at n5
          refine ⟨p, _, rfl, .inl (SqL.of n5.2.1), rfl, flat_strs _, _, rfl, ?_⟩
          have eg : (standS ss as).getD i "" = c := by
            rw [List.getD_eq_getElem?_getD, ec]
            rfl
          have eB : (if true = true then !inV (V.str c) (((standS ss as).take i).map V.str) else inV (V.str c) (((standS ss as).take i).map V.str)) = firstB (standS ss as) i := by
            rw [if_pos rfl, inV_strs]
            unfold firstB
            rw [eg]
          have h5 := n5.2.2 _ _ (s4 _ _ h3)
          have s25 := s3.trans (s4.trans n5.2.2)
          have hlen := ahead_len (firstB (standS ss as)) i
          cases hB : firstB (standS ss as) i with
          | true =>
            refine iteBT (eB.trans hB) ?_
            refine ⟨_, rfl, _, h5, small1000 ?_, fun q o e => ?_, ?_⟩
            · rw [List.length_map, List.length_map]
              omega
            · rw [upd_ne (ne_of_none e nD2)]
              exact s25 _ _ e
            · rw [upd_same, List.range_succ, List.filter_append, List.filter_cons, hB]
              simp only [if_true, List.filter_nil, List.map_append, List.map_cons, List.map_nil, eg]
          | false =>
            refine iteBF (eB.trans hB) ?_
            refine ⟨s25, ?_⟩
            rw [h5, List.range_succ, List.filter_append, List.filter_cons, hB]
            simp
        · rintro H3 ⟨s3, h3⟩
          rw [List.length_map] at h3
          refine ⟨D2, _, rfl, .inl ⟨SqL.of h3, fun l nl => ?_⟩⟩
          exact k l _ ((s2.trans s3).trans (same_new nl)) (SqT.of upd_same)
end
end Pg
set_option Elab.async false
set_option linter.all false
set_option maxRecDepth 100000
set_option maxHeartbeats 8000000
namespace Nu
open PySem PySem.Spec PyProof.Rows L2 TL
/-! whole numbers as texts -/
def numS (i : Int) : Str := Str.ofString (toString i)
theorem tl_neg (n : Nat) : tl (numS (Int.negSucc n)) = 45 :: numL (n + 1) := by
  unfold numS
  rw [tl_ofString]
  show ("-" ++ Nat.repr (n + 1)).toList.map Char.toNat = _
  rw [String.toList_append, List.map_append, Nat.toList_repr]
  rfl
theorem tl_pos (n : Nat) : tl (numS (Int.ofNat n)) = numL n := tl_num n
theorem num_signs (i : Int) : ∀ c ∈ tl (numS i), c = 45 ∨ (48 ≤ c ∧ c ≤ 57) := by
  intro c hc
  cases i with
  | ofNat n =>
    rw [tl_pos] at hc
    exact .inr (numL_digits n c hc)
  | negSucc n =>
    rw [tl_neg] at hc
    rcases List.mem_cons.mp hc with h | h
    · exact .inl h
    · exact .inr (numL_digits _ c h)
theorem num_free {s : Nat} (i : Int) (h : s < 45 ∨ 57 < s) : s ∉ tl (numS i) := fun hm => by
  have := num_signs i s hm
  omega
theorem num_ne (i : Int) : tl (numS i) ≠ [] := by
  cases i with
  | ofNat n =>
    rw [tl_pos]
    exact numL_ne n
  | negSucc n =>
    rw [tl_neg]
    exact fun h => by cases h
theorem num_len {i : Int} (h : -1000000 ≤ i ∧ i ≤ 1000000) : (numS i).length ≤ 8 := by
  rw [len_tl]
  cases i with
  | ofNat n =>
    rw [tl_pos]
    have h2 : Int.ofNat n = (n : Int) := rfl
    exact Nat.le_trans (numL_len (n := n) (k := 7) (by decide) (by omega)) (by decide)
  | negSucc n =>
    rw [tl_neg, List.length_cons]
    have h2 : n + 1 < 10 ^ 7 := by
      have := h.1
      omega
    have := numL_len (n := n + 1) (k := 7) (by decide) h2
    omega
theorem num_read {i : Int} (h : -1000000 ≤ i ∧ i ≤ 1000000) : intText? (numS i) = some i := by
  have hl := num_len h
  cases i with
  | ofNat n =>
    have e := PySem.intText_digits (x := numS (Int.ofNat n)) (by
      have := tl_pos n
      unfold TL.tl at this
      rw [this]
      exact numL_digits n) (num_ne _) (by omega)
    rw [e]
    have := tl_pos n
    unfold TL.tl at this
    rw [this, numL_val]
    rfl
  | negSucc n =>
    have e := PySem.intText_neg (x := numS (Int.negSucc n)) (tl_neg n) (numL_digits _) (numL_ne _) (by omega)
    rw [e, numL_val]
    rfl
theorem num_log {i : Int} (h : -1000000 ≤ i ∧ i ≤ 1000000) : i.natAbs.log2 < 1920 := by
  have h1 : i.natAbs < 2 ^ 20 := by
    have : (2 : Nat) ^ 20 = 1048576 := by decide
    omega
  by_cases h0 : i.natAbs = 0
  · rw [h0]
    decide
  · have := (Nat.log2_lt h0).mpr h1
    omega
end Nu
set_option Elab.async false
set_option linter.all false
set_option maxRecDepth 100000
set_option maxHeartbeats 8000000
namespace Pg
open PySem PySem.Spec PyProof.Rows L2 Gd Rl Te Nu
abbrev sCB : Stmt := top 29
abbrev sWd : Stmt := top 34
/-! ### _check_branches -/
theorem form_nums {m : Nat} {f : List Int} (h : formB m (fD f) = true) : f.length = m + 1 ∧ ∀ i ∈ f, -1000000 ≤ i ∧ i ≤ 1000000 := by
  have h2 : (decide ((f.map PyData.int).length = m + 1) && (f.map PyData.int).all numB) = true := h
  rw [Bool.and_eq_true, decide_eq_true_eq, List.length_map, List.all_map, List.all_eq_true] at h2
  refine ⟨h2.1, fun i hi => ?_⟩
  have h3 : (decide (-1000000 ≤ i) && decide (i ≤ 1000000)) = true := h2.2 i hi
  simpa using h3
theorem ok_ints (l : List Int) : okAll (l.map PyData.int) = true := by
  induction l with
  | nil => rfl
  | cons a l ih =>
    rw [List.map_cons, okAll, ih]
    rfl
theorem form_ok {m : Nat} (hm : m ≤ 990) {f : List Int} (h : formB m (fD f) = true) : okD (fD f) = true := by
  unfold fD
  rw [okD, ok_ints, decide_eq_true (by rw [List.length_map, (form_nums h).1]; omega)]
  rfl
theorem all_ok : ∀ {l : List PyData}, (∀ d ∈ l, okD d = true) → okAll l = true
  | [], _ => rfl
  | d :: l, h => by
    rw [okAll, h d (List.mem_cons_self ..), all_ok fun e he => h e (List.mem_cons_of_mem _ he)]
    rfl
theorem forms_ok {m : Nat} (hm : m ≤ 990) {fs : List (List Int)} (hl : fs.length ≤ 1000) (h : formsB m (.tuple (fs.map fD)) = true) : okD (.tuple (fs.map fD)) = true := by
  have h2 : (fs.map fD).all (formB m) = true := h
  rw [List.all_eq_true] at h2
  rw [okD, decide_eq_true (by rw [List.length_map]; exact hl), Bool.true_and]
  refine all_ok fun d hd => ?_
  obtain ⟨f, hf, rfl⟩ := List.mem_map.mp hd
  exact form_ok hm (h2 _ hd)
structure ArmOk (m : Nat) (a : Arm) : Prop where
  s : nameS a.src = true
  t : nameS a.tgt = true
  ts : formsB m (.tuple (a.tests.map fD)) = true
  t3 : a.tests.length ≤ 3
  cs : formsB m (.tuple (a.turns.map fD)) = true
  cm : a.turns.length = m
theorem arm_is {m : Nat} {a : Arm} : brB m (armD a) = true ↔ ArmOk m a := by
  have e : brB m (armD a) = (nameS a.src && (nameS a.tgt && ((formsB m (.tuple (a.tests.map fD)) && decide ((a.tests.map fD).length ≤ 3)) && (formsB m (.tuple (a.turns.map fD)) && decide ((a.turns.map fD).length = m))))) := rfl
  rw [e]
  simp only [Bool.and_eq_true, decide_eq_true_eq, List.length_map]
  exact ⟨fun ⟨a, b, ⟨c, d⟩, e, f⟩ => ⟨a, b, c, d, e, f⟩, fun h => ⟨h.s, h.t, ⟨h.ts, h.t3⟩, h.cs, h.cm⟩⟩
theorem ok_four {a b c d : PyData} (h1 : okD a = true) (h2 : okD b = true) (h3 : okD c = true) (h4 : okD d = true) : okD (.tuple [a, b, c, d]) = true := by
  simp only [okD, okAll, h1, h2, h3, h4]
  rfl
theorem arm_ok {m : Nat} (hm : m ≤ 990) {a : Arm} (h : ArmOk m a) : okD (armD a) = true := by
  have h1 := forms_ok hm (by have := h.t3; omega) h.ts
  have h2 := forms_ok hm (by have := h.cm; omega) h.cs
  exact ok_four (decide_eq_true (name_len h.s)) (decide_eq_true (name_len h.t)) h1 h2
structure OkA (m : Nat) (ss : List (Str × List Int)) (as : List Arm) : Prop where
  one : 1 ≤ as.length
  five : as.length ≤ 5
  arm : ∀ a ∈ as, ArmOk m a
  pl : (placesS ss as).length ≤ 3
theorem dp_take {K : PySem.W.Frag} {H : Hp} : ∀ (i : Nat) {vs : List V} {ds : List PyData}, DpAll K H vs ds → DpAll K H (vs.take i) (ds.take i)
  | 0, _, _, _ => .nil
  | i + 1, _, _, .nil => .nil
  | i + 1, _, _, .cons a b => .cons a (dp_take i b)
section
variable {P : Program} {w : World} {K : PySem.W.Frag} {mg : Str → Option Value} {base : Heap} {f : Addr} {fd : FuncData}
def spCB (K : PySem.W.Frag) : Sp := fun vs H Q _ => ∃ (v u : V) (m : Nat) (ss : List (Str × List Int)) (as : List Arm), vs = [v, .int m, u] ∧ m ≤ 990 ∧ Dp K H v (armsD as) ∧ Dp K H u (saysD ss) ∧ ss.length ≤ 3 ∧ OkA m ss as ∧ ∀ H', Same H H' → Q .non H'
theorem scCB : FnScope ["branches", "many", "sayings", "at", "branch"] ["branches", "many", "sayings"] (defScope sCB) := ⟨rfl, rfl, rfl, by decide +kernel, rfl, by decide +kernel, by decide +kernel⟩
theorem ok_cb {fI fN fF fS fB fP : Addr} {dI dN dF dS dB dP : FuncData} (F : FnP K "_check_branches" sCB f fd) (T : Mo mg) (J : Js K mg fI fN fF fS dI dN dF dS) (FB : FnP K "_is_branch" sBr fB dB) (gB : mg "_is_branch" = some (.ref fB)) (FP : FnP K "_places_of" sPl fP dP) (gP : mg "_places_of" = some (.ref fP)) : FnOk P w K mg base CX0 6 f fd ["branches", "many", "sayings"] (spCB K) := by
  have GB : FnOk P w K mg base CX0 5 fB dB ["value", "many"] (spJ2 K brB) := ok_br FB T J
  have GP : FnOk P w K mg base CX0 1 fP dP ["sayings", "branches"] (spPl K) := ok_pl FP T
  have bB : Binds K dB ["value", "many"] [] := FB.bindsN fun _ _ _ _ _ _ us hl => match us, hl with | [_, _], _ => rfl
  have bP : Binds K dP ["sayings", "branches"] [] := FP.bindsN fun _ _ _ _ _ _ us hl => match us, hl with | [_, _], _ => rfl
  obtain ⟨t1, c1⟩ := T.mbra
  obtain ⟨t2, c2⟩ := T.mpla
  refine F.ok scCB (fun vs H Q E h => ?_) (fun cdv A outer s H vs Q E hr h => ?_)
  · obtain ⟨v, u, m, ss, as, rfl, _⟩ := h
    rfl
  · obtain ⟨v, u, m, ss, as, rfl, hm, hv, hu, l3, ok, k⟩ := h
    have hr1 := hr.mono (show 1 ≤ 5 by decide)
    refine ⟨_, PSs.nox <| pss_cons (ps_if (PW.pt (pw_or (pt_not (pt_val (pe_callB (call_isD (T := "tuple")) (by rfl) T.isi boot_isinstance (pa_cons (pv 0) (pa_cons (pe_bltn (v := .ty "tuple") (by rfl) T.tuple (by decide +kernel) rfl) pa_nil)))))
        (pw_or1 (pt_not (pt_truth (pv 0) (by intro _; rfl)))))) (pss_one ps_never) pss_nil)
      <| pss_one (ps_for PassesOwn.never rfl (pi_enumT (by rfl) T.enum (pa_cons (pv 0) pa_nil)) (pg_tup (by rfl) (pgs_cons (pg_name (i := 3) scCB.nd rfl (.inl rfl)) (pgs_cons (pg_name (i := 4) scCB.nd rfl (.inl rfl)) pgs_nil)))
          (pss_cons (ps_if (PW.pt (pw_or (pt_cmpR op_ge (pv 3) (pe_glob (v := .int 5) (by rfl) c1 ⟨_, rfl⟩) (nomark _))
            (pw_or1 (pt_not (pt_val (pe_call GB hr (by rfl) gB FB.kp bB .nil pass0 (pa_cons (pv 4) (pa_cons (pv 1) pa_nil)))))))) (pss_one ps_never) pss_nil)
          <| pss_one (ps_if (pt_cmpR op_gt (pe_callB call_len (by rfl) T.len PySem.boot_len (pa_cons (pe_call GP hr1 (by rfl) gP FP.kp bP .nil pass0 (pa_cons (pv 2) (pa_cons (pe_slice (r := rSlTR K) sl_tupR (pv 0) po_none (po_some (pe_op op_add (pv 3) pe_int))) pa_nil))) pa_nil)) (pe_glob (v := .int 3) (by rfl) c2 ⟨_, rfl⟩) (nomark _)) (pss_one ps_never) pss_nil))), ?_⟩
    obtain ⟨a, xs, rfl, hs, ha⟩ := rp_tup (.inl hv)
    have lx := dp_len ha
    rw [List.length_map] at lx
    refine ⟨_, rfl, _, _, _, rfl, .inl hv, kit_tuple _, _, rfl, ?_⟩
    refine iteF ?_
    refine ⟨_, rfl, true, .inr (.inl ⟨_, hs, ?_⟩), ?_⟩
    · have h1 := ok.one
      cases xs with
      | nil =>
        rw [← lx] at h1
        exact absurd h1 (by decide)
      | cons n ns => rfl
    refine iteF ?_
    refine ⟨_, rfl, a, _, rfl, hs, for_it walk_enumT (fun i σ H' => ∃ x1 x2, σ = [some (.ref a), some (.int m), some u, x1, x2] ∧ Same H H') ⟨_, _, rfl, Same.refl H⟩ (fun i σ H' _ ⟨_, _, _, s⟩ => Same.seqT s hs) ?_ ?_⟩
    · rintro i x σ H1 H2 hi ⟨x1, x2, rfl, s1⟩ ⟨T, y, z, rfl, nT, rfl, ey, ez⟩
      cases ey
      obtain ⟨ar, ea, hz⟩ := map_at ha ez
      have har := ok.arm ar (List.mem_of_getElem? ea)
      have s2 : Same H (upd H1 T (.tup [.int (i : Nat), z])) := s1.trans (same_new nT)
      refine ⟨T, _, rfl, SqT.of upd_same, rfl, _, _, rfl, _, _, rfl, rfl, ?_⟩
      refine ⟨_, rfl, _, _, rfl, rfl, _, rfl, ?_⟩
      have h5 := ok.five
      refine iteDN (by omega) ?_
      refine ⟨_, rfl, _, rfl, z, armD ar, m, rfl, .inl (dp_same s2 _ hz), arm_ok hm har, fun H3 s3 => ⟨_, rfl, ?_⟩⟩
      refine iteBF (notT (arm_is.mpr har)) ?_
      have s13 := s2.trans s3
      refine ⟨_, rfl, _, rfl, _, rfl, _, _, rfl, rfl, _, rfl, a, _, rfl, Same.seqT s13 hs, fun p H4 s4 hp => ?_⟩
      rw [show ((i : Int) + 1) = ((i + 1 : Nat) : Int) from rfl, cut_take (by omega)] at hp
      have s14 := s13.trans s4
      have hA : Dp K H4 (.ref p) (armsD (as.take (i + 1))) := by
        unfold armsD
        rw [List.map_take]
        exact .tup hp (dp_take (i + 1) (dp_sameAll s14 _ ha))
      refine ⟨u, .ref p, ss, as.take (i + 1), rfl, dp_same s14 _ hu, hA, l3, by rw [List.length_take]; omega, fun q H5 s5 hq => ?_⟩
      refine ⟨_, _, rfl, .inr ⟨_, hq, rfl⟩, _, _, rfl, rfl, _, rfl, ?_⟩
      have hp3 := places_take ss as (i + 1)
      have h3 := ok.pl
      refine iteDN (by rw [List.length_map]; omega) ?_
      exact ⟨_, _, rfl, s14.trans s5⟩
    · rintro σ H' ⟨x1, x2, rfl, s1⟩
      exact k H' s1
/-! ### _words_of -/
def wordsS (f : List Int) : Str := Txt.join " " (f.map numS)
structure OkF (f : List Int) : Prop where
  four : f.length ≤ 4
  nums : ∀ i ∈ f, -1000000 ≤ i ∧ i ≤ 1000000
def spWd (K : PySem.W.Frag) : Sp := fun vs H Q _ => ∃ (v : V) (f : List Int), vs = [v] ∧ Dp K H v (fD f) ∧ OkF f ∧ ∀ H', Same H H' → Q (.str (wordsS f)) H'
theorem scWd : FnScope ["form", "number"] ["form"] (defScope sWd) := ⟨rfl, rfl, rfl, by decide +kernel, rfl, by decide +kernel, by decide +kernel⟩
theorem sum_le {l : List Nat} {b : Nat} (h : ∀ x ∈ l, x ≤ b) : l.sum ≤ l.length * b := by
  induction l with
  | nil => simp
  | cons a l ih =>
    rw [List.sum_cons, List.length_cons, Nat.succ_mul]
    have h1 := h a (List.mem_cons_self ..)
    have h2 := ih fun x hx => h x (List.mem_cons_of_mem _ hx)
    omega
theorem words_sum {f : List Int} (ok : OkF f) : ((f.map numS).map (·.length)).sum ≤ 32 := by
  have h := sum_le (l := (f.map numS).map (·.length)) (b := 8) (fun x hx => by
    obtain ⟨y, hy, rfl⟩ := List.mem_map.mp hx
    obtain ⟨i, hi, rfl⟩ := List.mem_map.mp hy
    exact num_len (ok.nums i hi))
  rw [List.length_map, List.length_map] at h
  have := ok.four
  omega
theorem ok_wd (F : FnP K "_words_of" sWd f fd) (T : Mo mg) : FnOk P w K mg base CX0 1 f fd ["form"] (spWd K) := by
  refine F.ok scWd (fun vs H Q E h => ?_) (fun cdv A outer s H vs Q E hr h => ?_)
  · obtain ⟨v, d, rfl, _⟩ := h
    rfl
  · obtain ⟨v, fo, rfl, hd, ok, k⟩ := h
    refine ⟨_, PSs.nox <| pss_one (ps_ret (pe_join pe_str (pe_lc (own := [("number", 1)]) (g := gName 1) (tt := tYes) rfl scWd.nd (pi_tup (pv 0)) (blkOk_by (N := ["form", "number"]) (sc := defScope sWd) (by decide +kernel)) (fun _ _ _ _ _ => pg_name (i := 1) scWd.nd rfl (Or.inl rfl)) (fun _ _ _ _ _ => pts_nil)
          (fun _ _ _ _ _ => pe_callTy call_str_int (by rfl) T.str (by decide +kernel) (pa_cons (pv 1) pa_nil))))), ?_⟩
    obtain ⟨a, xs, rfl, hs, ha⟩ := rp_tup (.inl hd)
    have lx := dp_len ha
    rw [List.length_map] at lx
    have h4 := ok.four
    refine ⟨⟨_, rfl⟩, _, rfl, a, rfl, ⟨_, hs⟩, lcR (walk_tup (xs := xs)) (n1 := by omega) (fun H' s' => Same.seqT s' hs) (fun i y _ => ∃ s, fo[i]? = some s ∧ y = .str (numS s)) (fun _ _ _ _ _ e => e) ?_ ?_⟩
    · rintro D acc i x Ha Hb K2 hi s nD hD ⟨rfl, ex⟩ kk
      obtain ⟨n, en, hz⟩ := map_at ha ex
      cases hz
      have hn := ok.nums n (List.mem_of_getElem? en)
      exact ⟨rfl, _, rfl, n, rfl, num_log hn, kk _ _ (Same.refl _) ⟨n, en, rfl⟩⟩
    · rintro D H1 zs nw hlen he
      have ez : zs = (fo.map numS).map V.str := by
        rw [List.map_map]
        exact list_is (by rw [hlen, lx]) he
      subst ez
      refine ⟨_, D, fo.map numS, rfl, rfl, .inl (SqL.of nw.2.1), ?_, k H1 nw.2.2⟩
      have := words_sum ok
      have e1 : (" " : Str).length = 1 := by decide +kernel
      rw [e1, List.length_map]
      omega
end
end Pg
set_option Elab.async false
set_option linter.all false
set_option maxRecDepth 100000
set_option maxHeartbeats 8000000
namespace Pg
open PySem PySem.Spec PyProof.Rows L2 Gd Rl Te Nu TL
abbrev sTx : Stmt := top 33
/-! ### the text -/
def lineV (ns : List Str) : Str := Txt.join " " ("vars" :: ns)
def lineS (s : Str × List Int) : Str := Str.empty ++ "say " ++ s.1 ++ " " ++ wordsS s.2
def lineB (a : Arm) : Str := Str.empty ++ "branch " ++ a.src ++ " " ++ a.tgt
def lineT (t : List Int) : Str := Str.empty ++ "test " ++ wordsS t
def lineE (a : Arm) : Str := "then " ++ Txt.join "; " (a.turns.map wordsS)
def armL (a : Arm) : List Str := lineB a :: (a.tests.map lineT ++ [lineE a])
def linesS (ns : List Str) (ss : List (Str × List Int)) (as : List Arm) : List Str := lineV ns :: (ss.map lineS ++ (as.map armL).flatten)
def textS (ns : List Str) (ss : List (Str × List Int)) (as : List Arm) : Str := Txt.join "\n" (linesS ns ss as)
/-! ### how long -/
theorem len_app (x y : Str) : (x ++ y).length = x.length + y.length := by
  rw [len_tl, tl_append, List.length_append, ← len_tl, ← len_tl]
theorem joinS_len (y : Str) : ∀ ps : List Str, (Str.join y ps).length ≤ (ps.map (·.length)).sum + ps.length * y.length
  | [] => Nat.zero_le _
  | [p] => by
    show p.length ≤ _
    simp
  | p :: q :: r => by
    have ih := joinS_len y (q :: r)
    have e : Str.join y (p :: q :: r) = p ++ y ++ Str.join y (q :: r) := rfl
    rw [e, len_app, len_app, List.map_cons, List.sum_cons, List.length_cons, Nat.succ_mul]
    omega
theorem join_len (y : Str) (ps : List Str) : (Txt.join y ps).length ≤ (ps.map (·.length)).sum + ps.length * y.length := by
  rw [join_eq]
  exact joinS_len y ps
theorem words_len {f : List Int} (ok : OkF f) : (wordsS f).length ≤ 36 := by
  have h := join_len " " (f.map numS)
  have h1 := words_sum ok
  have h2 := ok.four
  have e1 : (" " : Str).length = 1 := by decide +kernel
  rw [e1, List.length_map] at h
  unfold wordsS
  omega
theorem okF_of {m : Nat} (hm : m ≤ 3) {f : List Int} (h : formB m (fD f) = true) : OkF f := ⟨by rw [(form_nums h).1]; omega, (form_nums h).2⟩
theorem name_len8 {z : Str} (h : nameS z = true) : z.length ≤ 8 := by
  have lz : z.length = z.cps.toList.length := by
    rw [Array.length_toList]
    rfl
  unfold nameS at h
  rw [lz]
  cases e : z.cps.toList with
  | nil => exact Nat.zero_le _
  | cons c r =>
    rw [e] at h
    simp only [Bool.and_eq_true, decide_eq_true_eq] at h
    exact h.1
theorem say_parts {m : Nat} {s : Str × List Int} (h : sayB m (sayD s) = true) : nameS s.1 = true ∧ formB m (fD s.2) = true := by
  have h1 : (nameS s.1 && formB m (fD s.2)) = true := h
  simpa using h1
theorem forms_each {m : Nat} {fs : List (List Int)} (h : formsB m (.tuple (fs.map fD)) = true) : ∀ f ∈ fs, formB m (fD f) = true := by
  have h2 : (fs.map fD).all (formB m) = true := h
  rw [List.all_eq_true] at h2
  exact fun f hf => h2 _ (List.mem_map_of_mem hf)
theorem size1000 {n : Nat} (h : n ≤ 1000) : n ≤ 16777216 := by omega
theorem sum_map_le {α : Type} {l : List α} {g : α → Str} {b : Nat} (h : ∀ x ∈ l, (g x).length ≤ b) : ((l.map g).map (·.length)).sum ≤ l.length * b := by
  have q := sum_le (l := (l.map g).map (·.length)) (b := b) (fun x hx => by
    obtain ⟨y, hy, rfl⟩ := List.mem_map.mp hx
    obtain ⟨i, hi, rfl⟩ := List.mem_map.mp hy
    exact h i hi)
  rw [List.length_map, List.length_map] at q
  exact q
theorem lineV_sum {ns : List Str} (ok : OkN ns) : ((("vars" : Str) :: ns).map (·.length)).sum ≤ 28 := by
  have h := sum_map_le (l := ns) (g := id) (b := 8) fun z hz => name_len8 (ok.nm z hz)
  rw [List.map_id] at h
  rw [List.map_cons, List.sum_cons, show ("vars" : Str).length = 4 by decide +kernel]
  have := ok.three
  omega
theorem lineV_len {ns : List Str} (ok : OkN ns) : (lineV ns).length ≤ 32 := by
  have h := join_len " " ("vars" :: ns)
  have h1 := lineV_sum ok
  have h2 := ok.three
  rw [show (" " : Str).length = 1 by decide +kernel, List.length_cons] at h
  unfold lineV
  omega
theorem e0 : Str.empty.length = 0 := by decide +kernel
theorem lineS_len {m : Nat} (hm : m ≤ 3) {s : Str × List Int} (h : sayB m (sayD s) = true) : (lineS s).length ≤ 50 := by
  obtain ⟨h1, h2⟩ := say_parts h
  unfold lineS
  rw [len_app, len_app, len_app, len_app, e0, show ("say " : Str).length = 4 by decide +kernel, show (" " : Str).length = 1 by decide +kernel]
  have := name_len8 h1
  have := words_len (okF_of hm h2)
  omega
theorem lineB_len {m : Nat} {a : Arm} (h : ArmOk m a) : (lineB a).length ≤ 50 := by
  unfold lineB
  rw [len_app, len_app, len_app, len_app, e0, show ("branch " : Str).length = 7 by decide +kernel, show (" " : Str).length = 1 by decide +kernel]
  have := name_len8 h.s
  have := name_len8 h.t
  omega
theorem lineT_len {t : List Int} (h : OkF t) : (lineT t).length ≤ 50 := by
  unfold lineT
  rw [len_app, len_app, e0, show ("test " : Str).length = 5 by decide +kernel]
  have := words_len h
  omega
theorem turns_sum {m : Nat} (hm : m ≤ 3) {a : Arm} (h : ArmOk m a) : ((a.turns.map wordsS).map (·.length)).sum ≤ 108 := by
  have q := sum_map_le (l := a.turns) (g := wordsS) (b := 36) fun f hf => words_len (okF_of hm (forms_each h.cs f hf))
  have := h.cm
  omega
theorem turns_len {m : Nat} (hm : m ≤ 3) {a : Arm} (h : ArmOk m a) : (Txt.join "; " (a.turns.map wordsS)).length ≤ 114 := by
  have q := join_len "; " (a.turns.map wordsS)
  have h1 := turns_sum hm h
  have h2 := h.cm
  rw [show ("; " : Str).length = 2 by decide +kernel, List.length_map] at q
  omega
theorem lineE_len {m : Nat} (hm : m ≤ 3) {a : Arm} (h : ArmOk m a) : (lineE a).length ≤ 119 := by
  unfold lineE
  rw [len_app, show ("then " : Str).length = 5 by decide +kernel]
  have := turns_len hm h
  omega
theorem armL_len {m : Nat} {a : Arm} (h : ArmOk m a) : (armL a).length ≤ 5 := by
  unfold armL
  rw [List.length_cons, List.length_append, List.length_map]
  have := h.t3
  show a.tests.length + 1 + 1 ≤ 5
  omega
theorem flat_len {α β : Type} {l : List α} {g : α → List β} {b : Nat} (h : ∀ x ∈ l, (g x).length ≤ b) : ((l.map g).flatten).length ≤ l.length * b := by
  rw [List.length_flatten]
  have q := sum_le (l := (l.map g).map List.length) (b := b) (fun x hx => by
    obtain ⟨y, hy, rfl⟩ := List.mem_map.mp hx
    obtain ⟨i, hi, rfl⟩ := List.mem_map.mp hy
    exact h i hi)
  rw [List.length_map, List.length_map] at q
  exact q
structure OkT (m : Nat) (ns : List Str) (ss : List (Str × List Int)) (as : List Arm) : Prop where
  m3 : m ≤ 3
  n : OkN ns
  s : OkS m ss
  a5 : as.length ≤ 5
  arm : ∀ a ∈ as, ArmOk m a
theorem lines_len {m : Nat} {ns : List Str} {ss : List (Str × List Int)} {as : List Arm} (ok : OkT m ns ss as) : (linesS ns ss as).length ≤ 29 := by
  unfold linesS
  rw [List.length_cons, List.length_append, List.length_map]
  have h := flat_len (l := as) (g := armL) (b := 5) fun a ha => armL_len (ok.arm a ha)
  have := ok.a5
  have := ok.s.three
  omega
theorem lines_each {m : Nat} {ns : List Str} {ss : List (Str × List Int)} {as : List Arm} (ok : OkT m ns ss as) : ∀ z ∈ linesS ns ss as, z.length ≤ 119 := by
  intro z hz
  unfold linesS at hz
  rcases List.mem_cons.mp hz with rfl | hz
  · exact Nat.le_trans (lineV_len ok.n) (by decide)
  rcases List.mem_append.mp hz with hz | hz
  · obtain ⟨s, hs, rfl⟩ := List.mem_map.mp hz
    exact Nat.le_trans (lineS_len ok.m3 (ok.s.sy s hs)) (by decide)
  · obtain ⟨l, hl, hz⟩ := List.mem_flatten.mp hz
    obtain ⟨a, ha, rfl⟩ := List.mem_map.mp hl
    have hA := ok.arm a ha
    unfold armL at hz
    rcases List.mem_cons.mp hz with rfl | hz
    · exact Nat.le_trans (lineB_len hA) (by decide)
    rcases List.mem_append.mp hz with hz | hz
    · obtain ⟨t, ht, rfl⟩ := List.mem_map.mp hz
      exact Nat.le_trans (lineT_len (okF_of ok.m3 (forms_each hA.ts t ht))) (by decide)
    · rw [List.mem_singleton.mp hz]
      exact lineE_len ok.m3 hA
theorem lines_sum {m : Nat} {ns : List Str} {ss : List (Str × List Int)} {as : List Arm} (ok : OkT m ns ss as) : ((linesS ns ss as).map (·.length)).sum ≤ 3451 := by
  have h := sum_map_le (l := linesS ns ss as) (g := id) (b := 119) (lines_each ok)
  rw [List.map_id] at h
  have := lines_len ok
  omega
theorem text_len {m : Nat} {ns : List Str} {ss : List (Str × List Int)} {as : List Arm} (ok : OkT m ns ss as) : (textS ns ss as).length ≤ 3480 := by
  have h := join_len "\n" (linesS ns ss as)
  have h1 := lines_sum ok
  have h2 := lines_len ok
  rw [show ("\n" : Str).length = 1 by decide +kernel] at h
  unfold textS
  omega
end Pg
set_option Elab.async false
set_option linter.all false
set_option maxRecDepth 100000
set_option maxHeartbeats 8000000
namespace Pg
open PySem PySem.Spec PyProof.Rows L2 Gd Rl Te Nu TL
theorem sz9 {n : Nat} (h : n ≤ 1000) : n ≤ sizeLine := sz1000 h
section
variable {P : Program} {w : World} {K : PySem.W.Frag} {mg : Str → Option Value} {base : Heap} {f : Addr} {fd : FuncData}
def spTx (K : PySem.W.Frag) : Sp := fun vs H Q _ => ∃ (u v z : V) (m : Nat) (ns : List Str) (ss : List (Str × List Int)) (as : List Arm), vs = [u, v, z] ∧ Dp K H u (namesD ns) ∧ Dp K H v (saysD ss) ∧ Dp K H z (armsD as) ∧ OkT m ns ss as ∧ ∀ H', Same H H' → Q (.str (textS ns ss as)) H'
abbrev nTx : List Str := ["names", "sayings", "branches", "lines", "place", "form", "source", "target", "tests", "changes", "test", "change"]
theorem scTx : FnScope nTx ["names", "sayings", "branches"] (defScope sTx) := ⟨rfl, rfl, rfl, by decide +kernel, rfl, by decide +kernel, by decide +kernel⟩
theorem put_str {L : List Str} {y : Str} : (L.map V.str) ++ [V.str y] = (L ++ [y]).map V.str := by
  rw [List.map_append]
  rfl
theorem none_of_same {H H1 : Hp} {l : Addr} (s : Same H H1) (n : H1 l = none) : H l = none := by
  cases e : H l with
  | none => rfl
  | some o =>
    have := s _ _ e
    rw [n] at this
    cases this
/-- the lines so far at l, all else as it stood at H -/
structure Grow (H : Hp) (l : Addr) (L : List Str) (H' : Hp) : Prop where
  n : H l = none
  s : Same H H'
  e : H' l = some (.lst (L.map V.str))
theorem Grow.keep {H H1 H2 : Hp} {l : Addr} {L : List Str} (g : Grow H l L H1) (s : Same H1 H2) : Grow H l L H2 := ⟨g.n, g.s.trans s, s _ _ g.e⟩
theorem Grow.put {H H1 : Hp} {l : Addr} {L : List Str} (g : Grow H l L H1) (y : Str) : Grow H l (L ++ [y]) (upd H1 l (.lst ((L.map V.str) ++ [V.str y]))) :=
  ⟨g.n, fun b o e => by
    rw [upd_ne (ne_of_none e g.n)]
    exact g.s _ _ e, by rw [upd_same, put_str]⟩
theorem ok_tx {fW : Addr} {dW : FuncData} (F : FnP K "_text_of" sTx f fd) (T : Mo mg) (FW : FnP K "_words_of" sWd fW dW) (gW : mg "_words_of" = some (.ref fW)) : FnOk P w K mg base CX0 2 f fd ["names", "sayings", "branches"] (spTx K) := by
  have GW : FnOk P w K mg base CX0 1 fW dW ["form"] (spWd K) := ok_wd FW T
  have bW : Binds K dW ["form"] [] := FW.bindsN fun _ _ _ _ _ _ us hl => match us, hl with | [_], _ => rfl
  refine F.ok scTx (fun vs H Q E h => ?_) (fun cdv A outer s H vs Q E hr h => ?_)
  · obtain ⟨u, v, z, m, ns, ss, as, rfl, _⟩ := h
    rfl
  · obtain ⟨u, v, z, m, ns, ss, as, rfl, hu, hv, hz, ok, k⟩ := h
    refine ⟨_, PSs.nox <| pss_cons (ps_set (i := 3) scTx.nd rfl (.inl rfl) (pe_lstR (pa_cons (pe_join pe_str (pe_lstR (pa_cons pe_str (StX.pa_star (pv 0) pa_nil)))) pa_nil)))
      <| pss_cons (ps_for PassesOwn.never rfl (pi_tup (pv 1)) (pg_tup (by rfl) (pgs_cons (pg_name (i := 4) scTx.nd rfl (.inl rfl)) (pgs_cons (pg_name (i := 5) scTx.nd rfl (.inl rfl)) pgs_nil)))
          (pss_one (ps_expr (pe_bm PySem.F.plainAttrs_list PySem.F.slot_list_append PySem.F.type_list_append mt_append (pv 3) (pa_cons (pe_joined (.cons pe_str <| .cons (pe_fmt (pv 4)) <| .cons pe_str <| .cons (pe_fmt (pe_call GW hr (by rfl) gW FW.kp bW .nil pass0 (pa_cons (pv 5) pa_nil))) .nil)) pa_nil)))))
      <| pss_cons (ps_for PassesOwn.never rfl (pi_tup (pv 2)) (pg_tup (by rfl) (pgs_cons (pg_name (i := 6) scTx.nd rfl (.inl rfl)) (pgs_cons (pg_name (i := 7) scTx.nd rfl (.inl rfl)) (pgs_cons (pg_name (i := 8) scTx.nd rfl (.inl rfl)) (pgs_cons (pg_name (i := 9) scTx.nd rfl (.inl rfl)) pgs_nil)))))
          (pss_cons (ps_expr (pe_bm PySem.F.plainAttrs_list PySem.F.slot_list_append PySem.F.type_list_append mt_append (pv 3) (pa_cons (pe_joined (.cons pe_str <| .cons (pe_fmt (pv 6)) <| .cons pe_str <| .cons (pe_fmt (pv 7)) .nil)) pa_nil)))
          <| pss_cons (ps_for PassesOwn.never rfl (pi_tup (pv 8)) (pg_name (i := 10) scTx.nd rfl (.inl rfl))
              (pss_one (ps_expr (pe_bm PySem.F.plainAttrs_list PySem.F.slot_list_append PySem.F.type_list_append mt_append (pv 3) (pa_cons (pe_joined (.cons pe_str <| .cons (pe_fmt (pe_call GW hr (by rfl) gW FW.kp bW .nil pass0 (pa_cons (pv 10) pa_nil))) .nil)) pa_nil)))))
          <| pss_one (ps_expr (pe_bm PySem.F.plainAttrs_list PySem.F.slot_list_append PySem.F.type_list_append mt_append (pv 3) (pa_cons (pe_op op_add_str pe_str (pe_join pe_str (pe_lc (own := [("change", 11)]) (g := gName 11) (tt := tYes) rfl scTx.nd (pi_tup (pv 9)) (blkOk_by (N := nTx) (sc := defScope sTx) (by decide +kernel)) (fun _ _ _ _ _ => pg_name (i := 11) scTx.nd rfl (Or.inl rfl)) (fun _ _ _ _ _ => pts_nil)
              (fun _ _ _ _ _ => pe_call GW hr (by rfl) gW FW.kp bW .nil pass0 (pa_cons (pv 11) pa_nil))))) pa_nil)))))
      <| pss_one (ps_ret (pe_join pe_str (pv 3))), ?_⟩
    obtain ⟨a, xs, rfl, hs, ha⟩ := rp_tup (.inl hu)
    have ex := dp_strs ha
    subst ex
    obtain ⟨b, ys, rfl, hb, hbs⟩ := rp_tup (.inl hv)
    obtain ⟨c, zs, rfl, hc, hcs⟩ := rp_tup (.inl hz)
    have ly := dp_len hbs
    have lz := dp_len hcs
    rw [List.length_map] at ly lz
    have n3 := ok.n.three
    have s3 := ok.s.three
    have a5 := ok.a5
    refine ⟨⟨_, rfl⟩, _, rfl, a, _, rfl, .inl hs, ?_⟩
    have hl1 : (V.str "vars" :: (ns.map V.str ++ [])).length ≤ 1000 := by
      rw [List.append_nil, List.length_cons, List.length_map]
      omega
    refine ⟨hl1, fun l1 H1 n1 => ?_⟩
    refine ⟨_, l1, "vars" :: ns, rfl, rfl, .inl (SqL.of ?_), ?_, (show 1 ≤ 1000 by decide), fun l H2 n2 => ?_⟩
    · rw [n1.2.1]
      simp
    · have := lineV_sum ok.n
      rw [show (" " : Str).length = 1 by decide +kernel, List.length_cons]
      omega
    have g2 : Grow H l [lineV ns] H2 := ⟨none_of_same n1.2.2 n2.1, n1.2.2.trans n2.2.2, n2.2.1⟩
    refine ⟨_, rfl, b, rfl, ⟨_, Same.seqT g2.s hb⟩, for_tup (Pv := fun i σ H' => ∃ x4 x5 x6 x7 x8 x9 x10 x11, σ = [some (.ref a), some (.ref b), some (.ref c), some (.ref l), x4, x5, x6, x7, x8, x9, x10, x11] ∧ Grow H l (lineV ns :: (ss.take i).map lineS) H') ⟨_, _, _, _, _, _, _, _, rfl, g2⟩ (fun i σ H' _ ⟨_, _, _, _, _, _, _, _, _, g⟩ => Same.seqT g.s hb) ?_ ?_⟩
    · rintro i x σ H3 ex ⟨x4, x5, x6, x7, x8, x9, x10, x11, rfl, g3⟩
      obtain ⟨sy, es, hx⟩ := map_at hbs ex
      have hsy := ok.s.sy sy (List.mem_of_getElem? es)
      obtain ⟨p, ws, rfl, hp, hws⟩ := rp_tup (.inl hx)
      cases hws with
      | @cons w0 _ _ _ z0 hw1 =>
      cases hw1 with
      | @cons w1 _ _ _ z1 hw2 =>
      cases hw2
      cases z0
      obtain ⟨k1, k2⟩ := say_parts hsy
      have hlen := lineS_len ok.m3 hsy
      have l8 := name_len8 k1
      have lw := words_len (okF_of ok.m3 k2)
      unfold lineS at hlen
      have p1 : (Str.empty ++ "say " : Str).length ≤ sizeLine := by decide +kernel
      have p2 : (Str.empty ++ "say " ++ sy.1 : Str).length ≤ sizeLine := sz9 (by rw [len_app, len_app, e0, show ("say " : Str).length = 4 by decide +kernel]; omega)
      have p3 : (Str.empty ++ "say " ++ sy.1 ++ " " : Str).length ≤ sizeLine := sz9 (by rw [len_app, len_app, len_app, e0, show ("say " : Str).length = 4 by decide +kernel, show (" " : Str).length = 1 by decide +kernel]; omega)
      refine ⟨p, _, rfl, Same.seqT g3.s hp, rfl, _, _, rfl, _, _, rfl, rfl, ?_⟩
      refine ⟨_, rfl, .inl ⟨rfl, _, SqL.of g3.e⟩, _, rfl, p1, _, rfl, .inl ⟨_, rfl, sz9 (by omega), _, rfl, p2, _, rfl, p3, _, rfl, w1, sy.2, rfl, dp_same g3.s _ z1, okF_of ok.m3 k2, fun H4 s4 => .inl ⟨_, rfl, sz9 (by omega), _, rfl, sz9 (by omega), ?_⟩⟩⟩
      have g4 := g3.keep s4
      refine ⟨l, _, _, rfl, rfl, g4.e, small1000 (by rw [List.length_map, List.length_cons, List.length_map, List.length_take]; omega), ?_⟩
      refine ⟨_, _, _, _, _, _, _, _, rfl, ?_⟩
      have g5 := g4.put (lineS sy)
      have e5 : lineV ns :: (ss.take i).map lineS ++ [lineS sy] = lineV ns :: (ss.take (i + 1)).map lineS := by
        rw [List.take_add_one, es, List.cons_append]
        simp
      rw [e5] at g5
      exact g5
    · rintro σ H3 ⟨x4, x5, x6, x7, x8, x9, x10, x11, rfl, g3⟩
      rw [ly, List.take_length] at g3
      refine ⟨_, rfl, c, rfl, ⟨_, Same.seqT g3.s hc⟩, for_tup (Pv := fun i σ H' => ∃ x4 x5 x6 x7 x8 x9 x10 x11, σ = [some (.ref a), some (.ref b), some (.ref c), some (.ref l), x4, x5, x6, x7, x8, x9, x10, x11] ∧ Grow H l (linesS ns ss (as.take i)) H') ⟨_, _, _, _, _, _, _, _, rfl, ?_⟩ (fun i σ H' _ ⟨_, _, _, _, _, _, _, _, _, g⟩ => Same.seqT g.s hc) ?_ ?_⟩
      · have e6 : linesS ns ss (as.take 0) = lineV ns :: ss.map lineS := by
          unfold linesS
          simp
        rw [e6]
        exact g3
      · rintro i x σ H4 ex ⟨x4, x5, x6, x7, x8, x9, x10, x11, rfl, g4⟩
        obtain ⟨ar, ea, hx⟩ := map_at hcs ex
        have har := ok.arm ar (List.mem_of_getElem? ea)
        obtain ⟨p, ws, rfl, hp, hws⟩ := rp_tup (.inl hx)
        cases hws with
        | @cons w0 _ _ _ z0 hw1 =>
        cases hw1 with
        | @cons w1 _ _ _ z1 hw2 =>
        cases hw2 with
        | @cons w2 _ _ _ z2 hw3 =>
        cases hw3 with
        | @cons w3 _ _ _ z3 hw4 =>
        cases hw4
        cases z0
        cases z1
        have hlen := lineB_len har
        have l8 := name_len8 har.s
        have l9 := name_len8 har.t
        unfold lineB at hlen
        have okI : OkT m ns ss (as.take i) := ⟨ok.m3, ok.n, ok.s, by rw [List.length_take]; omega, fun a ha => ok.arm a (List.mem_of_mem_take ha)⟩
        have lI := lines_len okI
        have p1 : (Str.empty ++ "branch " : Str).length ≤ sizeLine := by decide +kernel
        have p2 : (Str.empty ++ "branch " ++ ar.src : Str).length ≤ sizeLine := sz9 (by rw [len_app, len_app, e0, show ("branch " : Str).length = 7 by decide +kernel]; omega)
        have p3 : (Str.empty ++ "branch " ++ ar.src ++ " " : Str).length ≤ sizeLine := sz9 (by rw [len_app, len_app, len_app, e0, show ("branch " : Str).length = 7 by decide +kernel, show (" " : Str).length = 1 by decide +kernel]; omega)
        refine ⟨p, _, rfl, Same.seqT g4.s hp, rfl, _, _, rfl, _, _, rfl, _, _, rfl, _, _, rfl, rfl, ?_⟩
        refine ⟨_, rfl, .inl ⟨rfl, _, SqL.of g4.e⟩, _, rfl, p1, _, rfl, .inl ⟨_, rfl, sz9 (by omega), _, rfl, p2, _, rfl, p3, _, rfl, .inl ⟨_, rfl, sz9 (by omega), _, rfl, sz9 (by omega), ?_⟩⟩⟩
        refine ⟨l, _, _, rfl, rfl, g4.e, small1000 (by rw [List.length_map]; omega), ?_⟩
        have g5 := g4.put (lineB ar)
        obtain ⟨d, ts, rfl, hd, hds⟩ := rp_tup (.inl z2)
        obtain ⟨q, cs, rfl, hq, hqs⟩ := rp_tup (.inl z3)
        have lt := dp_len hds
        have lc := dp_len hqs
        rw [List.length_map] at lt lc
        have t3 := har.t3
        have cm := har.cm
        have m3 := ok.m3
        refine ⟨_, rfl, d, rfl, ⟨_, Same.seqT g5.s hd⟩, for_tup (Pv := fun j σ H' => ∃ x10 x11, σ = [some (.ref a), some (.ref b), some (.ref c), some (.ref l), x4, x5, some (.str ar.src), some (.str ar.tgt), some (.ref d), some (.ref q), x10, x11] ∧ Grow H l (linesS ns ss (as.take i) ++ lineB ar :: (ar.tests.take j).map lineT) H') ⟨_, _, rfl, g5⟩ (fun j σ H' _ ⟨_, _, _, g⟩ => Same.seqT g.s hd) ?_ ?_⟩
        · rintro j x σ H6 ex ⟨x10, x11, rfl, g6⟩
          obtain ⟨te, et, hx⟩ := map_at hds ex
          have hte := okF_of ok.m3 (forms_each har.ts te (List.mem_of_getElem? et))
          have hlt := lineT_len hte
          have lw := words_len hte
          unfold lineT at hlt
          have p4 : (Str.empty ++ "test " : Str).length ≤ sizeLine := by decide +kernel
          refine ⟨_, rfl, .inl ⟨rfl, _, SqL.of g6.e⟩, _, rfl, p4, _, rfl, x, te, rfl, dp_same g6.s _ hx, hte, fun H7 s7 => .inl ⟨_, rfl, sz9 (by omega), _, rfl, sz9 (by omega), ?_⟩⟩
          have g7 := g6.keep s7
          refine ⟨l, _, _, rfl, rfl, g7.e, small1000 (by rw [List.length_map, List.length_append, List.length_cons, List.length_map, List.length_take]; omega), ?_⟩
          refine ⟨_, _, rfl, ?_⟩
          have g8 := g7.put (lineT te)
          have e8 : linesS ns ss (as.take i) ++ lineB ar :: (ar.tests.take j).map lineT ++ [lineT te] = linesS ns ss (as.take i) ++ lineB ar :: (ar.tests.take (j + 1)).map lineT := by
            rw [List.take_add_one, et, List.append_assoc, List.cons_append]
            simp
          rw [e8] at g8
          exact g8
        · rintro σ H6 ⟨x10, x11, rfl, g6⟩
          rw [lt, List.take_length] at g6
          refine ⟨_, rfl, .inl ⟨rfl, _, SqL.of g6.e⟩, ⟨_, rfl⟩, _, rfl, q, rfl, ⟨_, Same.seqT g6.s hq⟩, lcR (walk_tup (xs := cs)) (n1 := by omega) (fun H' s' => Same.seqT (g6.s.trans s') hq) (fun i y _ => ∃ s, ar.turns[i]? = some s ∧ y = .str (wordsS s)) (fun _ _ _ _ _ e => e) ?_ ?_⟩
          · rintro D acc j x Ha Hb K2 hi s nD hD ⟨rfl, ex⟩ kk
            obtain ⟨tu, en, hx⟩ := map_at hqs ex
            have htu := okF_of ok.m3 (forms_each har.cs tu (List.mem_of_getElem? en))
            exact ⟨rfl, _, rfl, x, tu, rfl, dp_same (g6.s.trans s) _ hx, htu, fun Hc sc => kk _ _ sc ⟨tu, en, rfl⟩⟩
          · rintro D H7 ys nw hlen he
            have ey : ys = (ar.turns.map wordsS).map V.str := by
              rw [List.map_map]
              exact list_is (by rw [hlen, lc]) he
            subst ey
            have g7 := g6.keep nw.2.2
            have q1 := turns_sum ok.m3 har
            have q2 := turns_len ok.m3 har
            have q3 := lineE_len ok.m3 har
            unfold lineE at q3
            refine ⟨_, D, ar.turns.map wordsS, rfl, rfl, .inl (SqL.of nw.2.1), ?_, _, _, rfl, rfl, sz9 (by rw [show ("then " : Str).length = 5 by decide +kernel]; omega), ?_⟩
            · rw [show ("; " : Str).length = 2 by decide +kernel, List.length_map]
              omega
            refine ⟨l, _, _, rfl, rfl, g7.e, small1000 (by rw [List.length_map, List.length_append, List.length_cons, List.length_map]; omega), ?_⟩
            refine ⟨_, _, _, _, _, _, _, _, rfl, ?_⟩
            have g8 := g7.put (lineE ar)
            have e8 : linesS ns ss (as.take i) ++ lineB ar :: ar.tests.map lineT ++ [lineE ar] = linesS ns ss (as.take (i + 1)) := by
              rw [List.take_add_one, ea]
              unfold linesS armL
              simp
            rw [e8] at g8
            exact g8
      · rintro σ H4 ⟨x4, x5, x6, x7, x8, x9, x10, x11, rfl, g4⟩
        rw [lz, List.take_length] at g4
        have h1 := lines_sum ok
        have h2 := lines_len ok
        refine ⟨⟨_, rfl⟩, _, rfl, _, l, linesS ns ss as, rfl, rfl, .inl (SqL.of g4.e), ?_, k H4 g4.s⟩
        rw [show ("\n" : Str).length = 1 by decide +kernel]
        omega
end
end Pg
set_option Elab.async false
set_option linter.all false
set_option maxRecDepth 100000
set_option maxHeartbeats 8000000
namespace Nu
open PySem PySem.Spec PyProof.Rows L2 TL
theorem numL_head : ∀ n : Nat, 1 ≤ n → ∃ c r, numL n = c :: r ∧ 49 ≤ c := by
  intro n
  induction n using Nat.strongRecOn with
  | _ n ih =>
    intro h1
    by_cases h : n < 10
    · exact ⟨48 + n, [], numL_lt h, by omega⟩
    · obtain ⟨c, r, e, h2⟩ := ih (n / 10) (by omega) (by omega)
      exact ⟨c, r ++ [48 + n % 10], by rw [numL_step (by omega), e, List.cons_append], h2⟩
/-- the figures of a number's text -/
def figsS (i : Int) : Str := ⟨(numL i.natAbs).toArray⟩
theorem tl_figs (i : Int) : tl (figsS i) = numL i.natAbs := rfl
theorem sub_zero (x y : Str) : Builtin.Str.subAt x y 0 = ((tl x).take y.length == tl y) := by
  unfold Builtin.Str.subAt
  rw [Bool.eq_iff_iff, beq_iff_eq, beq_iff_eq, ← Array.toList_inj, Array.toList_extract]
  simp [TL.tl, List.extract]
theorem rm_num (i : Int) : Txt.removeprefix (numS i) "-" = figsS i := by
  rw [StrLaws.removeprefix_eq, sub_zero]
  have e1 : ("-" : Str).length = 1 := by decide +kernel
  have e2 : tl ("-" : Str) = [45] := by decide +kernel
  rw [e1, e2]
  cases i with
  | ofNat n =>
    have h0 : tl (numS (Int.ofNat n)) = numL n := tl_pos n
    have hf : ((tl (numS (Int.ofNat n))).take 1 == [45]) = false := by
      rw [h0]
      cases h : numL n with
      | nil => rfl
      | cons c r =>
        have hd := numL_digits n c (by rw [h]; exact List.mem_cons_self ..)
        rw [Bool.eq_false_iff]
        intro hh
        have : [c] = [45] := by simpa using hh
        have : c = 45 := by simpa using this
        omega
    rw [hf, Bool.and_false, if_neg Bool.false_ne_true]
    exact ext_tl h0
  | negSucc n =>
    have h0 : tl (numS (Int.negSucc n)) = 45 :: numL (n + 1) := tl_neg n
    have hl : (numS (Int.negSucc n)).length = (numL (n + 1)).length + 1 := by
      rw [len_tl, h0, List.length_cons]
    have h1 : ((tl (numS (Int.negSucc n))).take 1 == [45]) = true := by
      rw [h0]
      rfl
    rw [h1, hl, decide_eq_true (by omega), Bool.and_self, if_pos rfl]
    apply ext_tl
    show ((tl (numS (Int.negSucc n))).drop 1).take _ = _
    rw [h0]
    show (numL (n + 1)).take _ = _
    rw [Nat.add_sub_cancel, List.take_length]
    rfl
end Nu
namespace Pg
open PySem PySem.Spec PyProof.Rows L2 Gd Rl Te Nu TL
abbrev sNu : Stmt := top 24
abbrev sFo : Stmt := top 36
section
variable {P : Program} {w : World} {K : PySem.W.Frag} {mg : Str → Option Value} {base : Heap} {f : Addr} {fd : FuncData}
theorem truths (n : Nat) : ((List.range n).map fun _ => true).all id = true := by
  rw [List.all_eq_true]
  intro b hb
  obtain ⟨i, _, rfl⟩ := List.mem_map.mp hb
  rfl
/-! ### is_numeral -/
def spNu (K : PySem.W.Frag) : Sp := fun vs H Q _ => ∃ i : Int, vs = [.str (numS i)] ∧ (-1000000 ≤ i ∧ i ≤ 1000000) ∧ ∀ H', Same H H' → Q (.bl true) H'
theorem scNu : FnScope ["word", "figures", "sign"] ["word"] (defScope sNu) := ⟨rfl, rfl, rfl, by decide +kernel, rfl, by decide +kernel, by decide +kernel⟩
theorem ok_nu (F : FnP K "is_numeral" sNu f fd) (T : Mo mg) : FnOk P w K mg base CX0 1 f fd ["word"] (spNu K) := by
  obtain ⟨t3, c3⟩ := T.figs
  refine F.ok scNu (fun vs H Q E h => ?_) (fun cdv A outer s H vs Q E hr h => ?_)
  · obtain ⟨v, rfl, _⟩ := h
    rfl
  · obtain ⟨i, rfl, hi, k⟩ := h
    refine ⟨_, PSs.nox <| pss_cons (ps_set (i := 1) scNu.nd rfl (.inl rfl) (pe_bm PySem.F.plainAttrs_str PySem.F.slot_str_removeprefix PySem.F.type_str_removeprefix mt_removeprefix (pv 0) (pa_cons pe_str pa_nil)))
      <| pss_cons (ps_if (PW.pt (pw_or (pt_not (pt_truth (pv 1) (by intro _; rfl))) (pw_or1 (pt_not (pt_val (pe_callB (cr_all rfl) (by rfl) T.all (by decide +kernel) (pa_cons (pe_lc (own := [("sign", 2)]) (g := gName 2) (tt := tYes) rfl scNu.nd (pi_str (pv 1)) (blkOk_by (N := ["word", "figures", "sign"]) (sc := defScope sNu) (by decide +kernel)) (fun _ _ _ _ _ => pg_name (i := 2) scNu.nd rfl (Or.inl rfl)) (fun _ _ _ _ _ => pts_nil)
          (fun _ _ _ _ _ => pe_cmpR op_in_sign (pv 2) (pe_glob (v := .str figS) (by rfl) c3 ⟨_, rfl⟩) (by rfl))) pa_nil))))))) (pss_one (ps_ret pe_bl)) pss_nil)
      <| pss_one (ps_ret (pe_or (pe_cmpR op_ne (pe_item_str (pv 1) pe_int (fun _ _ => rfl)) pe_str (nomark _)) (pe_one (pe_cmpR op_eq (pv 0) pe_str (nomark _))))), ?_⟩
    have hl := num_len hi
    have hf8 : (figsS i).length ≤ 8 := by
      rw [len_tl, tl_figs]
      exact Nat.le_trans (numL_len (n := i.natAbs) (k := 7) (by decide) (by omega)) (by decide)
    have hne : tl (figsS i) ≠ [] := numL_ne _
    have hpos : 1 ≤ (figsS i).length := len1 hne
    refine ⟨_, rfl, rfl, _, _, rfl, rfl, sz9 (by omega), ?_⟩
    rw [rm_num]
    refine ⟨_, rfl, true, ⟨sz9 (by omega), ?_⟩, ?_⟩
    · simp
      omega
    refine iteF ?_
    have hz : (figsS i).cps.size ≤ 1000 := by
      have : (figsS i).cps.size = (figsS i).length := rfl
      omega
    refine ⟨_, rfl, _, rfl, lcR walk_str (n1 := hz) (fun _ _ => trivial) (fun i y _ => y = .bl true) (fun _ _ _ _ _ e => e) ?_ ?_⟩
    · rintro D acc j x Ha Hb K2 hj s nD hD ⟨rfl, c', ec, rfl⟩ kk
      refine ⟨rfl, _, rfl, c', _, rfl, rfl, kk _ _ (Same.refl _) ?_⟩
      have hm : c' ∈ tl (figsS i) := by
        rw [← Array.getElem?_toList] at ec
        exact List.mem_of_getElem? ec
      rw [tl_figs] at hm
      have hd := numL_digits _ c' hm
      have hin : c' ∈ figS.cps.toList := by
        have e4 : figS.cps.toList = [48, 49, 50, 51, 52, 53, 54, 55, 56, 57] := by decide +kernel
        rw [e4]
        simp only [List.mem_cons, List.not_mem_nil, or_false]
        omega
      rw [decide_eq_true hin]
    · rintro D Hb ys nw hlen2 he
      have ey : ys = ((List.range (figsS i).cps.size).map fun _ => true).map V.bl := by
        rw [List.map_map]
        exact list_of hlen2 he
      refine ⟨D, _, rfl, by rw [← ey]; exact SqL.of nw.2.1, _, rfl, ?_⟩
      refine iteBF (notT (truths _)) ?_
      obtain ⟨c, r, hc⟩ : ∃ c r, tl (figsS i) = c :: r := by
        cases h : tl (figsS i) with
        | nil => exact absurd h hne
        | cons c r => exact ⟨c, r, rfl⟩
      have hc0 : (figsS i).cps[(0 : Int).toNat]? = some c := by
        have := hc
        unfold TL.tl at this
        rw [← Array.getElem?_toList, this]
        rfl
      refine ⟨_, rfl, _, 0, c, rfl, rfl, by decide, by decide, by omega, hc0, rfl, _, rfl, ?_⟩
      have kt := k Hb nw.2.2
      by_cases hz0 : i = 0
      · subst hz0
        have ec : c = 48 := by
          rw [tl_figs] at hc
          have : numL (Int.natAbs 0) = [48] := numL_lt (by decide)
          rw [this] at hc
          exact (List.cons.inj hc).1.symm
        subst ec
        refine iteBF (by decide +kernel) ?_
        refine ⟨_, rfl, rfl, ?_⟩
        rw [show decide (V.str (numS 0) = V.str "0") = true by decide +kernel]
        exact kt
      · obtain ⟨c2, r2, e2, h49⟩ := numL_head i.natAbs (by omega)
        rw [tl_figs, e2] at hc
        have ec : c = c2 := (List.cons.inj hc).1.symm
        subst ec
        refine iteBT ?_ kt
        have hne2 : ¬ (V.str ⟨#[c]⟩ = V.str "0") := fun e => by
          have e3 : (⟨#[c]⟩ : Str) = "0" := V.str.inj e
          have e4 : tl (⟨#[c]⟩ : Str) = tl ("0" : Str) := by rw [e3]
          rw [show tl ("0" : Str) = [48] by decide +kernel] at e4
          have : c = 48 := (List.cons.inj (show [c] = [48] from e4)).1
          omega
        simp [hne2]
/-! ### _form_of -/
def spFo (K : PySem.W.Frag) : Sp := fun vs H Q _ => ∃ f : List Int, vs = [.str (wordsS f)] ∧ OkF f ∧ f ≠ [] ∧ ∀ p H', Same H H' → SqT K H' p (f.map V.int) → Q (.ref p) H'
abbrev nFo : List Str := ["text", "words", "longest", "word"]
theorem scFo : FnScope nFo ["text"] (defScope sFo) := ⟨rfl, rfl, rfl, by decide +kernel, rfl, by decide +kernel, by decide +kernel⟩
theorem words_split {f : List Int} (h : f ≠ []) : Txt.split (wordsS f) " " = f.map numS := by
  unfold wordsS
  refine split_join (s := 32) (S := []) (by decide +kernel) (by decide +kernel) (fun e => h (List.map_eq_nil_iff.mp e)) fun p hp => ?_
  obtain ⟨i, _, rfl⟩ := List.mem_map.mp hp
  exact num_free i (.inl (by decide))
theorem ok_fo {fU : Addr} {dU : FuncData} (F : FnP K "_form_of" sFo f fd) (T : Mo mg) (FU : FnP K "is_numeral" sNu fU dU) (gU : mg "is_numeral" = some (.ref fU)) : FnOk P w K mg base CX0 2 f fd ["text"] (spFo K) := by
  have GU : FnOk P w K mg base CX0 1 fU dU ["word"] (spNu K) := ok_nu FU T
  have bU : Binds K dU ["word"] [] := FU.bindsN fun _ _ _ _ _ _ us hl => match us, hl with | [_], _ => rfl
  obtain ⟨t1, c1⟩ := T.mnum
  refine F.ok scFo (fun vs H Q E h => ?_) (fun cdv A outer s H vs Q E hr h => ?_)
  · obtain ⟨v, rfl, _⟩ := h
    rfl
  · obtain ⟨fo, rfl, ok, hne, k⟩ := h
    refine ⟨_, PSs.nox <| pss_cons (ps_set (i := 1) scFo.nd rfl (.inl rfl) (pe_split (pv 0) pe_str))
      <| pss_cons (ps_set (i := 2) scFo.nd rfl (.inr rfl) (pe_callB call_len_str (by rfl) T.len PySem.boot_len (pa_cons (pe_callTy call_str_int (by rfl) T.str (by decide +kernel) (pa_cons (pe_un un_neg (pe_glob (v := .int 1000000) (by rfl) c1 ⟨_, rfl⟩)) pa_nil)) pa_nil)))
      <| pss_cons (ps_if (pt_not (pt_val (pe_callB (cr_all rfl) (by rfl) T.all (by decide +kernel) (pa_cons (pe_lc (own := [("word", 3)]) (g := gName 3) (tt := tYes) rfl scFo.nd (pi_list (pv 1)) (blkOk_by (N := nFo) (sc := defScope sFo) (by decide +kernel)) (fun _ _ _ _ _ => pg_name (i := 3) scFo.nd rfl (Or.inl rfl)) (fun _ _ _ _ _ => pts_nil)
          (fun _ _ _ _ _ => pe_and (pe_cmpR op_le (pe_callB call_len_str (by rfl) T.len PySem.boot_len (pa_cons (pv 3) pa_nil)) (pv 2) (nomark _)) (pe_one (pe_call GU hr (by rfl) gU FU.kp bU .nil pass0 (pa_cons (pv 3) pa_nil))))) pa_nil)))) (pss_one ps_never) pss_nil)
      <| pss_one (ps_ret (pe_callTy call_tuple_of (by rfl) T.tuple (by decide +kernel) (pa_cons (pe_lc (own := [("word", 3)]) (g := gName 3) (tt := tYes) rfl scFo.nd (pi_list (pv 1)) (blkOk_by (N := nFo) (sc := defScope sFo) (by decide +kernel)) (fun _ _ _ _ _ => pg_name (i := 3) scFo.nd rfl (Or.inl rfl)) (fun _ _ _ _ _ => pts_nil)
          (fun _ _ _ _ _ => pe_callTy call_int_str (by rfl) T.int (by decide +kernel) (pa_cons (pv 3) pa_nil))) pa_nil))), ?_⟩
    have lw := words_len ok
    have h4 := ok.four
    refine ⟨_, rfl, ⟨_, rfl⟩, _, _, rfl, rfl, by decide +kernel, sz9 (by omega), fun l nl => ?_⟩
    rw [words_split hne]
    generalize hH1 : upd H l (.lst ((fo.map numS).map V.str)) = H1
    have s1 : Same H H1 := by
      rw [← hH1]
      exact same_new nl
    have e1 : H1 l = some (.lst ((fo.map numS).map V.str)) := by
      rw [← hH1]
      exact upd_same
    have e8 : (Str.ofString (toString (-1000000 : Int))).length = 8 := by decide +kernel
    refine ⟨1000000, rfl, _, rfl, by decide +kernel, _, rfl, sz9 (by rw [e8]; decide), ?_⟩
    rw [e8]
    have lf : ((fo.map numS).map V.str).length ≤ 1000 := by
      rw [List.length_map, List.length_map]
      omega
    have hat : ∀ {i : Nat} {x : V}, ((fo.map numS).map V.str)[i]? = some x → ∃ n, fo[i]? = some n ∧ x = .str (numS n) ∧ (-1000000 ≤ n ∧ n ≤ 1000000) := fun {i x} e => by
      obtain ⟨c, ec, rfl⟩ := strs_at e
      rw [List.getElem?_map] at ec
      cases h : fo[i]? with
      | none =>
        rw [h] at ec
        cases ec
      | some n =>
        rw [h] at ec
        exact ⟨n, rfl, by rw [← Option.some.inj ec], ok.nums n (List.mem_of_getElem? h)⟩
    refine ⟨_, rfl, l, rfl, ⟨_, SqL.of e1⟩, lcR (walk_list (xs := (fo.map numS).map V.str)) (n1 := lf) (fun H' s' => s'.seq (SqL.of e1)) (fun i y _ => y = .bl true) (fun _ _ _ _ _ e => e) ?_ ?_⟩
    · rintro D acc j x Ha Hb K2 hj s nD hD ⟨rfl, ex⟩ kk
      obtain ⟨n, en, rfl, hn⟩ := hat ex
      have hl := num_len hn
      refine ⟨rfl, _, rfl, _, rfl, sz9 (by omega), _, rfl, _, _, rfl, rfl, _, rfl, ?_⟩
      refine iteDY (by omega) ?_
      exact ⟨_, rfl, n, rfl, hn, fun Hc sc => kk _ _ sc rfl⟩
    · rintro D H2 ys nw hlen he
      have ey : ys = ((List.range ((fo.map numS).map V.str).length).map fun _ => true).map V.bl := by
        rw [List.map_map]
        exact list_of hlen he
      refine ⟨D, _, rfl, by rw [← ey]; exact SqL.of nw.2.1, _, rfl, ?_⟩
      refine iteBF (notT (truths _)) ?_
      have e2 := nw.2.2 _ _ e1
      refine ⟨_, rfl, l, rfl, ⟨_, SqL.of e2⟩, lcR (walk_list (xs := (fo.map numS).map V.str)) (n1 := lf) (fun H' s' => s'.seq (SqL.of e2)) (fun i y _ => ∃ s, fo[i]? = some s ∧ y = .int s) (fun _ _ _ _ _ e => e) ?_ ?_⟩
      · rintro D2 acc j x Ha Hb K2 hj s nD hD ⟨rfl, ex⟩ kk
        obtain ⟨n, en, rfl, hn⟩ := hat ex
        have hl := num_len hn
        exact ⟨rfl, _, rfl, _, n, rfl, num_read hn, by omega, kk _ _ (Same.refl _) ⟨n, en, rfl⟩⟩
      · rintro D2 H3 zs nw2 hlen2 he2
        have ez : zs = fo.map V.int := list_is (by rw [hlen2, List.length_map, List.length_map]) he2
        subst ez
        refine ⟨D2, _, rfl, .inl ⟨SqL.of nw2.2.1, fun q nq => ?_⟩⟩
        exact k q _ (s1.trans (nw.2.2.trans (nw2.2.2.trans (same_new nq)))) (SqT.of upd_same)
end
end Pg
set_option Elab.async false
set_option linter.all false
set_option maxRecDepth 100000
set_option maxHeartbeats 8000000
namespace Pg
open PySem PySem.Spec PyProof.Rows L2 Gd Rl Te Nu TL
abbrev sPa : Stmt := top 35
/-! ### the lines, one by one -/
inductive Ln where
  | v (ns : List Str)
  | s (p : Str) (f : List Int)
  | b (s t : Str)
  | t (f : List Int)
  | e (fs : List (List Int))
def txtL : Ln → Str
  | .v ns => lineV ns
  | .s p f => lineS (p, f)
  | .b s t => Str.empty ++ "branch " ++ s ++ " " ++ t
  | .t f => lineT f
  | .e fs => "then " ++ Txt.join "; " (fs.map wordsS)
def armN (a : Arm) : List Ln := .b a.src a.tgt :: (a.tests.map Ln.t ++ [.e a.turns])
def allN (ns : List Str) (ss : List (Str × List Int)) (as : List Arm) : List Ln := .v ns :: ((ss.map fun s => Ln.s s.1 s.2) ++ (as.map armN).flatten)
theorem txt_arm (a : Arm) : (armN a).map txtL = armL a := by
  unfold armN armL
  rw [List.map_cons, List.map_append, List.map_map]
  rfl
theorem txt_all (ns : List Str) (ss : List (Str × List Int)) (as : List Arm) : (allN ns ss as).map txtL = linesS ns ss as := by
  unfold allN linesS
  rw [List.map_cons, List.map_append, List.map_map, List.map_flatten, List.map_map]
  congr 2
  congr 1
  exact List.map_congr_left fun a _ => txt_arm a
/-- what has been read -/
structure Ms where
  names : List Str
  says : List (Str × List Int)
  arms : List Arm
  src : Str
  tgt : Str
  tests : List (List Int)
def stepM (m : Ms) : Ln → Ms
  | .v ns => { m with names := ns }
  | .s p f => { m with says := m.says ++ [(p, f)] }
  | .b s t => { m with src := s, tgt := t, tests := [] }
  | .t f => { m with tests := m.tests ++ [f] }
  | .e fs => { m with arms := m.arms ++ [⟨m.src, m.tgt, m.tests, fs⟩] }
def m0 : Ms := ⟨[], [], [], "", "", []⟩
theorem fold_says (ss : List (Str × List Int)) : ∀ m : Ms, (ss.map fun s => Ln.s s.1 s.2).foldl stepM m = { m with says := m.says ++ ss } := by
  induction ss with
  | nil =>
    intro m
    simp
  | cons s ss ih =>
    intro m
    rw [List.map_cons, List.foldl_cons, ih]
    simp [stepM]
theorem fold_tests (ts : List (List Int)) : ∀ m : Ms, (ts.map Ln.t).foldl stepM m = { m with tests := m.tests ++ ts } := by
  induction ts with
  | nil =>
    intro m
    simp
  | cons s ts ih =>
    intro m
    rw [List.map_cons, List.foldl_cons, ih]
    simp [stepM]
theorem fold_arm (a : Arm) (m : Ms) : (armN a).foldl stepM m = { m with arms := m.arms ++ [a], src := a.src, tgt := a.tgt, tests := a.tests } := by
  unfold armN
  rw [List.foldl_cons, List.foldl_append, fold_tests]
  rfl
theorem fold_arms (as : List Arm) : ∀ m : Ms, ∃ s t te, (as.map armN).flatten.foldl stepM m = { m with arms := m.arms ++ as, src := s, tgt := t, tests := te } := by
  induction as with
  | nil =>
    intro m
    exact ⟨m.src, m.tgt, m.tests, by simp⟩
  | cons a as ih =>
    intro m
    rw [List.map_cons, List.flatten_cons, List.foldl_append, fold_arm]
    obtain ⟨s, t, te, e⟩ := ih { m with arms := m.arms ++ [a], src := a.src, tgt := a.tgt, tests := a.tests }
    exact ⟨s, t, te, by rw [e]; simp⟩
theorem fold_all (ns : List Str) (ss : List (Str × List Int)) (as : List Arm) : ∃ s t te, (allN ns ss as).foldl stepM m0 = ⟨ns, ss, as, s, t, te⟩ := by
  unfold allN
  rw [List.foldl_cons, List.foldl_append, fold_says]
  obtain ⟨s, t, te, e⟩ := fold_arms as { (stepM m0 (.v ns)) with says := (stepM m0 (.v ns)).says ++ ss }
  exact ⟨s, t, te, by rw [e]; rfl⟩
/-! ### what the lines hold -/
def OkL : Ln → Prop
  | .v ns => OkN ns
  | .s p f => nameS p = true ∧ OkF f ∧ f ≠ []
  | .b s t => nameS s = true ∧ nameS t = true
  | .t f => OkF f ∧ f ≠ []
  | .e fs => fs ≠ [] ∧ fs.length ≤ 3 ∧ ∀ f ∈ fs, OkF f ∧ f ≠ []
theorem form_ne {m : Nat} {f : List Int} (h : formB m (fD f) = true) : f ≠ [] := fun e => by
  have := (form_nums h).1
  rw [e] at this
  cases this
theorem all_okL {m : Nat} (h1 : 1 ≤ m) {ns : List Str} {ss : List (Str × List Int)} {as : List Arm} (ok : OkT m ns ss as) : ∀ l ∈ allN ns ss as, OkL l := by
  intro l hl
  unfold allN at hl
  rcases List.mem_cons.mp hl with rfl | hl
  · exact ok.n
  rcases List.mem_append.mp hl with hl | hl
  · obtain ⟨s, hs, rfl⟩ := List.mem_map.mp hl
    obtain ⟨k1, k2⟩ := say_parts (ok.s.sy s hs)
    exact ⟨k1, okF_of ok.m3 k2, form_ne k2⟩
  · obtain ⟨q, hq, hl⟩ := List.mem_flatten.mp hl
    obtain ⟨a, ha, rfl⟩ := List.mem_map.mp hq
    have hA := ok.arm a ha
    unfold armN at hl
    rcases List.mem_cons.mp hl with rfl | hl
    · exact ⟨hA.s, hA.t⟩
    rcases List.mem_append.mp hl with hl | hl
    · obtain ⟨t, ht, rfl⟩ := List.mem_map.mp hl
      have hf := forms_each hA.ts t ht
      exact ⟨okF_of ok.m3 hf, form_ne hf⟩
    · rw [List.mem_singleton.mp hl]
      have hm := hA.cm
      refine ⟨fun e => ?_, by have := ok.m3; omega, fun f hf => ?_⟩
      · rw [e] at hm
        simp at hm
        omega
      · have hf := forms_each hA.cs f hf
        exact ⟨okF_of ok.m3 hf, form_ne hf⟩
/-! ### signs that do not stand in them -/
theorem name_free {z : Str} (h : nameS z = true) {s : Nat} (hs : s ∉ (letS ++ figS).cps.toList) : s ∉ tl z := by
  intro hm
  unfold nameS at h
  cases e : z.cps.toList with
  | nil =>
    unfold TL.tl at hm
    rw [e] at hm
    cases hm
  | cons c r =>
    rw [e] at h
    simp only [Bool.and_eq_true] at h
    have h2 := List.all_eq_true.mp h.2.2
    unfold TL.tl at hm
    rw [e] at hm
    exact hs (of_decide_eq_true (h2 s hm))
theorem joinL_free {s : Nat} {S : List Nat} (hS : s ∉ S) : ∀ {ps : List (List Nat)}, (∀ p ∈ ps, s ∉ p) → s ∉ joinL S ps
  | [], _ => fun h => by cases h
  | [p], h => h p (List.mem_singleton.mpr rfl)
  | p :: q :: r, h => by
    intro hm
    have e : joinL S (p :: q :: r) = p ++ (S ++ joinL S (q :: r)) := rfl
    rw [e] at hm
    rcases List.mem_append.mp hm with hm | hm
    · exact h p (List.mem_cons_self ..) hm
    rcases List.mem_append.mp hm with hm | hm
    · exact hS hm
    · exact joinL_free hS (fun z hz => h z (List.mem_cons_of_mem _ hz)) hm
theorem join_free {s : Nat} {y : Str} {ps : List Str} (hS : s ∉ tl y) (h : ∀ p ∈ ps, s ∉ tl p) : s ∉ tl (Txt.join y ps) := by
  rw [join_eq, tl_join]
  refine joinL_free hS fun p hp => ?_
  obtain ⟨z, hz, rfl⟩ := List.mem_map.mp hp
  exact h z hz
theorem words_free {s : Nat} (hs : s < 32 ∨ 57 < s) (f : List Int) : s ∉ tl (wordsS f) := by
  unfold wordsS
  refine join_free ?_ fun p hp => ?_
  · rw [show tl (" " : Str) = [32] by decide +kernel]
    simp
    omega
  · obtain ⟨i, _, rfl⟩ := List.mem_map.mp hp
    exact num_free i (by omega)
theorem free_app {s : Nat} {x y : Str} (h1 : s ∉ tl x) (h2 : s ∉ tl y) : s ∉ tl (x ++ y) := by
  rw [tl_append]
  intro h
  rcases List.mem_append.mp h with h | h
  · exact h1 h
  · exact h2 h
theorem line_free {l : Ln} (h : OkL l) : 10 ∉ tl (txtL l) := by
  have nf : ∀ {z : Str}, nameS z = true → 10 ∉ tl z := fun h => name_free h (by decide +kernel)
  cases l with
  | v ns =>
    refine join_free (by decide +kernel) fun p hp => ?_
    rcases List.mem_cons.mp hp with rfl | hp
    · decide +kernel
    · exact nf ((show OkN ns from h).nm p hp)
  | s p f => exact free_app (free_app (free_app (free_app (by decide +kernel) (by decide +kernel)) (nf h.1)) (by decide +kernel)) (words_free (by decide) f)
  | b s t => exact free_app (free_app (free_app (free_app (by decide +kernel) (by decide +kernel)) (nf h.1)) (by decide +kernel)) (nf h.2)
  | t f => exact free_app (free_app (by decide +kernel) (by decide +kernel)) (words_free (by decide) f)
  | e fs =>
    refine free_app (by decide +kernel) (join_free (by decide +kernel) fun p hp => ?_)
    obtain ⟨f, _, rfl⟩ := List.mem_map.mp hp
    exact words_free (by decide) f
theorem text_split {m : Nat} (h1 : 1 ≤ m) {ns : List Str} {ss : List (Str × List Int)} {as : List Arm} (ok : OkT m ns ss as) : Txt.split (textS ns ss as) "\n" = (allN ns ss as).map txtL := by
  unfold textS
  rw [← txt_all]
  refine split_join (s := 10) (S := []) (by decide +kernel) (by decide +kernel) (fun e => ?_) fun p hp => ?_
  · unfold allN at e
    rw [List.map_cons] at e
    cases e
  · obtain ⟨l, hl, rfl⟩ := List.mem_map.mp hp
    exact line_free (all_okL h1 ok l hl)
/-! ### the first word of a line, and the rest -/
def wordL : Ln → Str
  | .v _ => "vars"
  | .s _ _ => "say"
  | .b _ _ => "branch"
  | .t _ => "test"
  | .e _ => "then"
def restL : Ln → Str
  | .v ns => Txt.join " " ns
  | .s p f => p ++ " " ++ wordsS f
  | .b s t => s ++ " " ++ t
  | .t f => wordsS f
  | .e fs => Txt.join "; " (fs.map wordsS)
theorem line_cut {l : Ln} (h : OkL l) : txtL l = wordL l ++ " " ++ restL l := by
  cases l with
  | v ns =>
    cases ns with
    | nil => exact absurd (show OkN [] from h).one (by decide)
    | cons n r =>
      show Txt.join " " ("vars" :: n :: r) = "vars" ++ " " ++ Txt.join " " (n :: r)
      rw [join_eq, join_eq]
      rfl
  | s p f =>
    apply ext_tl
    show tl (Str.empty ++ "say " ++ p ++ " " ++ wordsS f) = tl ("say" ++ " " ++ (p ++ " " ++ wordsS f))
    simp only [tl_append, List.append_assoc]
    rw [show tl ("say " : Str) = tl ("say" : Str) ++ tl (" " : Str) by decide +kernel, List.append_assoc]
    rfl
  | b s t =>
    apply ext_tl
    show tl (Str.empty ++ "branch " ++ s ++ " " ++ t) = tl ("branch" ++ " " ++ (s ++ " " ++ t))
    simp only [tl_append, List.append_assoc]
    rw [show tl ("branch " : Str) = tl ("branch" : Str) ++ tl (" " : Str) by decide +kernel, List.append_assoc]
    rfl
  | t f =>
    apply ext_tl
    show tl (Str.empty ++ "test " ++ wordsS f) = tl ("test" ++ " " ++ wordsS f)
    simp only [tl_append, List.append_assoc]
    rw [show tl ("test " : Str) = tl ("test" : Str) ++ tl (" " : Str) by decide +kernel, List.append_assoc]
    rfl
  | e fs =>
    apply ext_tl
    show tl ("then " ++ Txt.join "; " (fs.map wordsS)) = tl ("then" ++ " " ++ Txt.join "; " (fs.map wordsS))
    simp only [tl_append, List.append_assoc]
    rw [show tl ("then " : Str) = tl ("then" : Str) ++ tl (" " : Str) by decide +kernel, List.append_assoc]
theorem word_free (l : Ln) : 32 ∉ tl (wordL l) := by
  cases l with
  | v _ => exact (by decide +kernel : 32 ∉ tl ("vars" : Str))
  | s _ _ => exact (by decide +kernel : 32 ∉ tl ("say" : Str))
  | b _ _ => exact (by decide +kernel : 32 ∉ tl ("branch" : Str))
  | t _ => exact (by decide +kernel : 32 ∉ tl ("test" : Str))
  | e _ => exact (by decide +kernel : 32 ∉ tl ("then" : Str))
theorem line_part {l : Ln} (h : OkL l) : Txt.partition (txtL l) " " = (wordL l, (" " : Str), restL l) := by
  rw [line_cut h]
  exact partition_app (s := 32) (S := []) (by decide +kernel) (word_free l)
theorem two_part {a b : Str} (h : nameS a = true) : Txt.partition (a ++ " " ++ b) " " = (a, (" " : Str), b) :=
  partition_app (s := 32) (S := []) (by decide +kernel) (name_free h (by decide +kernel))
theorem names_split {ns : List Str} (h : OkN ns) : Txt.split (Txt.join " " ns) " " = ns :=
  split_join (y := " ") (s := 32) (S := []) (by decide +kernel) (by decide +kernel) (fun e => absurd h.one (by rw [e]; decide)) fun p hp => name_free (h.nm p hp) (by decide +kernel)
theorem turns_split {fs : List (List Int)} (h : fs ≠ []) : Txt.split (Txt.join "; " (fs.map wordsS)) "; " = fs.map wordsS := by
  refine split_join (s := 59) (S := [32]) (by decide +kernel) (by decide +kernel) (fun e => h (List.map_eq_nil_iff.mp e)) fun p hp => ?_
  obtain ⟨f, _, rfl⟩ := List.mem_map.mp hp
  exact words_free (by decide) f
end Pg
set_option Elab.async false
set_option linter.all false
set_option maxRecDepth 100000
set_option maxHeartbeats 16000000
namespace Pg
open PySem PySem.Spec PyProof.Rows L2 Gd Rl Te Nu TL
/-! ### data without lists stays where a list is changed -/
mutual
def nolD : PyData → Bool
  | .list _ => false
  | .tuple ds => nolAll ds
  | _ => true
def nolAll : List PyData → Bool
  | [] => true
  | d :: ds => nolD d && nolAll ds
end
theorem seqT_upd {K : PySem.W.Frag} {H : Hp} {l a : Addr} {X Y xs : List V} (hl : H l = some (.lst X)) (h : SqT K H a xs) : SqT K (upd H l (.lst Y)) a xs := by
  rcases h with (h | ⟨o, h⟩) | h
  · refine .inl (.inl ?_)
    rw [upd_ne (fun e => by rw [e, hl] at h; cases h)]
    exact h
  · refine .inl (.inr ⟨o, ?_⟩)
    rw [upd_ne (fun e => by rw [e, hl] at h; cases h)]
    exact h
  · exact .inr h
mutual
theorem dp_upd {K : PySem.W.Frag} {H : Hp} {l : Addr} {X Y : List V} (hl : H l = some (.lst X)) : ∀ (d : PyData) {v : V}, nolD d = true → Dp K H v d → Dp K (upd H l (.lst Y)) v d
  | .none, _, _, h => by cases h; exact .non
  | .bool b, _, _, h => by cases h; exact .bl b
  | .int i, _, _, h => by cases h; exact .int i
  | .str z, _, _, h => by cases h; exact .str z
  | .list ds, _, n, _ => by cases n
  | .tuple ds, _, n, h => by
    cases h with
    | tup hs ha => exact .tup (seqT_upd hl hs) (dp_updAll hl ds (by rw [nolD] at n; exact n) ha)
  | .dict _, _, _, h => by cases h
theorem dp_updAll {K : PySem.W.Frag} {H : Hp} {l : Addr} {X Y : List V} (hl : H l = some (.lst X)) : ∀ (ds : List PyData) {vs : List V}, nolAll ds = true → DpAll K H vs ds → DpAll K (upd H l (.lst Y)) vs ds
  | [], _, _, h => by cases h; exact .nil
  | d :: ds, _, n, h => by
    rw [nolAll, Bool.and_eq_true] at n
    cases h with
    | cons h1 h2 => exact .cons (dp_upd hl d n.1 h1) (dp_updAll hl ds n.2 h2)
end
theorem nol_all : ∀ {l : List PyData}, (∀ d ∈ l, nolD d = true) → nolAll l = true
  | [], _ => rfl
  | d :: l, h => by
    rw [nolAll, h d (List.mem_cons_self ..), nol_all fun e he => h e (List.mem_cons_of_mem _ he)]
    rfl
theorem nol_map {α : Type} {g : α → PyData} (h : ∀ a, nolD (g a) = true) (l : List α) : nolAll (l.map g) = true := nol_all fun d hd => by
  obtain ⟨a, _, rfl⟩ := List.mem_map.mp hd
  exact h a
theorem nol_f (f : List Int) : nolD (fD f) = true := by
  unfold fD
  rw [nolD]
  exact nol_map (fun _ => rfl) f
theorem nol_fs (fs : List (List Int)) : nolD (.tuple (fs.map fD)) = true := by
  rw [nolD]
  exact nol_map nol_f fs
theorem nol_say (s : Str × List Int) : nolD (sayD s) = true := by
  unfold sayD
  simp only [nolD, nolAll, nol_f]
  rfl
theorem nol_four {a b c d : PyData} (h1 : nolD a = true) (h2 : nolD b = true) (h3 : nolD c = true) (h4 : nolD d = true) : nolD (.tuple [a, b, c, d]) = true := by
  simp only [nolD, nolAll, h1, h2, h3, h4]
  rfl
theorem nol_arm (a : Arm) : nolD (armD a) = true := nol_four rfl rfl (nol_fs _) (nol_fs _)
theorem dp_snoc {K : PySem.W.Frag} {H : Hp} {v : V} {d : PyData} (hd : Dp K H v d) : ∀ {vs : List V} {ds : List PyData}, DpAll K H vs ds → DpAll K H (vs ++ [v]) (ds ++ [d])
  | _, _, .nil => .cons hd .nil
  | _, _, .cons a b => .cons a (dp_snoc hd b)
/-! ### what stands while the lines are read -/
structure LstD (K : PySem.W.Frag) (H0 H : Hp) (l : Addr) (ds : List PyData) : Prop where
  n : H0 l = none
  x : ∃ X, H l = some (.lst X) ∧ DpAll K H X ds
theorem LstD.same {K : PySem.W.Frag} {H0 H H' : Hp} {l : Addr} {ds : List PyData} (d : LstD K H0 H l ds) (s : Same H H') : LstD K H0 H' l ds :=
  ⟨d.n, d.x.elim fun X h => ⟨X, s _ _ h.1, dp_sameAll s _ h.2⟩⟩
theorem LstD.other {K : PySem.W.Frag} {H0 H : Hp} {l k : Addr} {ds : List PyData} {X Y : List V} (d : LstD K H0 H l ds) (n : nolAll ds = true) (hk : H k = some (.lst X)) (ne : l ≠ k) : LstD K H0 (upd H k (.lst Y)) l ds :=
  ⟨d.n, d.x.elim fun Z h => ⟨Z, by rw [upd_ne ne]; exact h.1, dp_updAll hk _ n h.2⟩⟩
theorem LstD.put {K : PySem.W.Frag} {H0 H : Hp} {l : Addr} {ds : List PyData} {X : List V} {v : V} {e : PyData} (d : LstD K H0 H l ds) (n : nolAll ds = true) (hl : H l = some (.lst X)) (he : Dp K H v e) (ne : nolD e = true) : LstD K H0 (upd H l (.lst (X ++ [v]))) l (ds ++ [e]) := by
  obtain ⟨Z, h1, h2⟩ := d.x
  rw [hl] at h1
  cases h1
  exact ⟨d.n, _, upd_same, dp_snoc (dp_upd hl _ ne he) (dp_updAll hl _ n h2)⟩
structure RepS (K : PySem.W.Frag) (H0 H : Hp) (m : Ms) (a l1 l2 e l3 lL : Addr) (L : List Str) : Prop where
  s : Same H0 H
  na : SqT K H a (m.names.map V.str)
  d1 : LstD K H0 H l1 (m.says.map sayD)
  d2 : LstD K H0 H l2 (m.arms.map armD)
  se : SqT K H e [.str m.src, .str m.tgt]
  d3 : LstD K H0 H l3 (m.tests.map fD)
  ll : H lL = some (.lst (L.map V.str))
  n12 : l1 ≠ l2
  n13 : l1 ≠ l3
  n23 : l2 ≠ l3
  nL1 : lL ≠ l1
  nL2 : lL ≠ l2
  nL3 : lL ≠ l3
section
variable {K : PySem.W.Frag} {H0 H H' : Hp} {m : Ms} {a l1 l2 e l3 lL : Addr} {L : List Str}
theorem RepS.same (r : RepS K H0 H m a l1 l2 e l3 lL L) (s : Same H H') : RepS K H0 H' m a l1 l2 e l3 lL L :=
  ⟨r.s.trans s, Same.seqT s r.na, r.d1.same s, r.d2.same s, Same.seqT s r.se, r.d3.same s, s _ _ r.ll, r.n12, r.n13, r.n23, r.nL1, r.nL2, r.nL3⟩
theorem keep_new {l : Addr} {Y : List V} (s : Same H0 H) (n : H0 l = none) : Same H0 (upd H l (.lst Y)) := fun b o h => by
  rw [upd_ne (ne_of_none h n)]
  exact s _ _ h
theorem RepS.put1 {X : List V} {v : V} {p : Str} {f : List Int} (r : RepS K H0 H m a l1 l2 e l3 lL L) (h : H l1 = some (.lst X)) (hv : Dp K H v (sayD (p, f))) : RepS K H0 (upd H l1 (.lst (X ++ [v]))) (stepM m (.s p f)) a l1 l2 e l3 lL L :=
  ⟨keep_new r.s r.d1.n, seqT_upd h r.na, by
    show LstD _ _ _ _ ((m.says ++ [(p, f)]).map sayD)
    rw [List.map_append]
    exact r.d1.put (nol_map nol_say _) h hv (nol_say _), r.d2.other (nol_map nol_arm _) h r.n12.symm, seqT_upd h r.se, r.d3.other (nol_map nol_f _) h r.n13.symm, by rw [upd_ne r.nL1]; exact r.ll, r.n12, r.n13, r.n23, r.nL1, r.nL2, r.nL3⟩
theorem RepS.put2 {X : List V} {v : V} {fs : List (List Int)} (r : RepS K H0 H m a l1 l2 e l3 lL L) (h : H l2 = some (.lst X)) (hv : Dp K H v (armD ⟨m.src, m.tgt, m.tests, fs⟩)) : RepS K H0 (upd H l2 (.lst (X ++ [v]))) (stepM m (.e fs)) a l1 l2 e l3 lL L :=
  ⟨keep_new r.s r.d2.n, seqT_upd h r.na, r.d1.other (nol_map nol_say _) h r.n12, by
    show LstD _ _ _ _ ((m.arms ++ [(⟨m.src, m.tgt, m.tests, fs⟩ : Arm)]).map armD)
    rw [List.map_append]
    exact r.d2.put (nol_map nol_arm _) h hv (nol_arm _), seqT_upd h r.se, r.d3.other (nol_map nol_f _) h r.n23.symm, by rw [upd_ne r.nL2]; exact r.ll, r.n12, r.n13, r.n23, r.nL1, r.nL2, r.nL3⟩
theorem RepS.put3 {X : List V} {v : V} {f : List Int} (r : RepS K H0 H m a l1 l2 e l3 lL L) (h : H l3 = some (.lst X)) (hv : Dp K H v (fD f)) : RepS K H0 (upd H l3 (.lst (X ++ [v]))) (stepM m (.t f)) a l1 l2 e l3 lL L :=
  ⟨keep_new r.s r.d3.n, seqT_upd h r.na, r.d1.other (nol_map nol_say _) h r.n13, r.d2.other (nol_map nol_arm _) h r.n23, seqT_upd h r.se, by
    show LstD _ _ _ _ ((m.tests ++ [f]).map fD)
    rw [List.map_append]
    exact r.d3.put (nol_map nol_f _) h hv (nol_f _), by rw [upd_ne r.nL3]; exact r.ll, r.n12, r.n13, r.n23, r.nL1, r.nL2, r.nL3⟩
end
theorem dp_ints {K : PySem.W.Frag} {H : Hp} {p : Addr} {f : List Int} (h : SqT K H p (f.map V.int)) : Dp K H (.ref p) (fD f) := by
  refine .tup h ?_
  clear h
  induction f with
  | nil => exact .nil
  | cons i f ih => exact .cons (.int i) ih
theorem dp_names {K : PySem.W.Frag} {H : Hp} {p : Addr} {ns : List Str} (h : SqT K H p (ns.map V.str)) : Dp K H (.ref p) (namesD ns) := by
  refine .tup h ?_
  clear h
  induction ns with
  | nil => exact .nil
  | cons i f ih => exact .cons (.str i) ih
theorem lt24 {n : Nat} (h : n ≤ 10000) : n + 2 ≤ sizeLine := by
  have : sizeLine = 16777216 := by decide
  omega
theorem seqT_del {K : PySem.W.Frag} {H : Hp} {l a : Addr} {X xs : List V} (hl : H l = some (.lst X)) (h : SqT K H a xs) : SqT K (delH H l) a xs := by
  rcases h with (h | ⟨o, h⟩) | h
  · refine .inl (.inl ?_)
    rw [delH_ne (fun e => by rw [e, hl] at h; cases h)]
    exact h
  · refine .inl (.inr ⟨o, ?_⟩)
    rw [delH_ne (fun e => by rw [e, hl] at h; cases h)]
    exact h
  · exact .inr h
def cnt (m : Ms) : Nat := m.says.length + m.arms.length + m.tests.length
theorem cnt_step (m : Ms) (l : Ln) : cnt (stepM m l) ≤ cnt m + 1 := by
  cases l <;> simp only [cnt, stepM, List.length_append, List.length_cons, List.length_nil] <;> omega
theorem cnt_fold (ls : List Ln) : ∀ m : Ms, cnt (ls.foldl stepM m) ≤ cnt m + ls.length := by
  induction ls with
  | nil => exact fun m => Nat.le_refl _
  | cons l ls ih =>
    intro m
    rw [List.foldl_cons, List.length_cons]
    have h1 := ih (stepM m l)
    have h2 := cnt_step m l
    omega
theorem del_same {H : Hp} {D : Addr} : Same (delH H D) H := fun b u e => by
  by_cases q : b = D
  · rw [q, delH_same] at e
    cases e
  · rw [delH_ne q] at e
    exact e
theorem neV {a b : Str} (h : tl a ≠ tl b) : ¬ (V.str a = V.str b) := fun e => h (by rw [V.str.inj e])
section
variable {P : Program} {w : World} {K : PySem.W.Frag} {mg : Str → Option Value} {base : Heap} {f : Addr} {fd : FuncData}
def spPa (K : PySem.W.Frag) : Sp := fun vs H Q _ => ∃ (m : Nat) (ns : List Str) (ss : List (Str × List Int)) (as : List Arm), vs = [.str (textS ns ss as)] ∧ 1 ≤ m ∧ OkT m ns ss as ∧
  ∀ p a b c H', Same H H' → SqT K H' p [.ref a, .ref b, .ref c] → Dp K H' (.ref a) (namesD ns) → Dp K H' (.ref b) (saysD ss) → Dp K H' (.ref c) (armsD as) → Q (.ref p) H'
abbrev nPa : List Str := ["text", "names", "sayings", "branches", "ends", "tests", "line", "word", "_", "rest", "place", "numbers", "source", "target", "changes", "part"]
theorem scPa : FnScope nPa ["text"] (defScope sPa) := ⟨rfl, rfl, rfl, by decide +kernel, rfl, by decide +kernel, by decide +kernel⟩
theorem ok_pa {fO fU : Addr} {dO dU : FuncData} (F : FnP K "_parts_of" sPa f fd) (T : Mo mg) (FO : FnP K "_form_of" sFo fO dO) (gO : mg "_form_of" = some (.ref fO)) (FU : FnP K "is_numeral" sNu fU dU) (gU : mg "is_numeral" = some (.ref fU)) : FnOk P w K mg base CX0 3 f fd ["text"] (spPa K) := by
  have GO : FnOk P w K mg base CX0 2 fO dO ["text"] (spFo K) := ok_fo FO T FU gU
  have bO : Binds K dO ["text"] [] := FO.bindsN fun _ _ _ _ _ _ us hl => match us, hl with | [_], _ => rfl
  refine F.ok scPa (fun vs H Q E h => ?_) (fun cdv A outer s H vs Q E hr h => ?_)
  · obtain ⟨m, ns, ss, as, rfl, _⟩ := h
    rfl
  · obtain ⟨m, ns, ss, as, rfl, m1, ok, k⟩ := h
    refine ⟨_, PSs.nox <| pss_cons (ps_set (i := 1) scPa.nd rfl (.inl rfl) (pe_tupR pa_nil))
      <| pss_cons (ps_set (i := 2) scPa.nd rfl (.inl rfl) (pe_lstR pa_nil))
      <| pss_cons (ps_set (i := 3) scPa.nd rfl (.inl rfl) (pe_lstR pa_nil))
      <| pss_cons (ps_set (i := 4) scPa.nd rfl (.inl rfl) (pe_tupR (pa_cons pe_str (pa_cons pe_str pa_nil))))
      <| pss_cons (ps_set (i := 5) scPa.nd rfl (.inl rfl) (pe_lstR pa_nil))
      <| pss_cons (ps_for PassesOwn.never rfl (pi_list (pe_split (pv 0) pe_str)) (pg_name (i := 6) scPa.nd rfl (.inl rfl))
          (pss_cons (ps_asg (pe_partition (pv 6) pe_str) (pg_tup (by rfl) (pgs_cons (pg_name (i := 7) scPa.nd rfl (.inl rfl)) (pgs_cons (pg_name (i := 8) scPa.nd rfl (.inl rfl)) (pgs_cons (pg_name (i := 9) scPa.nd rfl (.inl rfl)) pgs_nil)))))
          <| pss_one (ps_if (pt_cmpR op_eq (pv 7) pe_str (nomark _))
              (pss_one (ps_set (i := 1) scPa.nd rfl (.inl rfl) (pe_callTy call_tuple_of (by rfl) T.tuple (by decide +kernel) (pa_cons (pe_split (pv 9) pe_str) pa_nil))))
              (pss_one (ps_if (pt_cmpR op_eq (pv 7) pe_str (nomark _))
                (pss_cons (ps_asg (pe_partition (pv 9) pe_str) (pg_tup (by rfl) (pgs_cons (pg_name (i := 10) scPa.nd rfl (.inl rfl)) (pgs_cons (pg_name (i := 8) scPa.nd rfl (.inl rfl)) (pgs_cons (pg_name (i := 11) scPa.nd rfl (.inl rfl)) pgs_nil)))))
                <| pss_one (ps_expr (pe_bm PySem.F.plainAttrs_list PySem.F.slot_list_append PySem.F.type_list_append mt_append (pv 2) (pa_cons (pe_tupR (pa_cons (pv 10) (pa_cons (pe_call GO hr (by rfl) gO FO.kp bO .nil pass0 (pa_cons (pv 11) pa_nil)) pa_nil))) pa_nil))))
                (pss_one (ps_if (pt_cmpR op_eq (pv 7) pe_str (nomark _))
                  (pss_cons (ps_asg (pe_partition (pv 9) pe_str) (pg_tup (by rfl) (pgs_cons (pg_name (i := 12) scPa.nd rfl (.inl rfl)) (pgs_cons (pg_name (i := 8) scPa.nd rfl (.inl rfl)) (pgs_cons (pg_name (i := 13) scPa.nd rfl (.inl rfl)) pgs_nil)))))
                  <| pss_cons (ps_set (i := 4) scPa.nd rfl (.inl rfl) (pe_tupR (pa_cons (pv 12) (pa_cons (pv 13) pa_nil))))
                  <| pss_one (ps_set (i := 5) scPa.nd rfl (.inl rfl) (pe_lstR pa_nil)))
                  (pss_one (ps_if (pt_cmpR op_eq (pv 7) pe_str (nomark _))
                    (pss_one (ps_expr (pe_bm PySem.F.plainAttrs_list PySem.F.slot_list_append PySem.F.type_list_append mt_append (pv 5) (pa_cons (pe_call GO hr (by rfl) gO FO.kp bO .nil pass0 (pa_cons (pv 9) pa_nil)) pa_nil))))
                    (pss_one (ps_if (pt_cmpR op_eq (pv 7) pe_str (nomark _))
                      (pss_cons (ps_setLc (i := 14) (own := [("part", 15)]) (g := gName 15) (tt := tYes) rfl scPa.nd rfl rfl (sw_true rfl rfl rfl (by decide +kernel)) (pi_list (pe_split (pv 9) pe_str)) (blkOk_by (N := nPa) (sc := defScope sPa) (by decide +kernel)) (fun _ _ _ _ _ => pg_name (i := 15) scPa.nd rfl (Or.inl rfl)) (fun _ _ _ _ _ => pts_nil)
                          (fun _ _ _ _ _ => pe_call GO hr (by rfl) gO FO.kp bO .nil pass0 (pa_cons (pv 15) pa_nil)))
                      <| pss_one (ps_expr (pe_bm PySem.F.plainAttrs_list PySem.F.slot_list_append PySem.F.type_list_append mt_append (pv 3) (pa_cons (pe_tupR (StX.pa_star (pv 4) (pa_cons (pe_callTy call_tuple_of (by rfl) T.tuple (by decide +kernel) (pa_cons (pv 5) pa_nil)) (pa_cons (pe_callTy call_tuple_of (by rfl) T.tuple (by decide +kernel) (pa_cons (pv 14) pa_nil)) pa_nil)))) pa_nil))))
                      pss_nil)))))))))))
      <| pss_one (ps_ret (pe_tupR (pa_cons (pv 1) (pa_cons (pe_callTy call_tuple_of (by rfl) T.tuple (by decide +kernel) (pa_cons (pv 2) pa_nil)) (pa_cons (pe_callTy call_tuple_of (by rfl) T.tuple (by decide +kernel) (pa_cons (pv 3) pa_nil)) pa_nil))))), ?_⟩
    refine ⟨(show 0 ≤ 1000 by decide), fun a H1 n1 => ⟨(show 0 ≤ 1000 by decide), fun l1 H2 n2 => ⟨(show 0 ≤ 1000 by decide), fun l2 H3 n3 => ⟨(show 2 ≤ 1000 by decide), fun e H4 n4 => ⟨(show 0 ≤ 1000 by decide), fun l3 H5 n5 => ?_⟩⟩⟩⟩⟩
    have s45 := n5.2.2
    have s35 := n4.2.2.trans s45
    have s25 := n3.2.2.trans s35
    have s15 := n2.2.2.trans s25
    have s05 := n1.2.2.trans s15
    have tlen := text_len ok
    refine ⟨_, rfl, ⟨_, rfl⟩, _, _, rfl, rfl, by decide +kernel, lt24 (by omega), fun lL nL => ?_⟩
    rw [text_split m1 ok]
    have okl := all_okL m1 ok
    have llen : (allN ns ss as).length ≤ 29 := by
      have := lines_len ok
      rw [← txt_all, List.length_map] at this
      exact this
    have z1 : H l1 = none := none_of_same n1.2.2 n2.1
    have z2 : H l2 = none := none_of_same (n1.2.2.trans n2.2.2) n3.1
    have z3 : H l3 = none := none_of_same (n1.2.2.trans (n2.2.2.trans (n3.2.2.trans n4.2.2))) n5.1
    have y1 := s25 _ _ n2.2.1
    have y2 := s35 _ _ n3.2.1
    have y3 := n5.2.1
    have r0 : RepS K H (upd H5 lL (.lst (((allN ns ss as).map txtL).map V.str))) m0 a l1 l2 e l3 lL ((allN ns ss as).map txtL) := by
      have sN := same_new (o := .lst (((allN ns ss as).map txtL).map V.str)) nL
      exact ⟨s05.trans sN, SqT.of (sN _ _ (s15 _ _ n1.2.1)), ⟨z1, _, sN _ _ y1, .nil⟩, ⟨z2, _, sN _ _ y2, .nil⟩, SqT.of (sN _ _ (s45 _ _ n4.2.1)), ⟨z3, _, sN _ _ y3, .nil⟩, upd_same,
        ne_of_none n2.2.1 n3.1, ne_of_none (n4.2.2 _ _ (n3.2.2 _ _ n2.2.1)) n5.1, ne_of_none (n4.2.2 _ _ n3.2.1) n5.1, (ne_of_none y1 nL).symm, (ne_of_none y2 nL).symm, (ne_of_none y3 nL).symm⟩
    generalize upd H5 lL (.lst (((allN ns ss as).map txtL).map V.str)) = H6 at r0
    refine ⟨lL, rfl, ⟨_, SqL.of r0.ll⟩, for_list (xs := ((allN ns ss as).map txtL).map V.str) (fun i σ H' => ∃ a l1 l2 e l3 x6 x7 x8 x9 x10 x11 x12 x13 x14 x15, σ = [some (.str (textS ns ss as)), some (.ref a), some (.ref l1), some (.ref l2), some (.ref e), some (.ref l3), x6, x7, x8, x9, x10, x11, x12, x13, x14, x15] ∧ RepS K H H' (((allN ns ss as).take i).foldl stepM m0) a l1 l2 e l3 lL ((allN ns ss as).map txtL)) ⟨_, _, _, _, _, _, _, _, _, _, _, _, _, _, _, rfl, r0⟩ (fun i σ H' _ ⟨_, _, _, _, _, _, _, _, _, _, _, _, _, _, _, _, r⟩ => SqL.of r.ll) ?_ ?_⟩
    · rintro i x σ H7 ex ⟨a, l1, l2, e, l3, x6, x7, x8, x9, x10, x11, x12, x13, x14, x15, rfl, r⟩
      rw [List.map_map, List.getElem?_map] at ex
      obtain ⟨ln, eln, rfl⟩ : ∃ ln, (allN ns ss as)[i]? = some ln ∧ x = .str (txtL ln) := by
        cases h : (allN ns ss as)[i]? with
        | none =>
          rw [h] at ex
          cases ex
        | some ln =>
          rw [h] at ex
          exact ⟨ln, rfl, (Option.some.inj ex).symm⟩
      have hok := okl ln (List.mem_of_getElem? eln)
      have ef : ((allN ns ss as).take (i + 1)).foldl stepM m0 = stepM (((allN ns ss as).take i).foldl stepM m0) ln := by
        rw [List.take_add_one, eln, List.foldl_append]
        rfl
      rw [ef]
      have hlen : (txtL ln).length ≤ 119 := by
        refine lines_each ok _ ?_
        rw [← txt_all]
        exact List.mem_map_of_mem (List.mem_of_getElem? eln)
      have hcnt := cnt_fold ((allN ns ss as).take i) m0
      rw [List.length_take] at hcnt
      have hc0 : cnt m0 = 0 := rfl
      generalize ((allN ns ss as).take i).foldl stepM m0 = m at r hcnt ⊢
      have hcm : cnt m ≤ 29 := by omega
      unfold cnt at hcm
      clear ef eln ex
      refine ⟨_, rfl, ⟨_, rfl⟩, _, _, rfl, rfl, by decide +kernel, sz9 (by omega), fun p np => ?_⟩
      rw [line_part hok]
      have hcut := line_cut hok
      have hrest : (restL ln).length ≤ 119 := by
        rw [hcut, len_app, len_app] at hlen
        omega
      refine ⟨p, _, rfl, SqT.of upd_same, rfl, _, _, rfl, _, _, rfl, _, _, rfl, rfl, ?_⟩
      have r1 := r.same (same_new (o := .tup [.str (wordL ln), .str " ", .str (restL ln)]) np)
      generalize upd H7 p (.tup [.str (wordL ln), .str " ", .str (restL ln)]) = H8 at r1
      refine ⟨_, rfl, rfl, _, rfl, ?_⟩
      cases ln with
      | v ns2 =>
        refine iteDY rfl ?_
        have hok2 : OkN ns2 := hok
        refine ⟨_, rfl, ⟨_, rfl⟩, _, _, rfl, rfl, by decide +kernel, lt24 (Nat.le_trans hrest (by decide)), fun q nq => ?_⟩
        show ∃ p2 ys, _
        rw [show restL (.v ns2) = Txt.join " " ns2 from rfl, names_split hok2]
        refine ⟨q, _, rfl, .inl ⟨SqL.of upd_same, fun q2 nq2 => ?_⟩⟩
        refine ⟨_, _, _, _, _, _, _, _, _, _, _, _, _, _, _, rfl, ?_⟩
        have r2 := r1.same ((same_new nq).trans (same_new (o := .tup (ns2.map V.str)) nq2))
        exact ⟨r2.s, SqT.of upd_same, r2.d1, r2.d2, r2.se, r2.d3, r2.ll, r2.n12, r2.n13, r2.n23, r2.nL1, r2.nL2, r2.nL3⟩
      | s pl fo =>
        refine iteDN (neV (show tl ("say" : Str) ≠ tl ("vars" : Str) by decide +kernel)) ?_
        refine ⟨_, rfl, rfl, _, rfl, ?_⟩
        refine iteDY rfl ?_
        refine ⟨_, rfl, ⟨_, rfl⟩, _, _, rfl, rfl, by decide +kernel, sz9 (Nat.le_trans hrest (by decide)), fun q nq => ?_⟩
        rw [show restL (.s pl fo) = pl ++ " " ++ wordsS fo from rfl, two_part hok.1]
        refine ⟨q, _, rfl, SqT.of upd_same, rfl, _, _, rfl, _, _, rfl, _, _, rfl, rfl, ?_⟩
        have r2 := r1.same (same_new (o := .tup [.str pl, .str " ", .str (wordsS fo)]) nq)
        generalize upd H8 q (.tup [.str pl, .str " ", .str (wordsS fo)]) = H9 at r2
        obtain ⟨X1, hX1, hD1⟩ := r2.d1.x
        have l1n := dp_len hD1
        rw [List.length_map] at l1n
        refine ⟨_, rfl, .inl ⟨rfl, _, SqL.of hX1⟩, _, rfl, _, rfl, fo, rfl, hok.2.1, hok.2.2, fun p3 H10 s10 hp3 => ⟨(show 2 ≤ 1000 by decide), fun q4 H11 n11 => ?_⟩⟩
        have s911 := s10.trans n11.2.2
        have r3 := r2.same s911
        refine ⟨l1, _, _, rfl, rfl, s911 _ _ hX1, small1000 (by omega), ?_⟩
        refine ⟨_, _, _, _, _, _, _, _, _, _, _, _, _, _, _, rfl, ?_⟩
        exact r3.put1 (s911 _ _ hX1) (.tup (SqT.of n11.2.1) (.cons (.str _) (.cons (dp_ints (Same.seqT n11.2.2 hp3)) .nil)))
      | b sr tg =>
        refine iteDN (neV (show tl ("branch" : Str) ≠ tl ("vars" : Str) by decide +kernel)) ?_
        refine ⟨_, rfl, rfl, _, rfl, ?_⟩
        refine iteDN (neV (show tl ("branch" : Str) ≠ tl ("say" : Str) by decide +kernel)) ?_
        refine ⟨_, rfl, rfl, _, rfl, ?_⟩
        refine iteDY rfl ?_
        refine ⟨_, rfl, ⟨_, rfl⟩, _, _, rfl, rfl, by decide +kernel, sz9 (Nat.le_trans hrest (by decide)), fun q nq => ?_⟩
        rw [show restL (.b sr tg) = sr ++ " " ++ tg from rfl, two_part hok.1]
        refine ⟨q, _, rfl, SqT.of upd_same, rfl, _, _, rfl, _, _, rfl, _, _, rfl, rfl, ?_⟩
        have r2 := r1.same (same_new (o := .tup [.str sr, .str " ", .str tg]) nq)
        generalize upd H8 q (.tup [.str sr, .str " ", .str tg]) = H9 at r2
        refine ⟨_, rfl, _, rfl, (show 2 ≤ 1000 by decide), fun e2 H10 n10 => ⟨(show 0 ≤ 1000 by decide), fun l4 H11 n11 => ?_⟩⟩
        refine ⟨_, _, _, _, _, _, _, _, _, _, _, _, _, _, _, rfl, ?_⟩
        have r3 := r2.same n10.2.2
        have r4 := r3.same n11.2.2
        obtain ⟨X1, hX1, hD1⟩ := r3.d1.x
        obtain ⟨X2, hX2, hD2⟩ := r3.d2.x
        exact ⟨r4.s, r4.na, r4.d1, r4.d2, SqT.of (n11.2.2 _ _ n10.2.1), ⟨none_of_same r3.s n11.1, _, n11.2.1, .nil⟩, r4.ll, r4.n12, ne_of_none hX1 n11.1, ne_of_none hX2 n11.1, r4.nL1, r4.nL2, ne_of_none r3.ll n11.1⟩
      | t fo =>
        refine iteDN (neV (show tl ("test" : Str) ≠ tl ("vars" : Str) by decide +kernel)) ?_
        refine ⟨_, rfl, rfl, _, rfl, ?_⟩
        refine iteDN (neV (show tl ("test" : Str) ≠ tl ("say" : Str) by decide +kernel)) ?_
        refine ⟨_, rfl, rfl, _, rfl, ?_⟩
        refine iteDN (neV (show tl ("test" : Str) ≠ tl ("branch" : Str) by decide +kernel)) ?_
        refine ⟨_, rfl, rfl, _, rfl, ?_⟩
        refine iteDY rfl ?_
        obtain ⟨X3, hX3, hD3⟩ := r1.d3.x
        have l3n := dp_len hD3
        rw [List.length_map] at l3n
        refine ⟨_, rfl, .inl ⟨rfl, _, SqL.of hX3⟩, _, rfl, fo, rfl, hok.1, hok.2, fun p3 H10 s10 hp3 => ?_⟩
        have r3 := r1.same s10
        refine ⟨l3, _, _, rfl, rfl, s10 _ _ hX3, small1000 (by omega), ?_⟩
        refine ⟨_, _, _, _, _, _, _, _, _, _, _, _, _, _, _, rfl, ?_⟩
        exact r3.put3 (s10 _ _ hX3) (dp_ints hp3)
      | e fs =>
        refine iteDN (neV (show tl ("then" : Str) ≠ tl ("vars" : Str) by decide +kernel)) ?_
        refine ⟨_, rfl, rfl, _, rfl, ?_⟩
        refine iteDN (neV (show tl ("then" : Str) ≠ tl ("say" : Str) by decide +kernel)) ?_
        refine ⟨_, rfl, rfl, _, rfl, ?_⟩
        refine iteDN (neV (show tl ("then" : Str) ≠ tl ("branch" : Str) by decide +kernel)) ?_
        refine ⟨_, rfl, rfl, _, rfl, ?_⟩
        refine iteDN (neV (show tl ("then" : Str) ≠ tl ("test" : Str) by decide +kernel)) ?_
        refine ⟨_, rfl, rfl, _, rfl, ?_⟩
        refine iteDY rfl ?_
        obtain ⟨f0, f3, fo⟩ : fs ≠ [] ∧ fs.length ≤ 3 ∧ ∀ f ∈ fs, OkF f ∧ f ≠ [] := hok
        refine ⟨_, rfl, ⟨_, rfl⟩, _, _, rfl, rfl, by decide +kernel, lt24 (Nat.le_trans hrest (by decide)), fun q nq => ?_⟩
        rw [show restL (.e fs) = Txt.join "; " (fs.map wordsS) from rfl, turns_split f0]
        have hq : (upd H8 q (.lst ((fs.map wordsS).map V.str))) q = some (.lst ((fs.map wordsS).map V.str)) := upd_same
        have r2 := r1.same (same_new (o := .lst ((fs.map wordsS).map V.str)) nq)
        generalize upd H8 q (.lst ((fs.map wordsS).map V.str)) = H9 at r2 hq
        refine ⟨q, rfl, ⟨_, SqL.of hq⟩, lcR (walk_list (xs := (fs.map wordsS).map V.str)) (n1 := by rw [List.length_map, List.length_map]; omega) (fun H' s' => s'.seq (SqL.of hq)) (fun i y Hc => ∃ g, fs[i]? = some g ∧ Dp K Hc y (fD g)) (fun i y Ha Hb s ⟨g, e1, e2⟩ => ⟨g, e1, dp_same s _ e2⟩) ?_ ?_⟩
        · rintro D acc j x Ha Hb K2 hj s nD hD ⟨rfl, ex⟩ kk
          obtain ⟨c, ec, rfl⟩ := strs_at ex
          rw [List.getElem?_map] at ec
          obtain ⟨g, eg, rfl⟩ : ∃ g, fs[j]? = some g ∧ c = wordsS g := by
            cases h : fs[j]? with
            | none =>
              rw [h] at ec
              cases ec
            | some g =>
              rw [h] at ec
              exact ⟨g, rfl, (Option.some.inj ec).symm⟩
          obtain ⟨g1, g2⟩ := fo g (List.mem_of_getElem? eg)
          exact ⟨rfl, _, rfl, g, rfl, g1, g2, fun p3 Hc sc hp3 => kk _ _ sc ⟨g, eg, dp_ints (seqT_del (sc _ _ hD) hp3)⟩⟩
        · rintro D H10 ys n10 hlen he
          have hys : DpAll K H10 ys (fs.map fD) := by
            refine dp_of (by rw [hlen, List.length_map, List.length_map, List.length_map]) fun j y ey => ?_
            obtain ⟨g, e1, e2⟩ := he j y ey
            exact ⟨fD g, by rw [List.getElem?_map, e1]; rfl, dp_same del_same _ e2⟩
          have r3 := r2.same n10.2.2
          obtain ⟨X2, hX2, hD2⟩ := r3.d2.x
          obtain ⟨X3, hX3, hD3⟩ := r3.d3.x
          have l2n := dp_len hD2
          rw [List.length_map] at l2n
          refine ⟨_, rfl, .inl ⟨rfl, _, SqL.of hX2⟩, _, rfl, e, _, rfl, .inl r3.se, _, rfl, l3, _, rfl, .inl ⟨SqL.of hX3, fun q1 nq1 => ?_⟩⟩
          have t1 := same_new (o := .tup X3) nq1
          refine ⟨_, rfl, D, _, rfl, .inl ⟨SqL.of (t1 _ _ n10.2.1), fun q2 nq2 => ?_⟩⟩
          have t2 := same_new (o := .tup ys) nq2
          refine ⟨(show 4 ≤ 1000 by decide), fun q3 H12 n12 => ?_⟩
          have t23 := t2.trans n12.2.2
          have t13 := t1.trans t23
          have r4 := r3.same t13
          refine ⟨l2, _, _, rfl, rfl, t13 _ _ hX2, small1000 (by omega), ?_⟩
          refine ⟨_, _, _, _, _, _, _, _, _, _, _, _, _, _, _, rfl, ?_⟩
          exact r4.put2 (t13 _ _ hX2) (.tup (SqT.of n12.2.1) (.cons (.str _) (.cons (.str _) (.cons (.tup (SqT.of (t23 _ _ upd_same)) (dp_sameAll t13 _ hD3)) (.cons (.tup (SqT.of (n12.2.2 _ _ upd_same)) (dp_sameAll t13 _ hys)) .nil)))))
    · rintro σ H7 ⟨a, l1, l2, e, l3, x6, x7, x8, x9, x10, x11, x12, x13, x14, x15, rfl, r⟩
      rw [List.length_map, List.length_map, List.take_length] at r
      obtain ⟨fs, ft, fte, ef⟩ := fold_all ns ss as
      rw [ef] at r
      obtain ⟨X1, hX1, hD1⟩ := r.d1.x
      obtain ⟨X2, hX2, hD2⟩ := r.d2.x
      refine ⟨_, rfl, _, rfl, l1, _, rfl, .inl ⟨SqL.of hX1, fun q1 nq1 => ?_⟩⟩
      have t1 := same_new (o := .tup X1) nq1
      refine ⟨_, rfl, l2, _, rfl, .inl ⟨SqL.of (t1 _ _ hX2), fun q2 nq2 => ?_⟩⟩
      have t2 := same_new (o := .tup X2) nq2
      refine ⟨(show 3 ≤ 1000 by decide), fun q H8 n8 => ?_⟩
      have t12 := t2.trans n8.2.2
      have t02 := t1.trans t12
      exact k q a q1 q2 H8 (r.s.trans t02) (SqT.of n8.2.1) (dp_names (Same.seqT t02 r.na)) (.tup (SqT.of (t12 _ _ upd_same)) (dp_sameAll t02 _ hD1)) (.tup (SqT.of (n8.2.2 _ _ upd_same)) (dp_sameAll t02 _ hD2))
end
end Pg
set_option Elab.async false
set_option linter.all false
set_option maxRecDepth 100000
set_option maxHeartbeats 8000000
namespace Ow
open PySem PySem.Spec PyProof.Rows L2 Gd Rl
/-! len, str, repr of an own object; a class called by a local name -/
/-- the class has the method as a plain def at f -/
structure Dun (K : PySem.W.Frag) (C : Addr) (m : Str) (f : Addr) : Prop where
  at_ : PySem.W.findIn K (.ref C) m = some (some (.ref f))
  fn : PySem.W.isFn K (.ref f) = true
section
variable {X : Cx} {k : Nat} {f C : Addr} {fd : FuncData} {sp : Sp} {self : Str}
/-- the def at f called with one object, some ways down -/
theorem call_dn {pins : List (Addr × Obj)} {σ : L2.St} {H : Hp} {s : Shared} {Q : VK} {A : Around} {a : Addr} {Ex : Value → Shared → Prop} (F : FnOk X.prog X.w X.K X.mg X.base CX0 k f fd [self] sp) (hr : Room k A) (e0 : L2.Env0 X.prog X.w X.K X.mg X.base A X.stack s H) (hb : Binds X.K fd [self] []) (I : Inv X pins σ H s) (h : sp [.ref a] H Q E0) :
    wpAny (model X.prog X.w) A (call (.ref f) [.ref a]) (EP X pins σ Q) Ex s := by
  refine wpAny_call (codeAny_mono (F.run A X.stack s H ⟨[.ref a], []⟩ [.ref a] [.ref a] Q E0 hr e0 (hb s [.ref a] I.kIn rfl) (.cons rfl .nil) h) fun r s' hq => ?_)
  cases r with
  | error er => exact hq.elim
  | ok fl =>
    cases fl with
    | ret u => exact I.after hq
    | next => exact hq.elim
    | brk => exact hq.elim
    | cont => exact hq.elim
def rOwn (C : Addr) (sp : Sp) (P : V → Prop) : List V → Hp → VK → Prop := fun xs H Q => ∃ (a dx : Addr) (fs : List (Str × V)), xs = [.ref a] ∧ H a = some (.ins C dx fs) ∧ sp [.ref a] H (fun v H' => P v ∧ Q v H') E0
theorem call_strO (F : FnOk X.prog X.w X.K X.mg X.base CX0 k f fd [self] sp) (hr : Room (k + 2) X.A) (hb : Binds X.K fd [self] []) (d : Dun X.K C "__str__" f) : CallR X (.type "str") (rOwn C sp fun v => ∃ z, v = .str z) := by
  intro pins s σ H xs us Q I r h
  obtain ⟨a, dx, fs, rfl, ea, hq⟩ := h
  obtain ⟨u, rfl, ru⟩ := vals1 r
  cases ru
  obtain ⟨mA, O, _, _, _, _⟩ := ins_get I.hok ea
  obtain ⟨od, J, _⟩ := O.look
  refine PySem.W.kso_call (hr.in1.in1).units0 I.kIn J d.at_ d.fn (wpAny_mono (call_dn F hr.in1.in1 I.env0.in1.in1 hb I hq) (fun v s' hv => ?_) fun _ _ y => y)
  obtain ⟨v', H', I', rv, ⟨z, rfl⟩, q⟩ := hv
  obtain ⟨t, rfl⟩ := rv
  exact ⟨.str z, H', I', ⟨t, rfl⟩, q⟩
theorem call_lenO (F : FnOk X.prog X.w X.K X.mg X.base CX0 k f fd [self] sp) (hr : Room (k + 1) X.A) (hb : Binds X.K fd [self] []) (d : Dun X.K C "__len__" f) : CallR X (.builtin "len") (rOwn C sp fun v => ∃ n : Int, v = .int n ∧ 0 ≤ n ∧ n < 2 ^ 63) := by
  intro pins s σ H xs us Q I r h
  obtain ⟨a, dx, fs, rfl, ea, hq⟩ := h
  obtain ⟨u, rfl, ru⟩ := vals1 r
  cases ru
  obtain ⟨mA, O, _, _, _, _⟩ := ins_get I.hok ea
  obtain ⟨od, J, _⟩ := O.look
  refine Calls.call_function_entry PySem.kind_len PySem.plain_len PySem.entry_len (PySem.args_len1 _) ?_
  unfold Builtin.«len»
  refine wpAny_bind (m := oneArg "len" _) (wpAny_pure ?_)
  refine wpAny_bind (m := callSpecial? (.ref a) (Str.ofString "__len__")) (PySem.W.special_fn I.kIn J d.at_ (beq_iff_eq.mp d.fn) (wpAny_mono (call_dn F hr.in1 I.env0.in1 hb I hq) (fun v s' hv => ?_) fun _ _ y => y))
  obtain ⟨v', H', I', rv, ⟨n, rfl, n0, n1⟩, q⟩ := hv
  obtain ⟨t, rfl⟩ := rv
  refine wpAny_bind (wpAny_holding (wpAny_pure ?_))
  refine wpAny_bind (wpAny_letGo ?_)
  show wpAny _ _ (if n < 0 then _ else _) _ _ _
  rw [if_neg (by omega)]
  show wpAny _ _ (if n ≥ 2 ^ 63 then _ else _) _ _ _
  rw [if_neg (by omega)]
  exact wpAny_bind (wpAny_mkInt (wpAny_pure ⟨_, rfl, .int n, H', I'.tok _, ⟨_, rfl⟩, q⟩))
theorem call_reprO (F : FnOk X.prog X.w X.K X.mg X.base CX0 k f fd [self] sp) (hr : Room (k + 1) X.A) (hb : Binds X.K fd [self] []) (d : Dun X.K C "__repr__" f) : CallR X (.builtin "repr") (rOwn C sp fun v => ∃ z, v = .str z) := by
  intro pins s σ H xs us Q I r h
  obtain ⟨a, dx, fs, rfl, ea, hq⟩ := h
  obtain ⟨u, rfl, ru⟩ := vals1 r
  cases ru
  obtain ⟨mA, O, _, _, _, _⟩ := ins_get I.hok ea
  obtain ⟨od, J, _⟩ := O.look
  refine Calls.call_function_entry PySem.F.kind_repr PySem.F.plain_repr PySem.F.entry_repr (PySem.F.args_repr1 _) ?_
  unfold Builtin.«repr»
  refine wpAny_bind (m := oneArg "repr" _) (wpAny_pure ?_)
  refine wpAny_bind (wpAny_cRoomFor hr.in1.units0 ?_)
  refine wpAny_bind (wpAny_bind (J.type.here ((PySem.W.looks_findIn I.kIn d.at_).here ?_)))
  show wpAny _ _ (if (some (Value.ref f)).isNone = true then _ else _) _ _ _
  rw [if_neg (by simp)]
  refine wpAny_bind (m := callSpecialIfBound? (.ref a) (Str.ofString "__repr__") _) (PySem.W.ifBound_K I.kIn J d.at_ d.fn (wpAny_mono (call_dn F hr.in1 I.env0.in1 hb I hq) (fun v s' hv => ?_) fun _ _ y => y))
  obtain ⟨v', H', I', rv, ⟨z, rfl⟩, q⟩ := hv
  obtain ⟨t, rfl⟩ := rv
  refine wpAny_bind (wpAny_isInstance (typeIs_str _ _ _) isSubtype_str_str ?_)
  have fin : EP X pins σ Q (.str z t) s' := ⟨.str z, H', I', ⟨t, rfl⟩, q⟩
  first
    | exact wpAny_pure ⟨_, rfl, fin⟩
    | (rw [if_pos rfl]; exact wpAny_pure ⟨_, rfl, fin⟩)
    | (simp only [if_true]; exact wpAny_pure ⟨_, rfl, fin⟩)
/-- x(e, ..), the i-th slot holds the class at C -/
def tMakeL (i : Nat) (C : Addr) (sp : Sp) (dvs : List V) (E : XK) (t : TA) : TE := fun σ H Q => σ[i]? = some (some (.ref C)) ∧ tMake C sp dvs E t σ H Q
theorem pe_makeL {CX : CXT} {i : Nat} {ps : List Str} {dvs : List V} {ds : List Value} {E : XK} {x : Str} {p pos : Pos} {e : Expr} {es : List Expr} {t : TA} (M : Mk X.K C f) (F : FnOk X.prog X.w X.K X.mg X.base CX k f fd ps sp) (hr : Room (k + 1) X.A) (hN : X.N[i]? = some x) (hv : Vis X.env.scope x) (hb : Binds X.K fd ps ds) (hd : Vals dvs ds) (hx : Passes CX X E) (ha : PA X (e :: es) t)
    (hdb : (x == ("__debug__" : Str)) = false := by decide) (hcd : (x == ("__classdict__" : Str)) = false := by decide)
    (he : starEach (e :: es) X.env = (false, eval e X.env) :: starEach es X.env := by rfl) (hpl : (backTo pos (starEach es X.env)).any (·.1) = false := by rfl) : PE X (.Call (.Name x p) (e :: es) [] pos) (tMakeL i C sp dvs E t) := by
  refine ⟨fun pins s σ H Q I h => ?_⟩
  obtain ⟨hs, ht⟩ := h
  refine wpAny_Call_Name_kw (thn ((pe_var (pos := p) hN hv hdb hcd).run pins s σ H (fun v H1 => v = .ref C ∧ H1 = H) I ⟨.ref C, hs, rfl, rfl⟩) fun u s1 ⟨v, H1, I1, r1, q1⟩ => ?_)
  obtain ⟨rfl, rfl⟩ := q1
  cases r1
  refine PySem.W.callWith_K (h₀ := X.base) I.ok.mod.kin M.kp (thn (ha.run pos pins s1 σ _ _ I1 ht) fun us s2 ⟨vs, H2, I2, r, q⟩ => ⟨I2.kIn, ?_⟩) he hpl
  exact run_make M F hr hb hd hx I2 r q
end
end Ow
set_option Elab.async false
set_option linter.all false
set_option maxRecDepth 100000
set_option maxHeartbeats 8000000
namespace Pg
open PySem PySem.Spec PyProof.Rows L2 Gd Rl Te Nu TL Ow
abbrev sCls : Stmt := top 26
abbrev sIni : Stmt := inClass sCls 0
abbrev sLen : Stmt := inClass sCls 10
abbrev sStr : Stmt := inClass sCls 11
abbrev sRep : Stmt := inClass sCls 12
abbrev FunP (K : PySem.W.Frag) (x q : Str) (st : Stmt) (f : Addr) (fd : FuncData) : Prop := FunD K x q (defArgs st) (defBody st) (defScope st) [] [] f fd
/-! ### the object -/
def pfP (a b c d t : V) : List (Str × V) := putF "_text" t (putF "_places" d (putF "_branches" c (putF "_sayings" b (putF "_names" a []))))
theorem ns1 : ¬ (("_names" : Str) = "_text") := by decide +kernel
theorem ns2 : ¬ (("_names" : Str) = "_places") := by decide +kernel
theorem ns3 : ¬ (("_names" : Str) = "_branches") := by decide +kernel
theorem ns4 : ¬ (("_names" : Str) = "_sayings") := by decide +kernel
theorem ss1 : ¬ (("_sayings" : Str) = "_text") := by decide +kernel
theorem ss2 : ¬ (("_sayings" : Str) = "_places") := by decide +kernel
theorem ss3 : ¬ (("_sayings" : Str) = "_branches") := by decide +kernel
theorem bs1 : ¬ (("_branches" : Str) = "_text") := by decide +kernel
theorem bs2 : ¬ (("_branches" : Str) = "_places") := by decide +kernel
theorem ps1 : ¬ (("_places" : Str) = "_text") := by decide +kernel
section
variable (a b c d t : V)
theorem pf_n : (pfP a b c d t).lookup ("_names" : Str) = some a := by
  unfold pfP
  rw [lookup_putF, if_neg ns1, lookup_putF, if_neg ns2, lookup_putF, if_neg ns3, lookup_putF, if_neg ns4, lookup_putF, if_pos rfl]
theorem pf_s : (pfP a b c d t).lookup ("_sayings" : Str) = some b := by
  unfold pfP
  rw [lookup_putF, if_neg ss1, lookup_putF, if_neg ss2, lookup_putF, if_neg ss3, lookup_putF, if_pos rfl]
theorem pf_b : (pfP a b c d t).lookup ("_branches" : Str) = some c := by
  unfold pfP
  rw [lookup_putF, if_neg bs1, lookup_putF, if_neg bs2, lookup_putF, if_pos rfl]
theorem pf_p : (pfP a b c d t).lookup ("_places" : Str) = some d := by
  unfold pfP
  rw [lookup_putF, if_neg ps1, lookup_putF, if_pos rfl]
theorem pf_t : (pfP a b c d t).lookup ("_text" : Str) = some t := by
  unfold pfP
  rw [lookup_putF, if_pos rfl]
end
theorem putF_len (f : Str) (v : V) : ∀ fs : List (Str × V), (putF f v fs).length ≤ fs.length + 1
  | [] => Nat.le_refl _
  | (g, u) :: fs => by
    have ih := putF_len f v fs
    unfold putF
    split
    · simp
    · simp only [List.length_cons]
      omega
theorem seqT_ins {K : PySem.W.Frag} {H : Hp} {p C dx a : Addr} {fs : List (Str × V)} {o : HO} {xs : List V} (hp : H p = some (.ins C dx fs)) (h : SqT K H a xs) : SqT K (upd H p o) a xs := by
  rcases h with (h | ⟨u, h⟩) | h
  · refine .inl (.inl ?_)
    rw [upd_ne (fun e => by rw [e, hp] at h; cases h)]
    exact h
  · refine .inl (.inr ⟨u, ?_⟩)
    rw [upd_ne (fun e => by rw [e, hp] at h; cases h)]
    exact h
  · exact .inr h
/-- a program stands at p -/
def ProgAt (K : PySem.W.Frag) (C : Addr) (H : Hp) (p : Addr) (ns : List Str) (ss : List (Str × List Int)) (as : List Arm) : Prop :=
  ∃ (dx : Addr) (a b c : V) (d : Addr), H p = some (.ins C dx (pfP a b c (.ref d) (.str (textS ns ss as)))) ∧ Dp K H a (namesD ns) ∧ Dp K H b (saysD ss) ∧ Dp K H c (armsD as) ∧ SqT K H d ((placesS ss as).map V.str)
theorem ProgAt.same {K : PySem.W.Frag} {C : Addr} {H H' : Hp} {p : Addr} {ns : List Str} {ss : List (Str × List Int)} {as : List Arm} (g : ProgAt K C H p ns ss as) (s : Same H H') : ProgAt K C H' p ns ss as :=
  let ⟨dx, a, b, c, d, h1, h2, h3, h4, h5⟩ := g
  ⟨dx, a, b, c, d, s _ _ h1, dp_same s _ h2, dp_same s _ h3, dp_same s _ h4, Same.seqT s h5⟩
/-- the class's facts -/
structure Txt (K : PySem.W.Frag) (mg : Str → Option Value) (C : Addr) : Prop where
  cl : Cls K C
  n : NoAttr K C "_names"
  s : NoAttr K C "_sayings"
  b : NoAttr K C "_branches"
  p : NoAttr K C "_places"
  t : NoAttr K C "_text"
  g : mg "Program" = some (.ref C)
/-- the parts are right -/
structure OkP (ns : List Str) (ss : List (Str × List Int)) (as : List Arm) : Prop where
  n : OkN ns
  s : OkS ns.length ss
  a : OkA ns.length ss as
theorem OkP.t {ns : List Str} {ss : List (Str × List Int)} {as : List Arm} (o : OkP ns ss as) : OkT ns.length ns ss as := ⟨o.n.three, o.n, o.s, o.a.five, o.a.arm⟩
/-- where the module's defs stand -/
structure Defs (K : PySem.W.Frag) (mg : Str → Option Value) (fI fN fF fS fU fCN fCS fCB fY fB fP fX fW fA fO : Addr) (dI dN dF dS dU dCN dCS dCB dY dB dP dX dW dA dO : FuncData) : Prop where
  J : Js K mg fI fN fF fS dI dN dF dS
  u : FnP K "is_numeral" sNu fU dU
  cn : FnP K "_check_names" sCN fCN dCN
  cs : FnP K "_check_sayings" sCS fCS dCS
  cb : FnP K "_check_branches" sCB fCB dCB
  y : FnP K "_is_saying" sSay fY dY
  b : FnP K "_is_branch" sBr fB dB
  p : FnP K "_places_of" sPl fP dP
  x : FnP K "_text_of" sTx fX dX
  w : FnP K "_words_of" sWd fW dW
  a : FnP K "_parts_of" sPa fA dA
  o : FnP K "_form_of" sFo fO dO
  gu : mg "is_numeral" = some (.ref fU)
  gcn : mg "_check_names" = some (.ref fCN)
  gcs : mg "_check_sayings" = some (.ref fCS)
  gcb : mg "_check_branches" = some (.ref fCB)
  gy : mg "_is_saying" = some (.ref fY)
  gb : mg "_is_branch" = some (.ref fB)
  gp : mg "_places_of" = some (.ref fP)
  gx : mg "_text_of" = some (.ref fX)
  gw : mg "_words_of" = some (.ref fW)
  ga : mg "_parts_of" = some (.ref fA)
  go : mg "_form_of" = some (.ref fO)
section
variable {P : Program} {w : World} {K : PySem.W.Frag} {mg : Str → Option Value} {base : Heap} {f C : Addr} {fd : FuncData}
variable {fI fN fF fS fU fCN fCS fCB fY fB fP fX fW fA fO : Addr} {dI dN dF dS dU dCN dCS dCB dY dB dP dX dW dA dO : FuncData}
def spIni (K : PySem.W.Frag) (C : Addr) : Sp := fun vs H Q _ => ∃ (H0 : Hp) (p dx : Addr) (u v z : V) (ns : List Str) (ss : List (Str × List Int)) (as : List Arm), vs = [.ref p, u, v, z] ∧ Same H0 H ∧ H0 p = none ∧ H p = some (.ins C dx []) ∧ Dp K H0 u (namesD ns) ∧ Dp K H0 v (saysD ss) ∧ Dp K H0 z (armsD as) ∧ OkP ns ss as ∧
  ∀ H', Same H0 H' → ProgAt K C H' p ns ss as → Q .non H'
theorem same_put {H0 H : Hp} {p : Addr} {o : HO} (s : Same H0 H) (n : H0 p = none) : Same H0 (upd H p o) := fun b u h => by
  rw [upd_ne (ne_of_none h n)]
  exact s _ _ h
theorem scIni : FnScope ["self", "names", "sayings", "branches"] ["self", "names", "sayings", "branches"] (defScope sIni) := ⟨rfl, rfl, rfl, by decide +kernel, rfl, by decide +kernel, by decide +kernel⟩
theorem dp_lenN {H : Hp} {v : V} {ds : List PyData} (h : Dp K H v (.tuple ds)) : ∃ a, v = .ref a ∧ ∃ xs, SqT K H a xs ∧ xs.length = ds.length := by
  obtain ⟨a, xs, e, h1, h2⟩ := rp_tup (.inl h)
  exact ⟨a, e, xs, h1, dp_len h2⟩
theorem ok_ini (F : FunP K "__init__" "Program.__init__" sIni f fd) (T : Mo mg) (X : Txt K mg C) (D : Defs K mg fI fN fF fS fU fCN fCS fCB fY fB fP fX fW fA fO dI dN dF dS dU dCN dCS dCB dY dB dP dX dW dA dO) : FnOk P w K mg base CX0 7 f fd ["self", "names", "sayings", "branches"] (spIni K C) := by
  have GN : FnOk P w K mg base CX0 2 fCN dCN ["names"] (spCN K) := ok_cn D.cn T D.J
  have GS : FnOk P w K mg base CX0 5 fCS dCS ["sayings", "many"] (spCS K) := ok_cs D.cs T D.J D.y D.gy
  have GB : FnOk P w K mg base CX0 6 fCB dCB ["branches", "many", "sayings"] (spCB K) := ok_cb D.cb T D.J D.b D.gb D.p D.gp
  have GP : FnOk P w K mg base CX0 1 fP dP ["sayings", "branches"] (spPl K) := ok_pl D.p T
  have GX : FnOk P w K mg base CX0 2 fX dX ["names", "sayings", "branches"] (spTx K) := ok_tx D.x T D.w D.gw
  have bN : Binds K dCN ["names"] [] := D.cn.bindsN fun _ _ _ _ _ _ us hl => match us, hl with | [_], _ => rfl
  have bS : Binds K dCS ["sayings", "many"] [] := D.cs.bindsN fun _ _ _ _ _ _ us hl => match us, hl with | [_, _], _ => rfl
  have bB : Binds K dCB ["branches", "many", "sayings"] [] := D.cb.bindsN fun _ _ _ _ _ _ us hl => match us, hl with | [_, _, _], _ => rfl
  have bP : Binds K dP ["sayings", "branches"] [] := D.p.bindsN fun _ _ _ _ _ _ us hl => match us, hl with | [_, _], _ => rfl
  have bX : Binds K dX ["names", "sayings", "branches"] [] := D.x.bindsN fun _ _ _ _ _ _ us hl => match us, hl with | [_, _, _], _ => rfl
  refine F.ok scIni (fun vs H Q E h => ?_) (fun cdv A outer s H vs Q E hr h => ?_)
  · obtain ⟨H0, p, dx, u, v, z, ns, ss, as, rfl, _⟩ := h
    rfl
  · obtain ⟨H0, p, dx, u, v, z, ns, ss, as, rfl, s0, n0, hp, hu, hv, hz, ok, k⟩ := h
    have hr4 := hr.mono (show 5 ≤ 6 by decide)
    have hr2 := hr.mono (show 2 ≤ 6 by decide)
    have hr1 := hr.mono (show 1 ≤ 6 by decide)
    refine ⟨_, PSs.nox <| pss_cons (ps_expr (pe_call GN hr2 (by rfl) D.gcn D.cn.kp bN .nil pass0 (pa_cons (pv 1) pa_nil)))
      <| pss_cons (ps_expr (pe_call GS hr4 (by rfl) D.gcs D.cs.kp bS .nil pass0 (pa_cons (pv 2) (pa_cons (pe_callB call_len (by rfl) T.len PySem.boot_len (pa_cons (pv 1) pa_nil)) pa_nil))))
      <| pss_cons (ps_expr (pe_call GB hr (by rfl) D.gcb D.cb.kp bB .nil pass0 (pa_cons (pv 3) (pa_cons (pe_callB call_len (by rfl) T.len PySem.boot_len (pa_cons (pv 1) pa_nil)) (pa_cons (pv 2) pa_nil)))))
      <| pss_cons (ps_fld (pv 0) (pv 1) rfl)
      <| pss_cons (ps_fld (pv 0) (pv 2) rfl)
      <| pss_cons (ps_fld (pv 0) (pv 3) rfl)
      <| pss_cons (ps_fld (pv 0) (pe_call GP hr1 (by rfl) D.gp D.p.kp bP .nil pass0 (pa_cons (pv 2) (pa_cons (pv 3) pa_nil))) rfl)
      <| pss_one (ps_fld (pv 0) (pe_call GX hr2 (by rfl) D.gx D.x.kp bX .nil pass0 (pa_cons (pv 1) (pa_cons (pv 2) (pa_cons (pv 3) pa_nil)))) rfl), ?_⟩
    have okT := ok.t
    have n3 := ok.n.three
    have lnN : ∀ {H' : Hp}, Same H0 H' → ∃ a, u = .ref a ∧ ∃ xs, SqT K H' a xs ∧ xs.length = ns.length := fun s => by
      obtain ⟨a, e, xs, h1, h2⟩ := dp_lenN (dp_same s _ hu)
      exact ⟨a, e, xs, h1, by rw [h2, List.length_map]⟩
    refine ⟨_, rfl, u, ns, rfl, dp_same s0 _ hu, ok.n, fun H1 s1 => ?_⟩
    have s01 := s0.trans s1
    obtain ⟨a, ea, xs, hx, lx⟩ := lnN s01
    subst ea
    refine ⟨_, rfl, _, rfl, _, _, rfl, .inr ⟨_, hx, rfl⟩, ?_⟩
    rw [lx]
    refine ⟨v, ns.length, ss, rfl, by omega, dp_same s01 _ hv, ok.s, fun H2 s2 => ?_⟩
    have s02 := s01.trans s2
    refine ⟨_, rfl, _, rfl, _, _, rfl, .inr ⟨_, Same.seqT s2 hx, rfl⟩, ?_⟩
    rw [lx]
    refine ⟨_, rfl, z, v, ns.length, ss, as, rfl, by omega, dp_same s02 _ hz, dp_same s02 _ hv, ok.s.three, ok.a, fun H3 s3 => ?_⟩
    have s03 := s02.trans s3
    have hp3 := s3 _ _ (s2 _ _ (s1 _ _ hp))
    refine ⟨_, rfl, _, rfl, p, C, dx, _, rfl, hp3, X.cl, X.n, (by decide), ?_⟩
    refine ⟨_, rfl, _, rfl, p, C, dx, _, rfl, upd_same, X.cl, X.s, Nat.lt_of_le_of_lt (putF_len _ _ _) (by decide), ?_⟩
    refine ⟨_, rfl, _, rfl, p, C, dx, _, rfl, upd_same, X.cl, X.b, Nat.lt_of_le_of_lt (putF_len _ _ _) (Nat.lt_of_le_of_lt (Nat.succ_le_succ (putF_len _ _ _)) (by decide)), ?_⟩
    have l3 : (putF ("_branches" : Str) z (putF "_sayings" v (putF "_names" (V.ref a) []))).length ≤ 3 := by
      have h1 := putF_len "_branches" z (putF "_sayings" v (putF "_names" (V.ref a) []))
      have h2 := putF_len "_sayings" v (putF "_names" (V.ref a) [])
      have h3 := putF_len "_names" (V.ref a) []
      simp only [List.length_nil] at h3
      omega
    generalize hG : upd (upd (upd H3 p (.ins C dx (putF "_names" (V.ref a) []))) p (.ins C dx (putF "_sayings" v (putF "_names" (V.ref a) [])))) p (.ins C dx (putF "_branches" z (putF "_sayings" v (putF "_names" (V.ref a) [])))) = H4
    have s04 : Same H0 H4 := by
      rw [← hG]
      exact same_put (same_put (same_put s03 n0) n0) n0
    have hp4 : H4 p = some (.ins C dx (putF "_branches" z (putF "_sayings" v (putF "_names" (V.ref a) [])))) := by
      rw [← hG]
      exact upd_same
    clear hG
    refine ⟨_, rfl, _, rfl, v, z, ss, as, rfl, dp_same s04 _ hv, dp_same s04 _ hz, ok.s.three, ok.a.five, fun d H5 s5 hd => ?_⟩
    refine ⟨_, rfl, p, C, dx, _, rfl, s5 _ _ hp4, X.cl, X.p, by omega, ?_⟩
    have s06 : Same H0 (upd H5 p (.ins C dx (putF "_places" (V.ref d) (putF "_branches" z (putF "_sayings" v (putF "_names" (V.ref a) [])))))) := same_put (s04.trans s5) n0
    have l4 : (putF ("_places" : Str) (V.ref d) (putF "_branches" z (putF "_sayings" v (putF "_names" (V.ref a) [])))).length ≤ 4 := by
      have h1 := putF_len "_places" (V.ref d) (putF "_branches" z (putF "_sayings" v (putF "_names" (V.ref a) [])))
      omega
    refine ⟨_, rfl, _, rfl, _, rfl, .ref a, v, z, ns.length, ns, ss, as, rfl, dp_same s06 _ hu, dp_same s06 _ hv, dp_same s06 _ hz, okT, fun H7 s7 => ?_⟩
    refine ⟨_, rfl, p, C, dx, _, rfl, s7 _ _ upd_same, X.cl, X.t, by omega, ?_⟩
    have s08 : Same H0 (upd H7 p (.ins C dx (pfP (.ref a) v z (.ref d) (.str (textS ns ss as))))) := same_put (s06.trans s7) n0
    refine k _ s08 ⟨dx, .ref a, v, z, d, upd_same, dp_same s08 _ hu, dp_same s08 _ hv, dp_same s08 _ hz, ?_⟩
    exact seqT_ins (s7 _ _ upd_same) (Same.seqT s7 (seqT_ins (s5 _ _ hp4) hd))
def spGet (K : PySem.W.Frag) (C : Addr) (B : List Str → List (Str × List Int) → List Arm → V → Hp → Prop) : Sp := fun vs H Q _ => ∃ (p : Addr) (ns : List Str) (ss : List (Str × List Int)) (as : List Arm), vs = [.ref p] ∧ ProgAt K C H p ns ss as ∧ OkP ns ss as ∧ ∀ v, B ns ss as v H → Q v H
theorem scOf1 {st : Stmt} (h1 : FnScope ["self"] ["self"] (defScope st)) : FnScope ["self"] ["self"] (defScope st) := h1
theorem scLen : FnScope ["self"] ["self"] (defScope sLen) := ⟨rfl, rfl, rfl, by decide +kernel, rfl, by decide +kernel, by decide +kernel⟩
theorem scStr : FnScope ["self"] ["self"] (defScope sStr) := ⟨rfl, rfl, rfl, by decide +kernel, rfl, by decide +kernel, by decide +kernel⟩
theorem scRep : FnScope ["self"] ["self"] (defScope sRep) := ⟨rfl, rfl, rfl, by decide +kernel, rfl, by decide +kernel, by decide +kernel⟩
def reprS (n : Nat) : Str := Str.empty ++ "Program of " ++ numS n ++ " branches"
theorem arms_lenH {H : Hp} {v : V} {as : List Arm} (h : Dp K H v (armsD as)) : ∃ a xs, v = .ref a ∧ SqT K H a xs ∧ xs.length = as.length := by
  obtain ⟨a, xs, e, h1, h2⟩ := rp_tup (.inl h)
  exact ⟨a, xs, e, h1, by rw [dp_len h2, List.length_map]⟩
theorem ok_len (F : FunP K "__len__" "Program.__len__" sLen f fd) (T : Mo mg) (X : Txt K mg C) : FnOk P w K mg base CX0 1 f fd ["self"] (spGet K C fun ns ss as v _ => v = .int as.length) := by
  refine F.ok scLen (fun vs H Q E h => ?_) (fun cdv A outer s H vs Q E hr h => ?_)
  · obtain ⟨p, ns, ss, as, rfl, _⟩ := h
    rfl
  · obtain ⟨p, ns, ss, as, rfl, ⟨dx, a, b, c, d, hp, ha, hb, hc, hd⟩, ok, k⟩ := h
    refine ⟨_, PSs.nox <| pss_one (ps_ret (pe_callB call_len (by rfl) T.len PySem.boot_len (pa_cons (pe_fld (pv 0) rfl) pa_nil))), ?_⟩
    obtain ⟨q, xs, rfl, hq, lq⟩ := arms_lenH hc
    exact ⟨_, rfl, p, C, dx, _, _, rfl, hp, X.cl, X.b, pf_b _ _ _ _ _, _, _, rfl, .inr ⟨_, hq, rfl⟩, by rw [lq]; exact k _ rfl⟩
theorem ok_str (F : FunP K "__str__" "Program.__str__" sStr f fd) (T : Mo mg) (X : Txt K mg C) : FnOk P w K mg base CX0 1 f fd ["self"] (spGet K C fun ns ss as v _ => v = .str (textS ns ss as)) := by
  refine F.ok scStr (fun vs H Q E h => ?_) (fun cdv A outer s H vs Q E hr h => ?_)
  · obtain ⟨p, ns, ss, as, rfl, _⟩ := h
    rfl
  · obtain ⟨p, ns, ss, as, rfl, ⟨dx, a, b, c, d, hp, ha, hb, hc, hd⟩, ok, k⟩ := h
    refine ⟨_, PSs.nox <| pss_one (ps_ret (pe_callTy SkE.call_str_str (by rfl) T.str (by decide +kernel) (pa_cons (pe_fld (pv 0) rfl) pa_nil))), ?_⟩
    exact ⟨_, rfl, p, C, dx, _, _, rfl, hp, X.cl, X.t, pf_t _ _ _ _ _, _, rfl, k _ rfl⟩
theorem ok_rep (F : FunP K "__repr__" "Program.__repr__" sRep f fd) (T : Mo mg) (X : Txt K mg C) : FnOk P w K mg base CX0 1 f fd ["self"] (spGet K C fun ns ss as v _ => v = .str (reprS as.length)) := by
  refine F.ok scRep (fun vs H Q E h => ?_) (fun cdv A outer s H vs Q E hr h => ?_)
  · obtain ⟨p, ns, ss, as, rfl, _⟩ := h
    rfl
  · obtain ⟨p, ns, ss, as, rfl, ⟨dx, a, b, c, d, hp, ha, hb, hc, hd⟩, ok, k⟩ := h
    refine ⟨_, PSs.nox <| pss_one (ps_ret (pe_joined (.cons pe_str <| .cons (pe_fmt (pe_callB call_len (by rfl) T.len PySem.boot_len (pa_cons (pe_fld (pv 0) rfl) pa_nil))) <| .cons pe_str .nil))), ?_⟩
    obtain ⟨q, xs, rfl, hq, lq⟩ := arms_lenH hc
    have a5 := ok.a.five
    have hn : (-1000000 : Int) ≤ (as.length : Int) ∧ (as.length : Int) ≤ 1000000 := by omega
    have l8 := num_len hn
    refine ⟨_, rfl, by decide +kernel, _, rfl, p, C, dx, _, _, rfl, hp, X.cl, X.b, pf_b _ _ _ _ _, _, _, rfl, .inr ⟨_, hq, rfl⟩, ?_⟩
    rw [lq]
    refine .inr ⟨_, rfl, num_log hn, _, rfl, sz9 ?_, _, rfl, sz9 ?_, k _ rfl⟩
    · show (Str.empty ++ "Program of " ++ numS as.length : Str).length ≤ 1000
      rw [len_app, len_app, e0, show ("Program of " : Str).length = 11 by decide +kernel]
      omega
    · show (Str.empty ++ "Program of " ++ numS as.length ++ " branches" : Str).length ≤ 1000
      rw [len_app, len_app, len_app, e0, show ("Program of " : Str).length = 11 by decide +kernel, show (" branches" : Str).length = 9 by decide +kernel]
      omega
end
end Pg
set_option Elab.async false
set_option linter.all false
set_option maxRecDepth 100000
set_option maxHeartbeats 8000000
namespace Pg
open PySem PySem.Spec PyProof.Rows L2 Gd Rl Te Nu TL Ow
abbrev sRd : Stmt := inClass sCls 1
abbrev sGn : Stmt := inClass sCls 2
abbrev sGs : Stmt := inClass sCls 3
abbrev sGb : Stmt := inClass sCls 4
abbrev sGp : Stmt := inClass sCls 5
abbrev sGt : Stmt := inClass sCls 6
section
variable {P : Program} {w : World} {K : PySem.W.Frag} {mg : Str → Option Value} {base : Heap} {f C : Addr} {fd : FuncData}
variable {fI fN fF fS fU fCN fCS fCB fY fB fP fX fW fA fO : Addr} {dI dN dF dS dU dCN dCS dCB dY dB dP dX dW dA dO : FuncData}
theorem sc_names : FnScope ["self"] ["self"] (defScope sGn) := ⟨rfl, rfl, rfl, by decide +kernel, rfl, by decide +kernel, by decide +kernel⟩
theorem ok_gnames (F : FunP K "names" "Program.names" sGn f fd) (X : Txt K mg C) : FnOk P w K mg base CX0 1 f fd ["self"] (spGet K C fun ns ss as v H => Dp K H v (namesD ns)) := by
  refine F.ok sc_names (fun vs H Q E h => ?_) (fun cdv A outer s H vs Q E hr h => ?_)
  · obtain ⟨p, ns, ss, as, rfl, _⟩ := h
    rfl
  · obtain ⟨p, ns, ss, as, rfl, ⟨dx, a, b, c, d, hp, ha, hb, hc, hd⟩, ok, k⟩ := h
    refine ⟨_, PSs.nox <| pss_one (ps_ret (pe_fld (pv 0) rfl)), ?_⟩
    exact ⟨_, rfl, p, C, dx, _, _, rfl, hp, X.cl, X.n, pf_n _ _ _ _ _, k _ ha⟩
theorem sc_sayings : FnScope ["self"] ["self"] (defScope sGs) := ⟨rfl, rfl, rfl, by decide +kernel, rfl, by decide +kernel, by decide +kernel⟩
theorem ok_gsayings (F : FunP K "sayings" "Program.sayings" sGs f fd) (X : Txt K mg C) : FnOk P w K mg base CX0 1 f fd ["self"] (spGet K C fun ns ss as v H => Dp K H v (saysD ss)) := by
  refine F.ok sc_sayings (fun vs H Q E h => ?_) (fun cdv A outer s H vs Q E hr h => ?_)
  · obtain ⟨p, ns, ss, as, rfl, _⟩ := h
    rfl
  · obtain ⟨p, ns, ss, as, rfl, ⟨dx, a, b, c, d, hp, ha, hb, hc, hd⟩, ok, k⟩ := h
    refine ⟨_, PSs.nox <| pss_one (ps_ret (pe_fld (pv 0) rfl)), ?_⟩
    exact ⟨_, rfl, p, C, dx, _, _, rfl, hp, X.cl, X.s, pf_s _ _ _ _ _, k _ hb⟩
theorem sc_branches : FnScope ["self"] ["self"] (defScope sGb) := ⟨rfl, rfl, rfl, by decide +kernel, rfl, by decide +kernel, by decide +kernel⟩
theorem ok_gbranches (F : FunP K "branches" "Program.branches" sGb f fd) (X : Txt K mg C) : FnOk P w K mg base CX0 1 f fd ["self"] (spGet K C fun ns ss as v H => Dp K H v (armsD as)) := by
  refine F.ok sc_branches (fun vs H Q E h => ?_) (fun cdv A outer s H vs Q E hr h => ?_)
  · obtain ⟨p, ns, ss, as, rfl, _⟩ := h
    rfl
  · obtain ⟨p, ns, ss, as, rfl, ⟨dx, a, b, c, d, hp, ha, hb, hc, hd⟩, ok, k⟩ := h
    refine ⟨_, PSs.nox <| pss_one (ps_ret (pe_fld (pv 0) rfl)), ?_⟩
    exact ⟨_, rfl, p, C, dx, _, _, rfl, hp, X.cl, X.b, pf_b _ _ _ _ _, k _ hc⟩
theorem sc_places : FnScope ["self"] ["self"] (defScope sGp) := ⟨rfl, rfl, rfl, by decide +kernel, rfl, by decide +kernel, by decide +kernel⟩
theorem ok_gplaces (F : FunP K "places" "Program.places" sGp f fd) (X : Txt K mg C) : FnOk P w K mg base CX0 1 f fd ["self"] (spGet K C fun ns ss as v H => ∃ d, v = .ref d ∧ SqT K H d ((placesS ss as).map V.str)) := by
  refine F.ok sc_places (fun vs H Q E h => ?_) (fun cdv A outer s H vs Q E hr h => ?_)
  · obtain ⟨p, ns, ss, as, rfl, _⟩ := h
    rfl
  · obtain ⟨p, ns, ss, as, rfl, ⟨dx, a, b, c, d, hp, ha, hb, hc, hd⟩, ok, k⟩ := h
    refine ⟨_, PSs.nox <| pss_one (ps_ret (pe_fld (pv 0) rfl)), ?_⟩
    exact ⟨_, rfl, p, C, dx, _, _, rfl, hp, X.cl, X.p, pf_p _ _ _ _ _, k _ ⟨d, rfl, hd⟩⟩
theorem sc_text : FnScope ["self"] ["self"] (defScope sGt) := ⟨rfl, rfl, rfl, by decide +kernel, rfl, by decide +kernel, by decide +kernel⟩
theorem ok_gtext (F : FunP K "text" "Program.text" sGt f fd) (X : Txt K mg C) : FnOk P w K mg base CX0 1 f fd ["self"] (spGet K C fun ns ss as v H => v = .str (textS ns ss as)) := by
  refine F.ok sc_text (fun vs H Q E h => ?_) (fun cdv A outer s H vs Q E hr h => ?_)
  · obtain ⟨p, ns, ss, as, rfl, _⟩ := h
    rfl
  · obtain ⟨p, ns, ss, as, rfl, ⟨dx, a, b, c, d, hp, ha, hb, hc, hd⟩, ok, k⟩ := h
    refine ⟨_, PSs.nox <| pss_one (ps_ret (pe_fld (pv 0) rfl)), ?_⟩
    exact ⟨_, rfl, p, C, dx, _, _, rfl, hp, X.cl, X.t, pf_t _ _ _ _ _, k _ rfl⟩
/-! ### read -/
def spRd (K : PySem.W.Frag) (C : Addr) : Sp := fun vs H Q _ => ∃ (ns : List Str) (ss : List (Str × List Int)) (as : List Arm), vs = [.ref C, .str (textS ns ss as)] ∧ OkP ns ss as ∧ ∀ p H', Same H H' → ProgAt K C H' p ns ss as → Q (.ref p) H'
abbrev nRd : List Str := ["cls", "text", "names", "sayings", "branches", "program"]
theorem scRd : FnScope nRd ["cls", "text"] (defScope sRd) := ⟨rfl, rfl, rfl, by decide +kernel, rfl, by decide +kernel, by decide +kernel⟩
/-- how a program is made and shown -/
structure Mkr (K : PySem.W.Frag) (C fIni fStr : Addr) (dIni dStr : FuncData) : Prop where
  m : Mk K C fIni
  i : FunP K "__init__" "Program.__init__" sIni fIni dIni
  s : FunP K "__str__" "Program.__str__" sStr fStr dStr
  ds : Dun K C "__str__" fStr
theorem ok_rd {fIni fStr : Addr} {dIni dStr : FuncData} (F : FunP K "read" "Program.read" sRd f fd) (T : Mo mg) (X : Txt K mg C) (D : Defs K mg fI fN fF fS fU fCN fCS fCB fY fB fP fX fW fA fO dI dN dF dS dU dCN dCS dCB dY dB dP dX dW dA dO) (M : Mkr K C fIni fStr dIni dStr) : FnOk P w K mg base CX0 9 f fd ["cls", "text"] (spRd K C) := by
  have GI : FnOk P w K mg base CX0 7 fIni dIni ["self", "names", "sayings", "branches"] (spIni K C) := ok_ini M.i T X D
  have GS : FnOk P w K mg base CX0 1 fStr dStr ["self"] (spGet K C fun ns ss as v _ => v = .str (textS ns ss as)) := ok_str M.s T X
  have GA : FnOk P w K mg base CX0 3 fA dA ["text"] (spPa K) := ok_pa D.a T D.o D.go D.u D.gu
  have bI : Binds K dIni ["self", "names", "sayings", "branches"] [] := M.i.bindsN fun _ _ _ _ _ _ us hl => match us, hl with | [_, _, _, _], _ => rfl
  have bS : Binds K dStr ["self"] [] := M.s.bindsN fun _ _ _ _ _ _ us hl => match us, hl with | [_], _ => rfl
  have bA : Binds K dA ["text"] [] := D.a.bindsN fun _ _ _ _ _ _ us hl => match us, hl with | [_], _ => rfl
  refine F.ok scRd (fun vs H Q E h => ?_) (fun cdv A outer s H vs Q E hr h => ?_)
  · obtain ⟨ns, ss, as, rfl, _⟩ := h
    rfl
  · obtain ⟨ns, ss, as, rfl, ok, k⟩ := h
    have hr3 := hr.mono (show 3 ≤ 8 by decide)
    refine ⟨_, PSs.nox <| pss_cons (ps_if (pt_not (pt_val (pe_callB (call_isD (T := "str")) (by rfl) T.isi boot_isinstance (pa_cons (pv 1) (pa_cons (pe_bltn (v := .ty "str") (by rfl) T.str (by decide +kernel) rfl) pa_nil))))) (pss_one ps_never) pss_nil)
      <| pss_cons (ps_asg (pe_call GA hr3 (by rfl) D.ga D.a.kp bA .nil pass0 (pa_cons (pv 1) pa_nil)) (pg_tup (by rfl) (pgs_cons (pg_name (i := 2) scRd.nd rfl (.inl rfl)) (pgs_cons (pg_name (i := 3) scRd.nd rfl (.inl rfl)) (pgs_cons (pg_name (i := 4) scRd.nd rfl (.inl rfl)) pgs_nil)))))
      <| pss_cons (ps_try_thru0 (pss_one (ps_set (i := 5) scRd.nd rfl (.inl rfl) (pe_makeL (i := 0) M.m GI hr rfl (.inl rfl) bI .nil pass0 (pa_cons (pv 2) (pa_cons (pv 3) (pa_cons (pv 4) pa_nil)))))))
      <| pss_cons (ps_if (pt_cmpR op_ne (pe_callTy (call_strO GS hr3 bS M.ds) (by rfl) T.str (by decide +kernel) (pa_cons (pv 5) pa_nil)) (pv 1) (nomark _)) (pss_one ps_never) pss_nil)
      <| pss_one (ps_ret (pv 5)), ?_⟩
    refine ⟨_, rfl, _, .str (textS ns ss as), _, rfl, .inl (.str _), kit_str _, _, rfl, ?_⟩
    refine iteF ?_
    refine ⟨_, rfl, ns.length, ns, ss, as, rfl, ok.n.one, ok.t, fun p a b c H1 s1 hp ha hb hc => ?_⟩
    refine ⟨p, _, rfl, hp, rfl, _, _, rfl, _, _, rfl, _, _, rfl, rfl, ?_⟩
    refine ⟨rfl, _, rfl, _, rfl, _, rfl, fun x dx nx ndx nex => ?_⟩
    have s2 : Same H1 (upd (upd H1 dx (.own x)) x (.ins C dx [])) := fun q o e => by
      rw [upd_ne (ne_of_none e nx), upd_ne (ne_of_none e ndx)]
      exact e
    refine ⟨H1, x, dx, _, _, _, ns, ss, as, rfl, s2, nx, upd_same, ha, hb, hc, ok, fun H3 s3 g => ⟨rfl, ?_⟩⟩
    obtain ⟨dx3, a3, b3, c3, d3, hx3, rest⟩ := g
    refine ⟨_, rfl, x, dx3, _, rfl, hx3, x, ns, ss, as, rfl, ⟨dx3, a3, b3, c3, d3, hx3, rest⟩, ok, fun v ev => ⟨⟨_, ev⟩, ?_⟩⟩
    subst ev
    refine ⟨_, rfl, rfl, _, rfl, ?_⟩
    refine iteNS rfl ?_
    exact ⟨_, rfl, k x H3 (s1.trans s3) ⟨dx3, a3, b3, c3, d3, hx3, rest⟩⟩
end
end Pg
set_option Elab.async false
set_option linter.all false
set_option maxRecDepth 100000
set_option maxHeartbeats 4000000
namespace K5
open PySem PySem.Spec PyProof.Rows L2
abbrev top := Pg.top
abbrev sBegun : Stmt := top 38
abbrev sCast : Stmt := top 39
abbrev sAny : Stmt := top 40
abbrev FnP (K : PySem.W.Frag) (x : Str) (st : Stmt) (f : Addr) (fd : FuncData) : Prop := Pg.FnP K x st f fd
/-- a pail: what is left of the own number, the state, the count -/
structure Pail (H : Hp) (p : Addr) : Prop where
  ex : ∃ o st c : Int, H p = some (.lst [.int o, .int st, .int c]) ∧ 0 ≤ o ∧ 0 ≤ st ∧ st < 2147483648
/-- what was tracked stands, but perhaps at p -/
def But (p : Addr) (H H' : Hp) : Prop := ∀ b o, H b = some o → b ≠ p → H' b = some o
theorem But.refl {p : Addr} {H : Hp} : But p H H := fun _ _ e _ => e
theorem But.trans {p : Addr} {H H1 H2 : Hp} (a : But p H H1) (b : But p H1 H2) : But p H H2 := fun c o e n => b c o (a c o e n) n
def spCast : Sp := fun vs H Q _ => ∃ (p : Addr) (n : Int), vs = [.ref p, .int n] ∧ Pail H p ∧ 1 ≤ n ∧ n ≤ 1000000000 ∧ ∀ (r : Int) (H' : Hp), 0 ≤ r → r < n → Pail H' p → But p H H' → Q (.int r) H'
structure Bl (mg : Str → Option Value) : Prop where
  len : mg "len" = none
  divmod : mg "divmod" = none
  int : mg "int" = none
  abs : mg "abs" = none
section
variable {P : Program} {w : World} {K : PySem.W.Frag} {mg : Str → Option Value} {base : Heap} {f : Addr} {fd : FuncData}
theorem scCast : FnScope ["_law_pail", "_law_many", "_law_figure_here", "_law_state"] ["_law_pail", "_law_many"] (defScope sCast) := ⟨rfl, rfl, rfl, by decide +kernel, rfl, by decide +kernel, by decide +kernel⟩
theorem ok_cast (F : FnP K "_law_cast" sCast f fd) (T : Bl mg) : FnOk P w K mg base CX0 1 f fd ["_law_pail", "_law_many"] spCast := by
  refine F.ok scCast (fun vs H Q E h => ?_) (fun cdv A outer s H vs Q E hr h => ?_)
  · obtain ⟨p, n, rfl, _⟩ := h
    rfl
  · obtain ⟨p, n, rfl, ⟨o, st, c, hp, ho, h0, h1⟩, n1, n2, k⟩ := h
    refine ⟨_, PSs.nox (pss_cons (ps_if (pt_cmpR op_gt (pe_ix ix_list (pv 0) pe_int (fun _ _ => rfl)) pe_int (nomark _))
        (pss_cons (ps_asg (pe_callB call_divmod (by rfl) T.divmod (by decide +kernel) (pa_cons (pe_ix ix_list (pv 0) pe_int (fun _ _ => rfl)) (pa_cons (pv 1) pa_nil))) (pg_tup (by rfl) (pgs_cons (pg_sub (pv 0) pe_int set_list) (pgs_cons (pg_name (i := 2) scCast.nd rfl (.inl rfl)) pgs_nil))))
          (pss_one (ps_ret (pv 2)))) pss_nil)
      (pss_cons (ps_asg (pe_op op_add (pe_ix ix_list (pv 0) pe_int (fun _ _ => rfl)) pe_int) (pg_sub (pv 0) pe_int set_list))
      (pss_cons (ps_set (i := 3) scCast.nd rfl (.inl rfl) (pe_op op_mod (pe_callTy call_int1 (by rfl) T.int (by decide +kernel) (pa_cons (pe_op op_add (pe_op op_add (pe_op op_mul (pe_ix ix_list (pv 0) pe_int (fun _ _ => rfl)) (pe_op op_add pe_int (pe_op op_mul pe_int (pe_ix ix_list (pv 0) pe_int (fun _ _ => rfl))))) (pe_op op_mul pe_int (pe_ix ix_list (pv 0) pe_int (fun _ _ => rfl)))) pe_int) pa_nil)) pe_int))
      (pss_cons (ps_asg (pe_op op_mod (pe_callTy call_int1 (by rfl) T.int (by decide +kernel) (pa_cons (pe_op op_add (pe_op op_add (pe_op op_mul (pv 3) pe_int) (pe_op op_mul pe_int (pe_ix ix_list (pv 0) pe_int (fun _ _ => rfl)))) pe_int) pa_nil)) pe_int) (pg_sub (pv 0) pe_int set_list))
      (pss_one (ps_ret (pe_op op_mod (pe_callTy call_int1 (by rfl) T.int (by decide +kernel) (pa_cons (pe_op op_fdiv (pe_ix ix_list (pv 0) pe_int (fun _ _ => rfl)) pe_int) pa_nil)) (pv 1)))))))), ?_⟩
    refine ⟨_, rfl, p, _, _, _, rfl, rfl, SqL.of hp, rfl, _, _, rfl, rfl, _, rfl, ?_⟩
    refine ite2 (fun hc => ?_) (fun hc => ?_)
    · refine ⟨_, rfl, p, _, _, _, rfl, rfl, SqL.of hp, rfl, _, rfl, _, _, rfl, ⟨by omega, by omega⟩, fun q hq => ?_⟩
      have pq : p ≠ q := ne_of_none hp hq
      have ho' : 0 < o := of_decide_eq_true hc
      refine ⟨q, _, rfl, SqT.of upd_same, rfl, _, _, rfl, _, rfl, p, _, _, 0, rfl, rfl, (by rw [upd_ne pq]; exact hp), rfl, ?_⟩
      refine ⟨_, _, rfl, ?_⟩
      refine ⟨rfl, _, rfl, ?_⟩
      refine k (o % n) _ (Int.emod_nonneg _ (by omega)) (Int.emod_lt_of_pos _ (by omega)) ⟨o / n, st, c, upd_same, Int.ediv_nonneg (by omega) (by omega), h0, h1⟩ fun b u e nb => ?_
      rw [upd_ne nb, upd_ne (ne_of_none e hq)]
      exact e
    · have e1 : ∀ {x y z : Int}, (upd H p (.lst [.int x, .int y, .int z])) p = some (.lst [.int x, .int y, .int z]) := upd_same
      refine ⟨_, rfl, p, _, _, _, rfl, rfl, SqL.of hp, rfl, _, _, rfl, rfl, _, rfl, p, _, _, 2, rfl, rfl, hp, rfl, ?_⟩
      refine ⟨_, rfl, p, _, _, _, rfl, rfl, SqL.of upd_same, rfl, _, rfl, p, _, _, _, rfl, rfl, SqL.of upd_same, rfl, _, _, rfl, rfl, .inl ⟨by decide, by decide⟩, _, _, rfl, rfl, _, _, rfl, rfl, .inl ⟨by omega, by omega⟩, _, rfl, p, _, _, _, rfl, rfl, SqL.of upd_same, rfl, _, _, rfl, rfl, .inl ⟨by decide, by decide⟩, _, _, rfl, rfl, _, _, rfl, rfl, .inl ⟨_, rfl, ?_⟩⟩
      refine ⟨_, _, rfl, rfl, (by show (0 : Int) < 2147483629; decide), ?_⟩
      refine ⟨_, rfl, _, _, rfl, rfl, .inl ⟨by omega, by omega⟩, _, rfl, p, _, _, _, rfl, rfl, SqL.of upd_same, rfl, _, _, rfl, rfl, .inl ⟨by decide, by decide⟩, _, _, rfl, rfl, _, _, rfl, rfl, .inl ⟨_, rfl, _, _, rfl, rfl, (by show (0 : Int) < 2147483587; decide), ?_⟩⟩
      refine ⟨_, rfl, p, _, _, 1, rfl, rfl, upd_same, rfl, ?_⟩
      refine ⟨_, rfl, p, _, _, _, rfl, rfl, SqL.of upd_same, rfl, _, _, rfl, rfl, ⟨by decide, by decide⟩, .inl ⟨_, rfl, _, rfl, _, _, rfl, rfl, (by show (0 : Int) < n; omega), ?_⟩⟩
      refine k _ _ (Int.emod_nonneg _ (by omega)) (Int.emod_lt_of_pos _ (by omega)) ⟨o, _, _, upd_same, ho, Int.emod_nonneg _ (by decide), Int.lt_of_lt_of_le (Int.emod_lt_of_pos _ (by decide)) (by decide)⟩ fun b u e nb => ?_
      rw [upd_ne nb, upd_ne nb]
      exact e
/-! ### any of a list -/
def spAny (K : PySem.W.Frag) : Sp := fun vs H Q _ => ∃ (p l : Addr) (xs : List V), vs = [.ref p, .ref l] ∧ Pail H p ∧ H l = some (.lst xs) ∧ l ≠ p ∧ 0 < xs.length ∧ xs.length ≤ 1000 ∧
  ∀ (i : Nat) (x : V) (H' : Hp), xs[i]? = some x → Pail H' p → But p H H' → Q x H'
theorem scAny : FnScope ["_law_pail", "_law_some"] ["_law_pail", "_law_some"] (defScope sAny) := ⟨rfl, rfl, rfl, by decide +kernel, rfl, by decide +kernel, by decide +kernel⟩
theorem ok_any {fC : Addr} {fdC : FuncData} (F : FnP K "_law_any_of" sAny f fd) (T : Bl mg) (FC : FnP K "_law_cast" sCast fC fdC) (gC : mg "_law_cast" = some (.ref fC)) : FnOk P w K mg base CX0 2 f fd ["_law_pail", "_law_some"] (spAny K) := by
  have GC : FnOk P w K mg base CX0 1 fC fdC ["_law_pail", "_law_many"] spCast := ok_cast FC T
  have bC : Binds K fdC ["_law_pail", "_law_many"] [] := FC.bindsN fun _ _ _ _ _ _ us hl => match us, hl with | [_, _], _ => rfl
  refine F.ok scAny (fun vs H Q E h => ?_) (fun cdv A outer s H vs Q E hr h => ?_)
  · obtain ⟨p, l, xs, rfl, _⟩ := h
    rfl
  · obtain ⟨p, l, xs, rfl, hp, hl, lp, x0, x1, k⟩ := h
    refine ⟨_, PSs.nox (pss_one (ps_ret (pe_ix ix_list (pv 1) (pe_call GC hr (by rfl) gC FC.kp bC .nil pass0 (pa_cons (pv 0) (pa_cons (pe_callB call_len (by rfl) T.len PySem.boot_len (pa_cons (pv 1) pa_nil)) pa_nil))) (fun _ _ => rfl)))), ?_⟩
    refine ⟨_, rfl, _, rfl, _, rfl, _, xs.length, rfl, .inl ⟨_, SqL.of hl, rfl⟩, p, _, rfl, hp, by omega, by omega, fun r H' r0 r1 hp' bt => ?_⟩
    have hl' : H' l = some (.lst xs) := bt l _ hl lp
    have hi : r.toNat < xs.length := by omega
    have er : xs[r.toNat]? = some xs[r.toNat] := by simp [hi]
    have e2 : atI xs r = some xs[r.toNat] := by
      have := atI_nat er
      rwa [Int.toNat_of_nonneg r0] at this
    exact ⟨l, _, r, _, rfl, rfl, SqL.of hl', e2, k r.toNat _ H' er hp' bt⟩
/-! ### a pail begun -/
theorem mulB : ∀ {X : Cx}, OpR X (binaryOp .Mult) (rI (fun i j => IntMulOk i j) fun i j => .int (i * j)) := fun {X} => opI fun _ _ _ _ _ _ _ hc q => mul_int q hc
theorem bits_ok {i : Int} (h : Builtin.Int.intBits i ≤ 1048576) : IntMulOk i i := by
  unfold IntMulOk
  intro z
  simp only [Bool.and_eq_true, Builtin.Int.intTooBig, decide_eq_true_eq] at z
  have e : ((bitsLine : Nat) : Int) = 134217728 := by decide
  have z2 := z.2
  rw [e] at z2
  omega
def spBegun (K : PySem.W.Frag) : Sp := fun vs H Q _ => ∃ (a : Addr) (ns : List Int) (t : Nat), vs = [.ref a, .int t] ∧ SqL K H a (ns.map V.int) ∧ ns.length ≤ 63 ∧ (∀ z ∈ ns, Builtin.Int.intBits z ≤ 1048576) ∧ t ≤ 1000 ∧
  ∀ (p : Addr) (H' : Hp), Same H H' → H p = none → Pail H' p → Q (.ref p) H'
theorem scBegun : FnScope ["_law_script", "_law_turn", "_law_own", "_law_state", "_law_cell"] ["_law_script", "_law_turn"] (defScope sBegun) := ⟨rfl, rfl, rfl, by decide +kernel, rfl, by decide +kernel, by decide +kernel⟩
theorem cut_ints {ns : List Int} {lo hi : Option Int} {i : Nat} {x : V} (h : (cutV (ns.map V.int) lo hi)[i]? = some x) : ∃ z, x = V.int z := by
  have m := List.mem_of_getElem? h
  unfold cutV at m
  have m2 := List.mem_of_mem_drop (List.mem_of_mem_take m)
  obtain ⟨z, _, e⟩ := List.mem_map.mp m2
  exact ⟨z, e.symm⟩
theorem ok_begun (F : FnP K "_law_begun" sBegun f fd) (T : Bl mg) : FnOk P w K mg base CX0 1 f fd ["_law_script", "_law_turn"] (spBegun K) := by
  refine F.ok scBegun (fun vs H Q E h => ?_) (fun cdv A outer s H vs Q E hr h => ?_)
  · obtain ⟨a, ns, t, rfl, _⟩ := h
    rfl
  · obtain ⟨a, ns, t, rfl, hS, hn, hb, ht, k⟩ := h
    refine ⟨_, PSs.nox <| pss_cons (ps_set (i := 2) scBegun.nd rfl (.inl rfl) (pe_ifExp (pt_cmpR op_lt (pv 1) (pe_callB call_len (by rfl) T.len PySem.boot_len (pa_cons (pv 0) pa_nil)) (nomark _)) (pe_ix ix_list (pv 0) (pv 1) (fun _ _ => rfl)) pe_int))
      <| pss_cons (ps_set (i := 3) scBegun.nd rfl (.inl rfl) (pe_op op_add pe_int (pe_op op_mul pe_int (pv 1))))
      <| pss_cons (ps_for PassesOwn.never rfl (pi_list (pe_slice sl_list (pv 0) po_none (po_some pe_int))) (pg_name (i := 4) scBegun.nd rfl (.inl rfl))
        (pss_one (ps_set (i := 3) scBegun.nd rfl (.inl rfl) (pe_op op_mod (pe_callTy call_int1 (by rfl) T.int (by decide +kernel) (pa_cons (pe_op op_add (pe_op op_add (pe_op op_mul (pv 3) pe_int) (pe_op op_mul (pv 4) pe_int)) pe_int) pa_nil)) pe_int))))
      <| pss_one (ps_ret (pe_lst <| pa_cons (pe_ifExp (PW.pt (pw_or (pt_cmpR op_lt (pv 2) pe_int (nomark _)) (pw_or1 (pt_cmpR op_ge (pv 2) (pe_op op_pow pe_int pe_int) (nomark _))))) (pe_callB call_abs (by rfl) T.abs (by decide +kernel) (pa_cons (pv 2) pa_nil)) pe_int)
        <| pa_cons (pe_op op_mod (pe_callTy call_int1 (by rfl) T.int (by decide +kernel) (pa_cons (pe_op op_add (pe_op op_add (pe_op op_mul (pv 3) pe_int) (pe_op mulB (pv 2) (pv 2))) (pe_op op_mul pe_int (pv 1))) pa_nil)) pe_int) <| pa_cons pe_int pa_nil)), ?_⟩
    -- own
    refine ⟨_, rfl, _, rfl, _, (ns.map V.int).length, rfl, .inl ⟨_, hS, rfl⟩, _, _, rfl, rfl, _, rfl, ?_⟩
    refine ite2 (fun hc => ?_) (fun hc => ?_)
    · have hlt : t < ns.length := by
        have z : ((t : Nat) : Int) < ((ns.map V.int).length : Nat) := of_decide_eq_true hc
        rw [List.length_map] at z
        omega
      have er : (ns.map V.int)[t]? = some (V.int ns[t]) := by simp [hlt]
      have hob := hb ns[t] (List.getElem_mem hlt)
      refine ⟨_, rfl, _, rfl, a, _, _, _, rfl, rfl, hS, atI_nat er, ?_⟩
      refine ⟨_, rfl, _, _, rfl, rfl, .inl ⟨by decide, by decide⟩, _, _, rfl, rfl, ?_⟩
      refine ⟨_, rfl, 6, rfl, a, _, rfl, hS, fun q hq => ?_⟩
      refine ⟨q, rfl, ⟨_, SqL.of upd_same⟩, for_list (K := K) (a := q) (xs := cutV (ns.map V.int) none (some 6)) (fun i σ H2 => ∃ (own st : Int) (cell : Option V), σ = [some (.ref a), some (.int t), some (.int own), some (.int st), cell] ∧ Builtin.Int.intBits own ≤ 1048576 ∧ Same (upd H q (.lst (cutV (ns.map V.int) none (some 6)))) H2 ∧ 0 ≤ st ∧ st < 2147483648) ⟨_, _, none, rfl, hob, Same.refl _, by omega, by omega⟩ (fun i σ H2 _ ⟨_, _, _, _, _, s2, _⟩ => s2.seq (SqL.of upd_same)) ?_ ?_⟩
      · rintro i y σ H2 hi ⟨own, st, cell, rfl, hob, s2, h0, h1⟩
        obtain ⟨z, rfl⟩ := cut_ints hi
        refine ⟨_, rfl, _, _, rfl, rfl, .inl ⟨by omega, by omega⟩, _, rfl, _, _, rfl, rfl, .inr ⟨by decide, by decide⟩, _, _, rfl, rfl, _, _, rfl, rfl, .inl ⟨_, rfl, _, _, rfl, rfl, (by show (0 : Int) < 2147483629; decide), ?_⟩⟩
        exact ⟨own, _, _, rfl, hob, s2, Int.emod_nonneg _ (by decide), Int.lt_of_lt_of_le (Int.emod_lt_of_pos _ (by decide)) (by decide)⟩
      · rintro σ H2 ⟨own, st, cell, rfl, hob, s2, h0, h1⟩
        have sH : Same H H2 := fun b o e => s2 b o (by rw [upd_ne (ne_of_none e hq)]; exact e)
        refine ⟨_, rfl, _, _, rfl, rfl, _, rfl, ?_⟩
        refine ite2 (fun ho => ?_) (fun ho => ?_)
        · refine iteT ⟨_, rfl, _, rfl, ?_⟩
          refine ⟨_, rfl, _, _, rfl, rfl, .inl ⟨by omega, by omega⟩, _, rfl, _, rfl, _, _, rfl, rfl, bits_ok hob, _, _, rfl, rfl, _, rfl, _, _, rfl, rfl, .inl ⟨by decide, by decide⟩, _, _, rfl, rfl, .inl ⟨_, rfl, _, _, rfl, rfl, (by show (0 : Int) < 2147483629; decide), (by show 3 ≤ sizeLine; decide), fun r hr' => ?_⟩⟩
          refine k r _ (fun b o e => by rw [upd_ne (ne_of_none (sH b o e) hr')]; exact sH b o e) (sH.free hr') ⟨_, _, 0, upd_same, ?_, Int.emod_nonneg _ (by decide), Int.lt_of_lt_of_le (Int.emod_lt_of_pos _ (by decide)) (by decide)⟩
          have ho' : own < 0 := of_decide_eq_true ho
          rw [if_pos ho']
          omega
        · refine ⟨_, rfl, _, _, rfl, rfl, ⟨by decide, by decide, by decide⟩, _, _, rfl, rfl, _, rfl, ?_⟩
          refine ite2 (fun ho2 => ?_) (fun ho2 => ?_)
          · refine ⟨_, rfl, _, rfl, ?_⟩
            refine ⟨_, rfl, _, _, rfl, rfl, .inl ⟨by omega, by omega⟩, _, rfl, _, rfl, _, _, rfl, rfl, bits_ok hob, _, _, rfl, rfl, _, rfl, _, _, rfl, rfl, .inl ⟨by decide, by decide⟩, _, _, rfl, rfl, .inl ⟨_, rfl, _, _, rfl, rfl, (by show (0 : Int) < 2147483629; decide), (by show 3 ≤ sizeLine; decide), fun r hr' => ?_⟩⟩
            refine k r _ (fun b o e => by rw [upd_ne (ne_of_none (sH b o e) hr')]; exact sH b o e) (sH.free hr') ⟨_, _, 0, upd_same, ?_, Int.emod_nonneg _ (by decide), Int.lt_of_lt_of_le (Int.emod_lt_of_pos _ (by decide)) (by decide)⟩
            have ho' : ¬ own < 0 := fun z => ho (decide_eq_true z)
            rw [if_neg ho']
            omega
          · skip
            refine ⟨_, rfl, _, _, rfl, rfl, .inl ⟨by omega, by omega⟩, _, rfl, _, rfl, _, _, rfl, rfl, bits_ok hob, _, _, rfl, rfl, _, rfl, _, _, rfl, rfl, .inl ⟨by decide, by decide⟩, _, _, rfl, rfl, .inl ⟨_, rfl, _, _, rfl, rfl, (by show (0 : Int) < 2147483629; decide), (by show 3 ≤ sizeLine; decide), fun r hr' => ?_⟩⟩
            refine k r _ (fun b o e => by rw [upd_ne (ne_of_none (sH b o e) hr')]; exact sH b o e) (sH.free hr') ⟨_, _, 0, upd_same, ?_, Int.emod_nonneg _ (by decide), Int.lt_of_lt_of_le (Int.emod_lt_of_pos _ (by decide)) (by decide)⟩
            exact Int.le_refl 0
    · have hob : Builtin.Int.intBits 0 ≤ 1048576 := by decide
      refine ⟨_, rfl, _, _, rfl, rfl, .inl ⟨by decide, by decide⟩, _, _, rfl, rfl, ?_⟩
      refine ⟨_, rfl, 6, rfl, a, _, rfl, hS, fun q hq => ?_⟩
      refine ⟨q, rfl, ⟨_, SqL.of upd_same⟩, for_list (K := K) (a := q) (xs := cutV (ns.map V.int) none (some 6)) (fun i σ H2 => ∃ (own st : Int) (cell : Option V), σ = [some (.ref a), some (.int t), some (.int own), some (.int st), cell] ∧ Builtin.Int.intBits own ≤ 1048576 ∧ Same (upd H q (.lst (cutV (ns.map V.int) none (some 6)))) H2 ∧ 0 ≤ st ∧ st < 2147483648) ⟨_, _, none, rfl, hob, Same.refl _, by omega, by omega⟩ (fun i σ H2 _ ⟨_, _, _, _, _, s2, _⟩ => s2.seq (SqL.of upd_same)) ?_ ?_⟩
      · rintro i y σ H2 hi ⟨own, st, cell, rfl, hob, s2, h0, h1⟩
        obtain ⟨z, rfl⟩ := cut_ints hi
        refine ⟨_, rfl, _, _, rfl, rfl, .inl ⟨by omega, by omega⟩, _, rfl, _, _, rfl, rfl, .inr ⟨by decide, by decide⟩, _, _, rfl, rfl, _, _, rfl, rfl, .inl ⟨_, rfl, _, _, rfl, rfl, (by show (0 : Int) < 2147483629; decide), ?_⟩⟩
        exact ⟨own, _, _, rfl, hob, s2, Int.emod_nonneg _ (by decide), Int.lt_of_lt_of_le (Int.emod_lt_of_pos _ (by decide)) (by decide)⟩
      · rintro σ H2 ⟨own, st, cell, rfl, hob, s2, h0, h1⟩
        have sH : Same H H2 := fun b o e => s2 b o (by rw [upd_ne (ne_of_none e hq)]; exact e)
        refine ⟨_, rfl, _, _, rfl, rfl, _, rfl, ?_⟩
        refine ite2 (fun ho => ?_) (fun ho => ?_)
        · refine iteT ⟨_, rfl, _, rfl, ?_⟩
          refine ⟨_, rfl, _, _, rfl, rfl, .inl ⟨by omega, by omega⟩, _, rfl, _, rfl, _, _, rfl, rfl, bits_ok hob, _, _, rfl, rfl, _, rfl, _, _, rfl, rfl, .inl ⟨by decide, by decide⟩, _, _, rfl, rfl, .inl ⟨_, rfl, _, _, rfl, rfl, (by show (0 : Int) < 2147483629; decide), (by show 3 ≤ sizeLine; decide), fun r hr' => ?_⟩⟩
          refine k r _ (fun b o e => by rw [upd_ne (ne_of_none (sH b o e) hr')]; exact sH b o e) (sH.free hr') ⟨_, _, 0, upd_same, ?_, Int.emod_nonneg _ (by decide), Int.lt_of_lt_of_le (Int.emod_lt_of_pos _ (by decide)) (by decide)⟩
          have ho' : own < 0 := of_decide_eq_true ho
          rw [if_pos ho']
          omega
        · refine ⟨_, rfl, _, _, rfl, rfl, ⟨by decide, by decide, by decide⟩, _, _, rfl, rfl, _, rfl, ?_⟩
          refine ite2 (fun ho2 => ?_) (fun ho2 => ?_)
          · refine ⟨_, rfl, _, rfl, ?_⟩
            refine ⟨_, rfl, _, _, rfl, rfl, .inl ⟨by omega, by omega⟩, _, rfl, _, rfl, _, _, rfl, rfl, bits_ok hob, _, _, rfl, rfl, _, rfl, _, _, rfl, rfl, .inl ⟨by decide, by decide⟩, _, _, rfl, rfl, .inl ⟨_, rfl, _, _, rfl, rfl, (by show (0 : Int) < 2147483629; decide), (by show 3 ≤ sizeLine; decide), fun r hr' => ?_⟩⟩
            refine k r _ (fun b o e => by rw [upd_ne (ne_of_none (sH b o e) hr')]; exact sH b o e) (sH.free hr') ⟨_, _, 0, upd_same, ?_, Int.emod_nonneg _ (by decide), Int.lt_of_lt_of_le (Int.emod_lt_of_pos _ (by decide)) (by decide)⟩
            have ho' : ¬ own < 0 := fun z => ho (decide_eq_true z)
            rw [if_neg ho']
            omega
          · skip
            refine ⟨_, rfl, _, _, rfl, rfl, .inl ⟨by omega, by omega⟩, _, rfl, _, rfl, _, _, rfl, rfl, bits_ok hob, _, _, rfl, rfl, _, rfl, _, _, rfl, rfl, .inl ⟨by decide, by decide⟩, _, _, rfl, rfl, .inl ⟨_, rfl, _, _, rfl, rfl, (by show (0 : Int) < 2147483629; decide), (by show 3 ≤ sizeLine; decide), fun r hr' => ?_⟩⟩
            refine k r _ (fun b o e => by rw [upd_ne (ne_of_none (sH b o e) hr')]; exact sH b o e) (sH.free hr') ⟨_, _, 0, upd_same, ?_, Int.emod_nonneg _ (by decide), Int.lt_of_lt_of_le (Int.emod_lt_of_pos _ (by decide)) (by decide)⟩
            exact Int.le_refl 0
end
end K5
set_option Elab.async false
set_option linter.all false
set_option maxRecDepth 100000
set_option maxHeartbeats 8000000
namespace K5
open PySem PySem.Spec PyProof.Rows L2 Gd Rl
open Pg (nolD nolAll nameS fD OkF cut_take)
abbrev sTags : Stmt := top 41
abbrev sWide : Stmt := top 42
abbrev sForm : Stmt := top 43
/-! ### what is no list stays -/
def Nl (H H' : Hp) : Prop := ∀ b o, H b = some o → (∀ xs, o ≠ .lst xs) → H' b = some o
theorem Nl.refl {H : Hp} : Nl H H := fun _ _ e _ => e
theorem Nl.trans {H H1 H2 : Hp} (a : Nl H H1) (b : Nl H1 H2) : Nl H H2 := fun c o e n => b c o (a c o e n) n
theorem nl_same {H H' : Hp} (s : Same H H') : Nl H H' := fun b o e _ => s b o e
theorem But.nl {p : Addr} {H H' : Hp} (b : But p H H') (hp : Pail H p) : Nl H H' := fun c o e n => b c o e fun q => by
  obtain ⟨o1, st, k, h, _⟩ := hp
  rw [q, h] at e
  cases e
  exact n _ rfl
theorem nl_upd {H : Hp} {l : Addr} {X Y : List V} (h : H l = some (.lst X)) : Nl H (upd H l (.lst Y)) := fun b o e n => by
  rw [upd_ne (fun q => by rw [q, h] at e; cases e; exact n _ rfl)]
  exact e
theorem nl_del {H : Hp} {l : Addr} {X : List V} (h : H l = some (.lst X)) : Nl H (delH H l) := fun b o e n => by
  rw [delH_ne (fun q => by rw [q, h] at e; cases e; exact n _ rfl)]
  exact e
theorem seqT_nl {K : PySem.W.Frag} {H H' : Hp} {a : Addr} {xs : List V} (s : Nl H H') (h : SqT K H a xs) : SqT K H' a xs := by
  rcases h with (h | ⟨o, h⟩) | h
  · exact .inl (.inl (s _ _ h fun _ q => nomatch q))
  · exact .inl (.inr ⟨o, s _ _ h fun _ q => nomatch q⟩)
  · exact .inr h
mutual
theorem dp_nl {K : PySem.W.Frag} {H H' : Hp} (s : Nl H H') : ∀ (d : PyData) {v : V}, nolD d = true → Dp K H v d → Dp K H' v d
  | .none, _, _, h => by cases h; exact .non
  | .bool b, _, _, h => by cases h; exact .bl b
  | .int i, _, _, h => by cases h; exact .int i
  | .str z, _, _, h => by cases h; exact .str z
  | .list ds, _, n, _ => by cases n
  | .tuple ds, _, n, h => by
    cases h with
    | tup hs ha => exact .tup (seqT_nl s hs) (dp_nlAll s ds (by rw [nolD] at n; exact n) ha)
  | .dict _, _, _, h => by cases h
theorem dp_nlAll {K : PySem.W.Frag} {H H' : Hp} (s : Nl H H') : ∀ (ds : List PyData) {vs : List V}, nolAll ds = true → DpAll K H vs ds → DpAll K H' vs ds
  | [], _, _, h => by cases h; exact .nil
  | d :: ds, _, n, h => by
    rw [nolAll, Bool.and_eq_true] at n
    cases h with
    | cons h1 h2 => exact .cons (dp_nl s d n.1 h1) (dp_nlAll s ds n.2 h2)
end
theorem Pail.same {H H' : Hp} {p : Addr} (h : Pail H p) (e : Same H H') : Pail H' p := by
  obtain ⟨o, st, c, h1, h2⟩ := h
  exact ⟨o, st, c, e _ _ h1, h2⟩
theorem Pail.ne {H : Hp} {p l : Addr} (h : Pail H p) (n : H l = none) : p ≠ l := by
  obtain ⟨o, st, c, h1, h2⟩ := h
  exact ne_of_none h1 n
theorem Pail.upd {H : Hp} {p l : Addr} {o : HO} (h : Pail H p) (n : p ≠ l) : Pail (upd H l o) p := by
  obtain ⟨o1, st, c, h1, h2⟩ := h
  exact ⟨o1, st, c, by rw [upd_ne n]; exact h1, h2⟩
theorem but_same {p : Addr} {H H' : Hp} (s : Same H H') : But p H H' := fun b o e _ => s b o e
section
variable {P : Program} {w : World} {K : PySem.W.Frag} {mg : Str → Option Value} {base : Heap} {f : Addr} {fd : FuncData}
/-! ### names drawn -/
def menuS : List Str := ["x", "y", "a", "b", "k9", "vars", "say", "then", "test", "branch", "abcdefgh", "n", "z0000000", "undo"]
def tagsS (k : Nat) : List Str := (menuS.drop k ++ menuS.take k).take 6
structure OkG (l : List Str) : Prop where
  six : l.length = 6
  nd : l.Nodup
  nm : ∀ z ∈ l, nameS z = true
def okGb (l : List Str) : Bool := decide (l.length = 6) && decide l.Nodup && l.all nameS
theorem okG_of {l : List Str} (h : okGb l = true) : OkG l := by
  unfold okGb at h
  simp only [Bool.and_eq_true, decide_eq_true_eq] at h
  exact ⟨h.1.1, h.1.2, List.all_eq_true.mp h.2⟩
theorem tags_all : ((List.range 14).all fun k => okGb (tagsS k)) = true := by decide +kernel
theorem tags_ok {k : Nat} (h : k < 14) : OkG (tagsS k) := okG_of (List.all_eq_true.mp tags_all k (List.mem_range.mpr h))
def spTags : Sp := fun vs H Q _ => ∃ p : Addr, vs = [.ref p, .int 6] ∧ Pail H p ∧ ∀ (q : Addr) (l : List Str) (H' : Hp), OkG l → H q = none → H' q = some (.lst (l.map V.str)) → Pail H' p → But p H H' → Q (.ref q) H'
theorem scTags : FnScope ["_law_pail", "_law_many", "_law_menu", "_law_at"] ["_law_pail", "_law_many"] (defScope sTags) := ⟨rfl, rfl, rfl, by decide +kernel, rfl, by decide +kernel, by decide +kernel⟩
theorem ok_tags {fC : Addr} {dC : FuncData} (F : FnP K "_law_tags" sTags f fd) (T : Bl mg) (FC : FnP K "_law_cast" sCast fC dC) (gC : mg "_law_cast" = some (.ref fC)) : FnOk P w K mg base CX0 2 f fd ["_law_pail", "_law_many"] spTags := by
  have GC : FnOk P w K mg base CX0 1 fC dC ["_law_pail", "_law_many"] spCast := ok_cast FC T
  have bC : Binds K dC ["_law_pail", "_law_many"] [] := FC.bindsN fun _ _ _ _ _ _ us hl => match us, hl with | [_, _], _ => rfl
  refine F.ok scTags (fun vs H Q E h => ?_) (fun cdv A outer s H vs Q E hr h => ?_)
  · obtain ⟨p, rfl, _⟩ := h
    rfl
  · obtain ⟨p, rfl, hp, k⟩ := h
    refine ⟨_, PSs.nox <| pss_cons (ps_set (i := 2) scTags.nd rfl (.inl rfl) (pe_lstR <| pa_cons pe_str <| pa_cons pe_str <| pa_cons pe_str <| pa_cons pe_str <| pa_cons pe_str <| pa_cons pe_str <| pa_cons pe_str <| pa_cons pe_str <| pa_cons pe_str <| pa_cons pe_str <| pa_cons pe_str <| pa_cons pe_str <| pa_cons pe_str <| pa_cons pe_str pa_nil))
      <| pss_cons (ps_set (i := 3) scTags.nd rfl (.inl rfl) (pe_call GC hr (by rfl) gC FC.kp bC .nil pass0 (pa_cons (pv 0) (pa_cons (pe_callB call_len (by rfl) T.len PySem.boot_len (pa_cons (pv 2) pa_nil)) pa_nil))))
      <| pss_one (ps_ret (pe_slice (r := rSlR K) sl_listR (pe_op op_catR (pe_slice (r := rSlR K) sl_listR (pv 2) (po_some (pv 3)) po_none) (pe_slice (r := rSlR K) sl_listR (pv 2) po_none (po_some (pv 3)))) po_none (po_some (pv 1)))), ?_⟩
    refine ⟨(show 14 ≤ 1000 by decide), fun m H1 n1 => ?_⟩
    have e1 : H1 m = some (.lst (menuS.map V.str)) := n1.2.1
    have hp1 := hp.same n1.2.2
    refine ⟨_, rfl, _, rfl, _, 14, rfl, .inl ⟨_, SqL.of e1, rfl⟩, p, _, rfl, hp1, by decide, by decide, fun r H2 r0 r1 hp2 b2 => ?_⟩
    obtain ⟨j, rfl⟩ := Int.eq_ofNat_of_zero_le r0
    have hj : j < 14 := by omega
    have nm : m ≠ p := (hp.ne n1.1).symm
    have e2 := b2 m _ e1 nm
    have lm : (menuS.map V.str).length = 14 := rfl
    have c1 : cutV (menuS.map V.str) (some (j : Int)) none = (menuS.drop j).map V.str := by
      unfold cutV
      rw [HT.sIx_nat, HT.sIx_none, lm, Nat.min_eq_left (by omega), List.map_drop]
      apply List.take_of_length_le
      rw [List.length_drop, lm]
      exact Nat.le_refl _
    have c2 : cutV (menuS.map V.str) none (some (j : Int)) = (menuS.take j).map V.str := by
      rw [cut_take (by omega), List.map_take]
    refine ⟨_, rfl, _, rfl, _, rfl, m, _, rfl, SqL.of e2, fun q1 H3 n3 => ?_⟩
    refine ⟨_, rfl, _, rfl, _, rfl, m, _, rfl, SqL.of (n3.2.2 _ _ e2), fun q2 H4 n4 => ?_⟩
    rw [c1] at n3
    rw [c2] at n4
    have l1 : (menuS.drop j).length ≤ 14 := by
      rw [List.length_drop]
      exact Nat.sub_le _ _
    have l2 : (menuS.take j).length ≤ 14 := by
      rw [List.length_take]
      exact Nat.min_le_right _ _
    refine ⟨q1, q2, _, _, rfl, rfl, n4.2.2 _ _ n3.2.1, n4.2.1, by rw [List.length_map, List.length_map]; omega, fun q3 H5 n5 => ?_⟩
    refine ⟨_, rfl, _, rfl, q3, _, rfl, SqL.of n5.2.1, fun q4 H6 n6 => ?_⟩
    have c3 : cutV ((menuS.drop j).map V.str ++ (menuS.take j).map V.str) none (some 6) = (tagsS j).map V.str := by
      rw [← List.map_append, show (6 : Int) = ((6 : Nat) : Int) from rfl, cut_take, ← List.map_take]
      · rfl
      · rw [List.length_map, List.length_append, List.length_drop, List.length_take]
        show 6 ≤ (14 - j) + min j 14
        omega
    rw [c3] at n6
    have s26 := n3.2.2.trans (n4.2.2.trans (n5.2.2.trans n6.2.2))
    refine k q4 _ H6 (tags_ok hj) ?_ n6.2.1 (hp2.same s26) ((but_same n1.2.2).trans (b2.trans (but_same s26)))
    cases e : H q4 with
    | none => rfl
    | some o =>
      by_cases hq : q4 = p
      · obtain ⟨o1, st, c, h1, _⟩ := hp2.same (n3.2.2.trans (n4.2.2.trans n5.2.2))
        rw [← hq, n6.1] at h1
        cases h1
      · have z := (n3.2.2.trans (n4.2.2.trans n5.2.2)) _ _ (b2 _ _ (n1.2.2 _ _ e) hq)
        rw [n6.1] at z
        cases z
/-! ### numbers drawn -/
def spWide : Sp := fun vs H Q _ => ∃ p : Addr, vs = [.ref p] ∧ Pail H p ∧ ∀ (i : Int) (H' : Hp), (-1000000 ≤ i ∧ i ≤ 1000000) → Pail H' p → But p H H' → Q (.int i) H'
theorem scWide : FnScope ["_law_pail", "_law_way"] ["_law_pail"] (defScope sWide) := ⟨rfl, rfl, rfl, by decide +kernel, rfl, by decide +kernel, by decide +kernel⟩
theorem ok_wide {fC fA : Addr} {dC dA : FuncData} (F : FnP K "_law_wide" sWide f fd) (T : Bl mg) (FC : FnP K "_law_cast" sCast fC dC) (gC : mg "_law_cast" = some (.ref fC)) (FA : FnP K "_law_any_of" sAny fA dA) (gA : mg "_law_any_of" = some (.ref fA)) : FnOk P w K mg base CX0 3 f fd ["_law_pail"] spWide := by
  have GC : FnOk P w K mg base CX0 1 fC dC ["_law_pail", "_law_many"] spCast := ok_cast FC T
  have bC : Binds K dC ["_law_pail", "_law_many"] [] := FC.bindsN fun _ _ _ _ _ _ us hl => match us, hl with | [_, _], _ => rfl
  have GA : FnOk P w K mg base CX0 2 fA dA ["_law_pail", "_law_some"] (spAny K) := ok_any FA T FC gC
  have bA : Binds K dA ["_law_pail", "_law_some"] [] := FA.bindsN fun _ _ _ _ _ _ us hl => match us, hl with | [_, _], _ => rfl
  refine F.ok scWide (fun vs H Q E h => ?_) (fun cdv A outer s H vs Q E hr h => ?_)
  · obtain ⟨p, rfl, _⟩ := h
    rfl
  · obtain ⟨p, rfl, hp, k⟩ := h
    have hr1 := hr.mono (show 1 ≤ 2 by decide)
    refine ⟨_, PSs.nox <| pss_cons (ps_set (i := 1) scWide.nd rfl (.inl rfl) (pe_call GC hr1 (by rfl) gC FC.kp bC .nil pass0 (pa_cons (pv 0) (pa_cons pe_int pa_nil))))
      <| pss_cons (ps_if (pt_cmpR op_lt (pv 1) pe_int (nomark _)) (pss_one (ps_ret (pe_op op_sub (pe_call GC hr1 (by rfl) gC FC.kp bC .nil pass0 (pa_cons (pv 0) (pa_cons pe_int pa_nil))) pe_int))) pss_nil)
      <| pss_cons (ps_if (pt_cmpR op_eq (pv 1) pe_int (nomark _)) (pss_one (ps_ret (pe_call GA hr (by rfl) gA FA.kp bA .nil pass0 (pa_cons (pv 0) (pa_cons (pe_lstR <| pa_cons (pe_op op_pow pe_int pe_int) <| pa_cons (pe_un un_neg (pe_op op_pow pe_int pe_int)) <| pa_cons pe_int <| pa_cons pe_int pa_nil) pa_nil))))) pss_nil)
      <| pss_one (ps_ret (pe_ifExp (pt_cmpR op_eq (pv 1) pe_int (nomark _)) (pe_op op_sub (pe_call GC hr1 (by rfl) gC FC.kp bC .nil pass0 (pa_cons (pv 0) (pa_cons pe_int pa_nil))) pe_int)
          (pe_op op_sub (pe_call GC hr1 (by rfl) gC FC.kp bC .nil pass0 (pa_cons (pv 0) (pa_cons (pe_op op_add (pe_op op_mul pe_int (pe_op op_pow pe_int pe_int)) pe_int) pa_nil))) (pe_op op_pow pe_int pe_int)))), ?_⟩
    refine ⟨_, rfl, p, _, rfl, hp, by decide, by decide, fun r H1 r0 r1 hp1 b1 => ?_⟩
    refine ⟨_, rfl, _, _, rfl, rfl, _, rfl, ?_⟩
    refine ite2 (fun hc => ?_) (fun hc => ?_)
    · refine ⟨_, rfl, p, _, rfl, hp1, by decide, by decide, fun r2 H2 r20 r21 hp2 b2 => ?_⟩
      exact ⟨_, _, rfl, rfl, k _ H2 (by omega) hp2 (b1.trans b2)⟩
    · refine ⟨_, rfl, rfl, _, rfl, ?_⟩
      refine ite2 (fun hc2 => ?_) (fun hc2 => ?_)
      · refine ⟨_, rfl, _, _, rfl, rfl, ⟨by decide, by decide, by decide⟩, _, _, rfl, rfl, ⟨by decide, by decide, by decide⟩, _, rfl, (show 4 ≤ 1000 by decide), fun l H2 n2 => ?_⟩
        have hp2 := hp1.same n2.2.2
        refine ⟨p, l, _, rfl, hp2, n2.2.1, (hp1.ne n2.1).symm, (show 0 < 4 by decide), (show 4 ≤ 1000 by decide), fun i x H3 ex hp3 b3 => ?_⟩
        have hb := b1.trans ((but_same n2.2.2).trans b3)
        match i, ex with
        | 0, ex =>
          cases Option.some.inj ex
          exact k _ H3 (by decide) hp3 hb
        | 1, ex =>
          cases Option.some.inj ex
          exact k _ H3 (by decide) hp3 hb
        | 2, ex =>
          cases Option.some.inj ex
          exact k _ H3 (by decide) hp3 hb
        | 3, ex =>
          cases Option.some.inj ex
          exact k _ H3 (by decide) hp3 hb
        | i + 4, ex => simp at ex
      · refine ⟨_, rfl, rfl, _, rfl, ?_⟩
        refine ite2 (fun hc3 => ?_) (fun hc3 => ?_)
        · refine ⟨_, rfl, p, _, rfl, hp1, by decide, by decide, fun r2 H2 r20 r21 hp2 b2 => ?_⟩
          exact ⟨_, _, rfl, rfl, k _ H2 (by omega) hp2 (b1.trans b2)⟩
        · refine ⟨_, rfl, _, _, rfl, rfl, ⟨by decide, by decide, by decide⟩, _, _, rfl, rfl, .inl ⟨by decide, by decide⟩, _, _, rfl, rfl, p, _, rfl, hp1, by decide, by decide, fun r2 H2 r20 r21 hp2 b2 => ?_⟩
          refine ⟨_, _, rfl, rfl, ⟨by decide, by decide, by decide⟩, _, _, rfl, rfl, ?_⟩
          have r22 : r2 < 2000001 := r21
          have e6 : ((10 : Int) ^ (6 : Int).toNat) = 1000000 := by decide
          rw [e6]
          exact k _ H2 (by omega) hp2 (b1.trans b2)
/-! ### a form drawn -/
structure RangeB (mg : Str → Option Value) : Prop where
  range : mg "range" = none
  tuple : mg "tuple" = none
def spForm (K : PySem.W.Frag) : Sp := fun vs H Q _ => ∃ (p : Addr) (m : Nat), vs = [.ref p, .int m] ∧ m ≤ 3 ∧ Pail H p ∧ ∀ (v : V) (g : List Int) (H' : Hp), g.length = m + 1 → (∀ i ∈ g, -1000000 ≤ i ∧ i ≤ 1000000) → Dp K H' v (fD g) → Pail H' p → But p H H' → Q v H'
theorem scForm : FnScope ["_law_pail", "_law_size", "_law_k"] ["_law_pail", "_law_size"] (defScope sForm) := ⟨rfl, rfl, rfl, by decide +kernel, rfl, by decide +kernel, by decide +kernel⟩
theorem ok_form {fC fA fW : Addr} {dC dA dW : FuncData} (F : FnP K "_law_form" sForm f fd) (T : Bl mg) (R : RangeB mg) (FC : FnP K "_law_cast" sCast fC dC) (gC : mg "_law_cast" = some (.ref fC)) (FA : FnP K "_law_any_of" sAny fA dA) (gA : mg "_law_any_of" = some (.ref fA)) (FW : FnP K "_law_wide" sWide fW dW) (gW : mg "_law_wide" = some (.ref fW)) : FnOk P w K mg base CX0 4 f fd ["_law_pail", "_law_size"] (spForm K) := by
  have GW : FnOk P w K mg base CX0 3 fW dW ["_law_pail"] spWide := ok_wide FW T FC gC FA gA
  have bW : Binds K dW ["_law_pail"] [] := FW.bindsN fun _ _ _ _ _ _ us hl => match us, hl with | [_], _ => rfl
  refine F.ok scForm (fun vs H Q E h => ?_) (fun cdv A outer s H vs Q E hr h => ?_)
  · obtain ⟨p, m, rfl, _⟩ := h
    rfl
  · obtain ⟨p, m, rfl, m3, hp, k⟩ := h
    refine ⟨_, PSs.nox <| pss_one (ps_ret (pe_callTy call_tuple_of (by rfl) R.tuple (by decide +kernel) (pa_cons (pe_lc (own := [("_law_k", 2)]) (g := gName 2) (tt := tYes) rfl scForm.nd (pi_range1 (by rfl) R.range (pa_cons (pe_op op_add (pv 1) pe_int) pa_nil)) (blkOk_by (N := ["_law_pail", "_law_size", "_law_k"]) (sc := defScope sForm) (by decide +kernel)) (fun _ _ _ _ _ => pg_name (i := 2) scForm.nd rfl (Or.inl rfl)) (fun _ _ _ _ _ => pts_nil)
        (fun _ _ _ _ _ => pe_call GW hr (by rfl) gW FW.kp bW .nil pass0 (pa_cons (pv 0) pa_nil))) pa_nil))), ?_⟩
    have em : ((m : Int) + 1).toNat = m + 1 := by omega
    refine ⟨_, rfl, _, _, rfl, rfl, _, rfl, by omega, by omega, ?_⟩
    intro D hD
    refine lc_range (lo := 0) (n := ((m : Int) + 1).toNat) (fun i H' => ∃ g : List Int, g.length = i ∧ (∀ i ∈ g, -1000000 ≤ i ∧ i ≤ 1000000) ∧ H' D = some (.lst (g.map V.int)) ∧ Pail H' p ∧ But p H H') ⟨[], rfl, (fun _ h => by cases h), upd_same, hp.upd (hp.ne hD), but_same (same_new hD)⟩ ?_ ?_
    · rintro i H2 hi ⟨g, lg, hg, hD2, hp2, b2⟩
      refine ⟨rfl, _, rfl, p, rfl, hp2, fun n H3 hn hp3 b3 => ?_⟩
      have hD3 := b3 D _ hD2 (hp.ne hD).symm
      refine ⟨_, hD3, small1000 (by rw [List.length_map]; omega), g ++ [n], by rw [List.length_append, lg]; rfl, fun z hz => ?_, ?_, hp3.upd (hp.ne hD), ?_⟩
      · rcases List.mem_append.mp hz with hz | hz
        · exact hg z hz
        · rw [List.mem_singleton.mp hz]
          exact hn
      · rw [upd_same, List.map_append]
        rfl
      · intro b o e nb
        rw [upd_ne (ne_of_none e hD)]
        exact b3 b o (b2 b o e nb) nb
    · rintro H2 ⟨g, lg, hg, hD2, hp2, b2⟩
      refine ⟨D, _, rfl, .inl ⟨SqL.of hD2, fun q nq => ?_⟩⟩
      exact k _ g _ (by omega) hg (Pg.dp_ints (SqT.of upd_same)) (hp2.upd (hp2.ne nq)) (b2.trans (but_same (same_new nq)))
end
end K5
set_option Elab.async false
set_option linter.all false
set_option maxRecDepth 100000
set_option maxHeartbeats 8000000
namespace Pg
open PySem PySem.Spec PyProof.Rows L2 Gd Rl
theorem dp_len' {K : PySem.W.Frag} {H : Hp} {vs : List V} {ds : List PyData} (h : DpAll K H vs ds) : vs.length = ds.length := dp_len h
theorem dp_sameD {K : PySem.W.Frag} {H H' : Hp} {v : V} {d : PyData} (s : Same H H') (h : Dp K H v d) : Dp K H' v d := dp_same s d h
theorem dp_sameAllD {K : PySem.W.Frag} {H H' : Hp} {vs : List V} {ds : List PyData} (s : Same H H') (h : DpAll K H vs ds) : DpAll K H' vs ds := dp_sameAll s ds h
theorem nol_says (ss : List (Str × List Int)) : nolD (saysD ss) = true := by
  unfold saysD
  rw [nolD]
  exact nol_map nol_say ss
end Pg
namespace K5
open PySem PySem.Spec PyProof.Rows L2 Gd Rl
open Pg (nolD nolAll nameS nameB fD OkF cut_take Arm sayD armD namesD saysD armsD placesS standS firsts firstB OkN OkS OkA OkP ArmOk formB formsB sayB numB nol_map nol_f nol_fs nol_say nol_arm dp_snoc list_is strs_at iteDN iteDY)
abbrev sParts : Stmt := top 44
/-! ### few places -/
theorem pigeon : ∀ {xs ys : List Str}, xs.Nodup → (∀ z ∈ xs, z ∈ ys) → xs.length ≤ ys.length
  | [], _, _, _ => Nat.zero_le _
  | x :: xs, ys, nd, h => by
    have hx := h x (List.mem_cons_self ..)
    have nd2 := List.nodup_cons.mp nd
    have ih := pigeon (ys := ys.erase x) nd2.2 fun z hz => (List.mem_erase_of_ne (fun e : z = x => nd2.1 (by rw [← e]; exact hz))).mpr (h z (List.mem_cons_of_mem _ hz))
    rw [List.length_erase_of_mem hx] at ih
    have := List.length_pos_of_mem hx
    rw [List.length_cons]
    omega
theorem firsts_mem {l : List Str} : ∀ z ∈ firsts l, z ∈ l := by
  intro z hz
  unfold firsts at hz
  obtain ⟨i, hi, rfl⟩ := List.mem_map.mp hz
  have hi2 := List.mem_range.mp (List.mem_filter.mp hi).1
  rw [List.getD_eq_getElem?_getD, List.getElem?_eq_getElem hi2]
  exact List.getElem_mem hi2
theorem firsts_nodup (l : List Str) : (firsts l).Nodup := by
  unfold firsts
  rw [List.Nodup, List.pairwise_map]
  refine List.Pairwise.imp_of_mem (fun {i j} hi hj hlt => ?_) (List.Pairwise.filter _ List.pairwise_lt_range)
  have hj2 := List.mem_range.mp (List.mem_filter.mp hj).1
  have hf := (List.mem_filter.mp hj).2
  intro e
  unfold firstB at hf
  rw [← e] at hf
  have hm : l.getD i "" ∈ l.take j := by
    have hi2 : i < l.length := by omega
    rw [List.getD_eq_getElem?_getD, List.getElem?_eq_getElem hi2]
    show l[i] ∈ l.take j
    refine List.mem_of_getElem? (i := i) ?_
    rw [List.getElem?_take_of_lt hlt, List.getElem?_eq_getElem hi2]
  have hc : (l.take j).contains (l.getD i "") = true := by simpa using hm
  rw [hc] at hf
  cases hf
theorem places_few {sp : List Str} {ss : List (Str × List Int)} {as : List Arm} (h1 : ∀ s ∈ ss, s.1 ∈ sp) (h2 : ∀ a ∈ as, a.src ∈ sp ∧ a.tgt ∈ sp) : (placesS ss as).length ≤ sp.length := by
  refine pigeon (firsts_nodup _) fun z hz => ?_
  have hm := firsts_mem z hz
  unfold standS at hm
  rcases List.mem_append.mp hm with hm | hm
  · obtain ⟨s, hs, rfl⟩ := List.mem_map.mp hm
    exact h1 s hs
  · obtain ⟨q, hq, hm⟩ := List.mem_flatten.mp hm
    obtain ⟨a, ha, rfl⟩ := List.mem_map.mp hq
    have ha2 := h2 a ha
    rcases List.mem_cons.mp hm with rfl | hm
    · exact ha2.1
    · rw [List.mem_singleton.mp hm]
      exact ha2.2
/-! ### right forms -/
structure FmOk (m : Nat) (g : List Int) : Prop where
  len : g.length = m + 1
  num : ∀ i ∈ g, -1000000 ≤ i ∧ i ≤ 1000000
theorem form_of {m : Nat} {g : List Int} (h : FmOk m g) : formB m (fD g) = true := by
  show (decide ((g.map PyData.int).length = m + 1) && (g.map PyData.int).all numB) = true
  rw [Bool.and_eq_true, decide_eq_true_eq, List.length_map, List.all_map, List.all_eq_true]
  refine ⟨h.len, fun i hi => ?_⟩
  show (decide (-1000000 ≤ i) && decide (i ≤ 1000000)) = true
  have := h.num i hi
  simp [this.1, this.2]
theorem forms_of {m : Nat} {gs : List (List Int)} (h : ∀ g ∈ gs, FmOk m g) : formsB m (.tuple (gs.map fD)) = true := by
  show (gs.map fD).all (formB m) = true
  rw [List.all_map, List.all_eq_true]
  exact fun g hg => form_of (h g hg)
theorem say_of {m : Nat} {s : Str × List Int} (h1 : nameS s.1 = true) (h2 : FmOk m s.2) : sayB m (sayD s) = true := by
  show (nameS s.1 && formB m (fD s.2)) = true
  rw [h1, form_of h2]
  rfl
section
variable {P : Program} {w : World} {K : PySem.W.Frag} {mg : Str → Option Value} {base : Heap} {f : Addr} {fd : FuncData}
def spParts (K : PySem.W.Frag) : Sp := fun vs H Q _ => ∃ p : Addr, vs = [.ref p] ∧ Pail H p ∧ ∀ (r : Addr) (u v z : V) (ns : List Str) (ss : List (Str × List Int)) (as : List Arm) (H' : Hp), OkP ns ss as → H r = none → H' r = some (.lst [u, v, z]) → Dp K H' u (namesD ns) → Dp K H' v (saysD ss) → Dp K H' z (armsD as) → Pail H' p → But p H H' → Q (.ref r) H'
abbrev nParts : List Str := ["_law_pail", "_law_size", "_law_tags_here", "_law_spots_here", "_law_says", "_law_k", "_law_arms", "_law_asks", "_law_j", "_law_turns"]
theorem scParts : FnScope nParts ["_law_pail"] (defScope sParts) := ⟨rfl, rfl, rfl, by decide +kernel, rfl, by decide +kernel, by decide +kernel⟩
/-- where the law's drawing defs stand -/
structure Dr (K : PySem.W.Frag) (mg : Str → Option Value) (fC fA fT fW fF : Addr) (dC dA dT dW dF : FuncData) : Prop where
  c : FnP K "_law_cast" sCast fC dC
  a : FnP K "_law_any_of" sAny fA dA
  t : FnP K "_law_tags" sTags fT dT
  w : FnP K "_law_wide" sWide fW dW
  f : FnP K "_law_form" sForm fF dF
  gc : mg "_law_cast" = some (.ref fC)
  ga : mg "_law_any_of" = some (.ref fA)
  gt : mg "_law_tags" = some (.ref fT)
  gw : mg "_law_wide" = some (.ref fW)
  gf : mg "_law_form" = some (.ref fF)
theorem none_but {p q : Addr} {H H1 : Hp} (b : But p H H1) (hp : Pail H1 p) (n : H1 q = none) : H q = none := by
  cases e : H q with
  | none => rfl
  | some o =>
    have z := b q o e (fun h => by
      obtain ⟨o1, st, c, h1, _⟩ := hp
      rw [← h, n] at h1
      cases h1)
    rw [n] at z
    cases z
theorem ok_parts {fC fA fT fW fF : Addr} {dC dA dT dW dF : FuncData} (F : FnP K "_law_parts" sParts f fd) (T : Bl mg) (R : RangeB mg) (D : Dr K mg fC fA fT fW fF dC dA dT dW dF) : FnOk P w K mg base CX0 5 f fd ["_law_pail"] (spParts K) := by
  have GC : FnOk P w K mg base CX0 1 fC dC ["_law_pail", "_law_many"] spCast := ok_cast D.c T
  have GA : FnOk P w K mg base CX0 2 fA dA ["_law_pail", "_law_some"] (spAny K) := ok_any D.a T D.c D.gc
  have GT : FnOk P w K mg base CX0 2 fT dT ["_law_pail", "_law_many"] spTags := ok_tags D.t T D.c D.gc
  have GF : FnOk P w K mg base CX0 4 fF dF ["_law_pail", "_law_size"] (spForm K) := ok_form D.f T R D.c D.gc D.a D.ga D.w D.gw
  have bC : Binds K dC ["_law_pail", "_law_many"] [] := D.c.bindsN fun _ _ _ _ _ _ us hl => match us, hl with | [_, _], _ => rfl
  have bA : Binds K dA ["_law_pail", "_law_some"] [] := D.a.bindsN fun _ _ _ _ _ _ us hl => match us, hl with | [_, _], _ => rfl
  have bT : Binds K dT ["_law_pail", "_law_many"] [] := D.t.bindsN fun _ _ _ _ _ _ us hl => match us, hl with | [_, _], _ => rfl
  have bF : Binds K dF ["_law_pail", "_law_size"] [] := D.f.bindsN fun _ _ _ _ _ _ us hl => match us, hl with | [_, _], _ => rfl
  refine F.ok scParts (fun vs H Q E h => ?_) (fun cdv A outer s H vs Q E hr h => ?_)
  · obtain ⟨p, rfl, _⟩ := h
    rfl
  · obtain ⟨p, rfl, hp, k⟩ := h
    have hr1 := hr.mono (show 1 ≤ 4 by decide)
    have hr2 := hr.mono (show 2 ≤ 4 by decide)
    refine ⟨_, PSs.nox <| pss_cons (ps_asg (pe_tupR (pa_cons (pe_op op_add pe_int (pe_call GC hr1 (by rfl) D.gc D.c.kp bC .nil pass0 (pa_cons (pv 0) (pa_cons pe_int pa_nil)))) (pa_cons (pe_call GT hr2 (by rfl) D.gt D.t.kp bT .nil pass0 (pa_cons (pv 0) (pa_cons pe_int pa_nil))) pa_nil))) (pg_tup (by rfl) (pgs_cons (pg_name (i := 1) scParts.nd rfl (.inr rfl)) (pgs_cons (pg_name (i := 2) scParts.nd rfl (.inl rfl)) pgs_nil))))
      <| pss_cons (ps_set (i := 3) scParts.nd rfl (.inr rfl) (pe_slice (r := rSlR K) sl_listR (pv 2) (po_some pe_int) (po_some (pe_op op_add pe_int (pe_call GC hr1 (by rfl) D.gc D.c.kp bC .nil pass0 (pa_cons (pv 0) (pa_cons pe_int pa_nil)))))))
      <| pss_cons (ps_set (i := 4) scParts.nd rfl (.inl rfl) (pe_callTy call_tuple_of (by rfl) R.tuple (by decide +kernel) (pa_cons (pe_lc (own := [("_law_k", 5)]) (g := gName 5) (tt := tYes) rfl scParts.nd (pi_range1 (by rfl) R.range (pa_cons (pe_call GC hr1 (by rfl) D.gc D.c.kp bC .nil pass0 (pa_cons (pv 0) (pa_cons pe_int pa_nil))) pa_nil)) (blkOk_by (N := nParts) (sc := defScope sParts) (by decide +kernel)) (fun _ _ _ _ _ => pg_name (i := 5) scParts.nd rfl (Or.inl rfl)) (fun _ _ _ _ _ => pts_nil)
          (fun _ _ _ _ _ => pe_tupR (pa_cons (pe_call GA hr2 (by rfl) D.ga D.a.kp bA .nil pass0 (pa_cons (pv 0) (pa_cons (pv 3) pa_nil))) (pa_cons (pe_call GF hr (by rfl) D.gf D.f.kp bF .nil pass0 (pa_cons (pv 0) (pa_cons (pv 1) pa_nil))) pa_nil)))) pa_nil)))
      <| pss_cons (ps_set (i := 6) scParts.nd rfl (.inl rfl) (pe_lstR pa_nil))
      <| pss_cons (ps_for PassesOwn.never rfl (pi_range1 (by rfl) R.range (pa_cons (pe_op op_add pe_int (pe_call GC hr1 (by rfl) D.gc D.c.kp bC .nil pass0 (pa_cons (pv 0) (pa_cons pe_int pa_nil)))) pa_nil)) (pg_name (i := 5) scParts.nd rfl (.inl rfl))
          (pss_cons (ps_set (i := 7) scParts.nd rfl (.inl rfl) (pe_callTy call_tuple_of (by rfl) R.tuple (by decide +kernel) (pa_cons (pe_lc (own := [("_law_j", 8)]) (g := gName 8) (tt := tYes) rfl scParts.nd (pi_range1 (by rfl) R.range (pa_cons (pe_call GC hr1 (by rfl) D.gc D.c.kp bC .nil pass0 (pa_cons (pv 0) (pa_cons pe_int pa_nil))) pa_nil)) (blkOk_by (N := nParts) (sc := defScope sParts) (by decide +kernel)) (fun _ _ _ _ _ => pg_name (i := 8) scParts.nd rfl (Or.inl rfl)) (fun _ _ _ _ _ => pts_nil) (fun _ _ _ _ _ => (pe_call GF hr (by rfl) D.gf D.f.kp bF .nil pass0 (pa_cons (pv 0) (pa_cons (pv 1) pa_nil))))) pa_nil)))
          <| pss_cons (ps_set (i := 9) scParts.nd rfl (.inl rfl) (pe_callTy call_tuple_of (by rfl) R.tuple (by decide +kernel) (pa_cons (pe_lc (own := [("_law_j", 8)]) (g := gName 8) (tt := tYes) rfl scParts.nd (pi_range1 (by rfl) R.range (pa_cons (pv 1) pa_nil)) (blkOk_by (N := nParts) (sc := defScope sParts) (by decide +kernel)) (fun _ _ _ _ _ => pg_name (i := 8) scParts.nd rfl (Or.inl rfl)) (fun _ _ _ _ _ => pts_nil) (fun _ _ _ _ _ => (pe_call GF hr (by rfl) D.gf D.f.kp bF .nil pass0 (pa_cons (pv 0) (pa_cons (pv 1) pa_nil))))) pa_nil)))
          <| pss_one (ps_expr (pe_bm PySem.F.plainAttrs_list PySem.F.slot_list_append PySem.F.type_list_append mt_append (pv 6) (pa_cons (pe_tupR (pa_cons (pe_call GA hr2 (by rfl) D.ga D.a.kp bA .nil pass0 (pa_cons (pv 0) (pa_cons (pv 3) pa_nil))) (pa_cons (pe_call GA hr2 (by rfl) D.ga D.a.kp bA .nil pass0 (pa_cons (pv 0) (pa_cons (pv 3) pa_nil))) (pa_cons (pv 7) (pa_cons (pv 9) pa_nil))))) pa_nil)))))
      <| pss_one (ps_ret (pe_lstR (pa_cons (pe_callTy call_tuple_of (by rfl) R.tuple (by decide +kernel) (pa_cons (pe_slice (r := rSlR K) sl_listR (pv 2) po_none (po_some (pv 1))) pa_nil)) (pa_cons (pv 4) (pa_cons (pe_callTy call_tuple_of (by rfl) R.tuple (by decide +kernel) (pa_cons (pv 6) pa_nil)) pa_nil))))), ?_⟩
    refine ⟨_, rfl, p, _, rfl, hp, by decide, by decide, fun r1 H1 r10 r11 hp1 b1 => ⟨_, _, rfl, rfl, _, rfl, p, rfl, hp1, fun q l H2 okl nq eq hp2 b2 => ⟨(show 2 ≤ 1000 by decide), fun T3 H3 n3 => ?_⟩⟩⟩
    obtain ⟨j1, rfl⟩ := Int.eq_ofNat_of_zero_le r10
    have em : (1 + (j1 : Int)) = ((j1 + 1 : Nat) : Int) := by omega
    replace n3 : New H2 T3 (.tup [.int (1 + (j1 : Int)), .ref q]) H3 := n3
    rw [em] at n3
    have m3 : j1 + 1 ≤ 3 := by omega
    have m1 : 1 ≤ j1 + 1 := by omega
    generalize j1 + 1 = m at n3 m3 m1
    refine ⟨T3, _, rfl, SqT.of n3.2.1, rfl, _, _, rfl, _, _, rfl, rfl, ?_⟩
    have hp3 := hp2.same n3.2.2
    have qp : q ≠ p := (hp1.ne nq).symm
    have eq3 := n3.2.2 _ _ eq
    have b3 : But p H H3 := b1.trans (b2.trans (but_same n3.2.2))
    refine ⟨_, rfl, 3, rfl, _, rfl, p, _, rfl, hp3, by decide, by decide, fun r2 H4 r20 r21 hp4 b4 => ⟨_, _, rfl, rfl, _, rfl, q, _, rfl, SqL.of (b4 q _ eq3 qp), fun sp H5 n5 => ?_⟩⟩
    obtain ⟨j2, rfl⟩ := Int.eq_ofNat_of_zero_le r20
    have l6 : (l.map V.str).length = 6 := by
      rw [List.length_map]
      exact okl.six
    have c5 : cutV (l.map V.str) (some 3) (some (4 + (j2 : Int))) = ((l.drop 3).take (j2 + 1)).map V.str := by
      unfold cutV
      rw [show (3 : Int) = ((3 : Nat) : Int) from rfl, show (4 + (j2 : Int)) = ((4 + j2 : Nat) : Int) by omega, HT.sIx_nat, HT.sIx_nat, l6, Nat.min_eq_left (show 4 + j2 ≤ 6 by omega), Nat.min_eq_left (show 3 ≤ 6 by decide), List.map_take, List.map_drop, show 4 + j2 - 3 = j2 + 1 by omega]
    replace n5 : New H4 sp (.lst (cutV (l.map V.str) (some 3) (some (4 + (j2 : Int))))) H5 := n5
    rw [c5] at n5
    have spl : ((l.drop 3).take (j2 + 1)).length ≤ 3 := by
      rw [List.length_take, List.length_drop, okl.six]
      omega
    have spp : 0 < ((l.drop 3).take (j2 + 1)).length := by
      rw [List.length_take, List.length_drop, okl.six]
      omega
    have spn : ∀ z ∈ (l.drop 3).take (j2 + 1), nameS z = true := fun z hz => okl.nm z (List.mem_of_mem_drop (List.mem_of_mem_take hz))
    generalize (l.drop 3).take (j2 + 1) = spS at n5 spl spp spn
    have spp2 : 0 < (spS.map V.str).length := by rw [List.length_map]; exact spp
    have spl2 : (spS.map V.str).length ≤ 1000 := by rw [List.length_map]; omega
    have hp5 := hp4.same n5.2.2
    have b5 : But p H H5 := b3.trans (b4.trans (but_same n5.2.2))
    have esp := n5.2.1
    have snp : sp ≠ p := (hp4.ne n5.1).symm
    have eq5 := n5.2.2 _ _ (b4 q _ eq3 qp)
    -- the sayings
    refine ⟨_, rfl, p, _, rfl, hp5, by decide, by decide, fun r3 H6 r30 r31 hp6 b6 => ⟨r3, rfl, by omega, by omega, ?_⟩⟩
    have esp6 := b6 sp _ esp snp
    have eq6 := b6 q _ eq5 qp
    have b06 := b5.trans b6
    intro D hD
    refine lc_range (lo := 0) (n := r3.toNat) (fun i H' => ∃ (ss : List (Str × List Int)) (X : List V), ss.length = i ∧ (∀ s ∈ ss, nameS s.1 = true ∧ FmOk m s.2 ∧ s.1 ∈ spS) ∧ H' D = some (.lst X) ∧ DpAll K H' X (ss.map sayD) ∧ Pail H' p ∧ But p H6 H') ⟨[], [], rfl, (fun _ h => by cases h), upd_same, .nil, hp6.upd (hp6.ne hD), but_same (same_new hD)⟩ ?_ ?_
    · rintro i H7 hi ⟨ss, X, ls, hss, hX, hdX, hp7, b7⟩
      refine ⟨rfl, _, rfl, _, rfl, p, sp, _, rfl, hp7, b7 sp _ esp6 snp, snp, spp2, spl2, fun i2 x H8 ex hp8 b8 => ?_⟩
      obtain ⟨c, ec, rfl⟩ := strs_at ex
      have hc := List.mem_of_getElem? ec
      refine ⟨_, rfl, _, rfl, p, m, rfl, m3, hp8, fun v g H9 lg hg dg hp9 b9 => ⟨(show 2 ≤ 1000 by decide), fun t H10 n10 => ?_⟩⟩
      have hX10 := n10.2.2 _ _ (b9 D _ (b8 D _ hX (hp6.ne hD).symm) (hp6.ne hD).symm)
      have nl7 : Nl H7 H10 := (b8.nl hp7).trans ((b9.nl hp8).trans (nl_same n10.2.2))
      have ln := Pg.dp_len' hdX
      refine ⟨X, hX10, small1000 (by rw [ln, List.length_map]; omega), ss ++ [(c, g)], _, by rw [List.length_append, ls]; rfl, fun s hs => ?_, upd_same, ?_, (hp9.same n10.2.2).upd (hp6.ne hD), fun b o e nb => ?_⟩
      · rcases List.mem_append.mp hs with hs | hs
        · exact hss s hs
        · rw [List.mem_singleton.mp hs]
          exact ⟨spn c hc, ⟨lg, hg⟩, hc⟩
      · rw [List.map_append]
        refine dp_snoc (dp_nl (nl_upd hX10) _ (nol_say (c, g)) ?_) (dp_nlAll (nl7.trans (nl_upd hX10)) _ (nol_map nol_say _) hdX)
        exact .tup (SqT.of n10.2.1) (.cons (.str c) (.cons (Pg.dp_sameD n10.2.2 dg) .nil))
      · rw [upd_ne (ne_of_none e hD)]
        exact n10.2.2 _ _ (b9 b o (b8 b o (b7 b o e nb) nb) nb)
    · rintro H7 ⟨ss, X, ls, hss, hX, hdX, hp7, b7⟩
      refine ⟨D, _, rfl, .inl ⟨SqL.of hX, fun b nb => ?_⟩⟩
      have s8 := same_new (o := .tup X) nb
      have eb : (upd H7 b (.tup X)) b = some (.tup X) := upd_same
      have hp8 := hp7.same s8
      have hb8 : Dp K (upd H7 b (.tup X)) (.ref b) (saysD ss) := .tup (SqT.of eb) (Pg.dp_sameAllD s8 hdX)
      have esp8 := s8 _ _ (b7 sp _ esp6 snp)
      have eq8 := s8 _ _ (b7 q _ eq6 qp)
      have b8 : But p H (upd H7 b (.tup X)) := b06.trans (b7.trans (but_same s8))
      have ls3 : ss.length ≤ 3 := by omega
      generalize upd H7 b (.tup X) = H8 at hp8 hb8 esp8 eq8 b8
      clear hX hdX b7 s8 eb
      refine ⟨(show 0 ≤ 1000 by decide), fun A H9 n9 => ?_⟩
      have hp9 := hp8.same n9.2.2
      refine ⟨_, rfl, p, _, rfl, hp9, by decide, by decide, fun r5 H10 r50 r51 hp10 b10 => ⟨_, _, rfl, rfl, _, rfl, by omega, by omega, ?_⟩⟩
      have Ap : A ≠ p := (hp8.ne n9.1).symm
      have b810 : But p H8 H10 := (but_same n9.2.2).trans b10
      refine for_range (lo := 0) (n := (1 + r5).toNat) (fun i σ H' => ∃ (x5 x7 x8 x9 : Option V) (as : List Arm) (X : List V), σ = [some (.ref p), some (.int m), some (.ref q), some (.ref sp), some (.ref b), x5, some (.ref A), x7, x8, x9] ∧ as.length = i ∧ (∀ a ∈ as, ArmOk m a ∧ a.src ∈ spS ∧ a.tgt ∈ spS) ∧ H' A = some (.lst X) ∧ DpAll K H' X (as.map armD) ∧ Pail H' p ∧ But p H8 H') ⟨_, _, _, _, [], [], rfl, rfl, (fun _ h => by cases h), b10 A _ n9.2.1 Ap, .nil, hp10, b810⟩ ?_ ?_
      · rintro i σ H11 hi ⟨x5, x7, x8, x9, as, X, rfl, la, has, hA, hdX, hp11, b11⟩
        refine ⟨_, rfl, p, _, rfl, hp11, by decide, by decide, fun r6 H12 r60 r61 hp12 b12 => ⟨r6, rfl, by omega, by omega, ?_⟩⟩
        intro D1 hD1
        refine lc_range (lo := 0) (n := r6.toNat) (fun j Hj => ∃ (fs : List (List Int)) (Y : List V), fs.length = j ∧ (∀ g ∈ fs, FmOk m g) ∧ Hj D1 = some (.lst Y) ∧ DpAll K Hj Y (fs.map fD) ∧ Pail Hj p ∧ But p H12 Hj) ⟨[], [], rfl, (fun _ h => by cases h), upd_same, .nil, hp12.upd (hp12.ne hD1), but_same (same_new hD1)⟩ ?_ ?_
        · rintro j Hj hj ⟨fs, Y, lf, hf, hY, hdY, hpj, bj⟩
          refine ⟨rfl, _, rfl, _, rfl, p, m, rfl, m3, hpj, fun v g Hk lg hg dg hpk bk => ?_⟩
          have hYk := bk D1 _ hY (hp12.ne hD1).symm
          have nlk : Nl Hj (upd Hk D1 (.lst (Y ++ [v]))) := (bk.nl hpj).trans (nl_upd hYk)
          have ln := Pg.dp_len' hdY
          refine ⟨Y, hYk, small1000 (by rw [ln, List.length_map]; omega), fs ++ [g], _, by rw [List.length_append, lf]; rfl, fun g2 h2 => ?_, upd_same, ?_, hpk.upd (hp12.ne hD1), fun b o e nb => ?_⟩
          · rcases List.mem_append.mp h2 with h2 | h2
            · exact hf g2 h2
            · rw [List.mem_singleton.mp h2]
              exact ⟨lg, hg⟩
          · rw [List.map_append]
            exact dp_snoc (dp_nl (nl_upd hYk) _ (nol_f _) dg) (dp_nlAll nlk _ (nol_map nol_f _) hdY)
          · rw [upd_ne (ne_of_none e hD1)]
            exact bk b o (bj b o e nb) nb
        · rintro H13 ⟨fs, Y, lf, hf, hY, hdY, hp13, b13⟩
          refine ⟨D1, _, rfl, .inl ⟨SqL.of hY, fun q1 nq1 => ?_⟩⟩
          have s14 := same_new (o := .tup Y) nq1
          have hq1 : Dp K (upd H13 q1 (.tup Y)) (.ref q1) (.tuple (fs.map fD)) := .tup (SqT.of upd_same) (Pg.dp_sameAllD s14 hdY)
          have hp14 := hp13.same s14
          have b1114 : But p H11 (upd H13 q1 (.tup Y)) := b12.trans (b13.trans (but_same s14))
          have lf3 : fs.length ≤ 3 := by omega
          generalize upd H13 q1 (.tup Y) = H14 at hq1 hp14 b1114
          clear hY hdY b13 s14
          refine ⟨_, rfl, _, rfl, by omega, by omega, ?_⟩
          intro D2 hD2
          refine lc_range (lo := 0) (n := (m : Int).toNat) (fun j Hj => ∃ (fs : List (List Int)) (Y : List V), fs.length = j ∧ (∀ g ∈ fs, FmOk m g) ∧ Hj D2 = some (.lst Y) ∧ DpAll K Hj Y (fs.map fD) ∧ Pail Hj p ∧ But p H14 Hj) ⟨[], [], rfl, (fun _ h => by cases h), upd_same, .nil, hp14.upd (hp14.ne hD2), but_same (same_new hD2)⟩ ?_ ?_
          · rintro j Hj hj ⟨fs, Y, lf, hf, hY, hdY, hpj, bj⟩
            refine ⟨rfl, _, rfl, _, rfl, p, m, rfl, m3, hpj, fun v g Hk lg hg dg hpk bk => ?_⟩
            have hYk := bk D2 _ hY (hp14.ne hD2).symm
            have nlk : Nl Hj (upd Hk D2 (.lst (Y ++ [v]))) := (bk.nl hpj).trans (nl_upd hYk)
            have ln := Pg.dp_len' hdY
            refine ⟨Y, hYk, small1000 (by rw [ln, List.length_map]; omega), fs ++ [g], _, by rw [List.length_append, lf]; rfl, fun g2 h2 => ?_, upd_same, ?_, hpk.upd (hp14.ne hD2), fun b o e nb => ?_⟩
            · rcases List.mem_append.mp h2 with h2 | h2
              · exact hf g2 h2
              · rw [List.mem_singleton.mp h2]
                exact ⟨lg, hg⟩
            · rw [List.map_append]
              exact dp_snoc (dp_nl (nl_upd hYk) _ (nol_f _) dg) (dp_nlAll nlk _ (nol_map nol_f _) hdY)
            · rw [upd_ne (ne_of_none e hD2)]
              exact bk b o (bj b o e nb) nb
          · rintro H15 ⟨gs, Z, lg, hg, hZ, hdZ, hp15, b15⟩
            refine ⟨D2, _, rfl, .inl ⟨SqL.of hZ, fun q2 nq2 => ?_⟩⟩
            have s16 := same_new (o := .tup Z) nq2
            have hq2 : Dp K (upd H15 q2 (.tup Z)) (.ref q2) (.tuple (gs.map fD)) := .tup (SqT.of upd_same) (Pg.dp_sameAllD s16 hdZ)
            have hp16 := hp15.same s16
            have b1416 : But p H14 (upd H15 q2 (.tup Z)) := b15.trans (but_same s16)
            have lgm : gs.length = m := by omega
            generalize upd H15 q2 (.tup Z) = H16 at hq2 hp16 b1416
            clear hZ hdZ b15 s16
            have hA16 := b1416 A _ (b1114 A _ hA Ap) Ap
            have b816 := b11.trans (b1114.trans b1416)
            refine ⟨_, rfl, .inl ⟨rfl, _, SqL.of hA16⟩, _, rfl, _, rfl, p, sp, _, rfl, hp16, b816 sp _ esp8 snp, snp, spp2, spl2, fun i2 x2 H17 ex2 hp17 b17 => ?_⟩
            obtain ⟨c2, ec2, rfl⟩ := strs_at ex2
            have hc2 := List.mem_of_getElem? ec2
            refine ⟨_, rfl, _, rfl, p, sp, _, rfl, hp17, b17 sp _ (b816 sp _ esp8 snp) snp, snp, spp2, spl2, fun i3 x3 H18 ex3 hp18 b18 => ?_⟩
            obtain ⟨c3, ec3, rfl⟩ := strs_at ex3
            have hc3 := List.mem_of_getElem? ec3
            refine ⟨_, rfl, _, rfl, (show 4 ≤ 1000 by decide), fun t H19 n19 => ?_⟩
            have hA19 := n19.2.2 _ _ (b18 A _ (b17 A _ hA16 Ap) Ap)
            have nl1619 : Nl H16 H19 := (b17.nl hp16).trans ((b18.nl hp17).trans (nl_same n19.2.2))
            have nl1419 : Nl H14 H19 := (b1416.nl hp14).trans nl1619
            have nl1119 : Nl H11 H19 := (b1114.nl hp11).trans nl1419
            have ln := Pg.dp_len' hdX
            refine ⟨A, _, _, rfl, rfl, hA19, small1000 (by rw [ln, List.length_map]; omega), ?_⟩
            refine ⟨_, _, _, _, as ++ [⟨c2, c3, fs, gs⟩], _, rfl, by rw [List.length_append, la]; rfl, fun a ha => ?_, upd_same, ?_, (hp18.same n19.2.2).upd Ap.symm, fun b2 o e nb2 => ?_⟩
            · rcases List.mem_append.mp ha with ha | ha
              · exact has a ha
              · rw [List.mem_singleton.mp ha]
                exact ⟨⟨spn c2 hc2, spn c3 hc3, forms_of hf, lf3, forms_of hg, lgm⟩, hc2, hc3⟩
            · rw [List.map_append]
              refine dp_snoc (dp_nl (nl_upd hA19) _ (nol_arm ⟨c2, c3, fs, gs⟩) ?_) (dp_nlAll (nl1119.trans (nl_upd hA19)) _ (nol_map nol_arm _) hdX)
              exact .tup (SqT.of n19.2.1) (.cons (.str c2) (.cons (.str c3) (.cons (dp_nl nl1419 _ (nol_fs _) hq1) (.cons (dp_nl nl1619 _ (nol_fs _) hq2) .nil))))
            · rw [upd_ne (ne_of_none e n9.1)]
              exact n19.2.2 _ _ (b18 b2 o (b17 b2 o (b816 b2 o e nb2) nb2) nb2)
      · rintro σ H11 ⟨x5, x7, x8, x9, as, X, rfl, la, has, hA, hdX, hp11, b11⟩
        have eq11 := b11 q _ eq8 qp
        refine ⟨_, rfl, _, rfl, _, rfl, q, _, rfl, SqL.of eq11, fun ql H12 n12 => ?_⟩
        rw [cut_take (by omega), ← List.map_take] at n12
        refine ⟨ql, _, rfl, .inl ⟨SqL.of n12.2.1, fun u nu => ?_⟩⟩
        have s13 := same_new (o := .tup ((l.take m).map V.str)) nu
        have hu : Dp K (upd H12 u (.tup ((l.take m).map V.str))) (.ref u) (namesD (l.take m)) := Pg.dp_names (SqT.of upd_same)
        generalize upd H12 u (.tup ((l.take m).map V.str)) = H13 at s13 hu
        have s1113 := n12.2.2.trans s13
        refine ⟨_, rfl, _, rfl, A, _, rfl, .inl ⟨SqL.of (s1113 _ _ hA), fun z nz => ?_⟩⟩
        have s14 := same_new (o := .tup X) nz
        have hz : Dp K (upd H13 z (.tup X)) (.ref z) (armsD as) := .tup (SqT.of upd_same) (Pg.dp_sameAllD (s1113.trans s14) hdX)
        generalize upd H13 z (.tup X) = H14 at s14 hz
        refine ⟨(show 3 ≤ 1000 by decide), fun r H15 n15 => ?_⟩
        have s1315 := s14.trans n15.2.2
        have s1115 := s1113.trans s1315
        have hp15 := hp11.same s1115
        have b15 : But p H H15 := b8.trans (b11.trans (but_same s1115))
        have lnm : (l.take m).length = m := by
          rw [List.length_take, okl.six]
          omega
        have oN : OkN (l.take m) := ⟨by omega, by omega, fun y hy => okl.nm y (List.mem_of_mem_take hy), okl.nd.sublist (List.take_sublist _ _)⟩
        have oS : OkS (l.take m).length ss := ⟨ls3, fun s hs => by rw [lnm]; exact say_of (hss s hs).1 (hss s hs).2.1⟩
        have oA : OkA (l.take m).length ss as := ⟨by omega, by omega, fun a ha => by rw [lnm]; exact (has a ha).1, Nat.le_trans (places_few (fun s hs => (hss s hs).2.2) fun a ha => (has a ha).2) spl⟩
        have b14 : But p H H14 := b8.trans (b11.trans (but_same (s1113.trans s14)))
        exact k r _ _ _ (l.take m) ss as H15 ⟨oN, oS, oA⟩ (none_but b14 (hp11.same (s1113.trans s14)) n15.1) n15.2.1 (Pg.dp_sameD s1315 hu) (dp_nl ((b11.nl hp8).trans (nl_same s1115)) _ (Pg.nol_says ss) hb8) (Pg.dp_sameD n15.2.2 hz) hp15 b15
end
end K5
set_option Elab.async false
set_option linter.all false
set_option maxRecDepth 100000
set_option maxHeartbeats 8000000
namespace Pg
open PySem PySem.Spec PyProof.Rows L2 Gd Rl Te Nu TL
abbrev sLw : Stmt := top 45
abbrev sLa : Stmt := top 46
abbrev sLl : Stmt := top 47
abbrev sLs : Stmt := top 48
section
variable {P : Program} {w : World} {K : PySem.W.Frag} {mg : Str → Option Value} {base : Heap} {f : Addr} {fd : FuncData}
theorem scLw : FnScope ["_law_some", "_law_each"] ["_law_some"] (defScope sLw) := ⟨rfl, rfl, rfl, by decide +kernel, rfl, by decide +kernel, by decide +kernel⟩
theorem ok_lw (F : FnP K "_law_words" sLw f fd) (T : Mo mg) : FnOk P w K mg base CX0 1 f fd ["_law_some"] (spWd K) := by
  refine F.ok scLw (fun vs H Q E h => ?_) (fun cdv A outer s H vs Q E hr h => ?_)
  · obtain ⟨v, d, rfl, _⟩ := h
    rfl
  · obtain ⟨v, fo, rfl, hd, ok, k⟩ := h
    refine ⟨_, PSs.nox <| pss_one (ps_ret (pe_join pe_str (pe_lc (own := [("_law_each", 1)]) (g := gName 1) (tt := tYes) rfl scLw.nd (pi_tup (pv 0)) (blkOk_by (N := ["_law_some", "_law_each"]) (sc := defScope sLw) (by decide +kernel)) (fun _ _ _ _ _ => pg_name (i := 1) scLw.nd rfl (Or.inl rfl)) (fun _ _ _ _ _ => pts_nil)
          (fun _ _ _ _ _ => pe_callTy call_str_int (by rfl) T.str (by decide +kernel) (pa_cons (pv 1) pa_nil))))), ?_⟩
    obtain ⟨a, xs, rfl, hs, ha⟩ := rp_tup (.inl hd)
    have lx := dp_len ha
    rw [List.length_map] at lx
    have h4 := ok.four
    refine ⟨⟨_, rfl⟩, _, rfl, a, rfl, ⟨_, hs⟩, lcR (walk_tup (xs := xs)) (n1 := by omega) (fun H' s' => Same.seqT s' hs) (fun i y _ => ∃ s, fo[i]? = some s ∧ y = .str (numS s)) (fun _ _ _ _ _ e => e) ?_ ?_⟩
    · rintro D acc i x Ha Hb K2 hi s nD hD ⟨rfl, ex⟩ kk
      obtain ⟨n, en, hz⟩ := map_at ha ex
      cases hz
      exact ⟨rfl, _, rfl, n, rfl, num_log (ok.nums n (List.mem_of_getElem? en)), kk _ _ (Same.refl _) ⟨n, en, rfl⟩⟩
    · rintro D H1 zs nw hlen he
      have ez : zs = (fo.map numS).map V.str := by
        rw [List.map_map]
        exact list_is (by rw [hlen, lx]) he
      subst ez
      refine ⟨_, D, fo.map numS, rfl, rfl, .inl (SqL.of nw.2.1), ?_, k H1 nw.2.2⟩
      have := words_sum ok
      rw [show (" " : Str).length = 1 by decide +kernel, List.length_map]
      omega
/-! ### the lines of a branch -/
theorem eB (a : Arm) : ("branch " : Str) ++ a.src ++ " " ++ a.tgt = lineB a := by
  apply ext_tl
  unfold lineB
  simp only [tl_append, List.append_assoc]
  rfl
theorem eT (t : List Int) : ("test " : Str) ++ wordsS t = lineT t := by
  apply ext_tl
  unfold lineT
  simp only [tl_append, List.append_assoc]
  rfl
theorem eS (s : Str × List Int) : ("say " : Str) ++ s.1 ++ " " ++ wordsS s.2 = lineS s := by
  apply ext_tl
  unfold lineS
  simp only [tl_append, List.append_assoc]
  rfl
theorem eV {ns : List Str} (h : OkN ns) : ("vars " : Str) ++ Txt.join " " ns = lineV ns := by
  apply ext_tl
  unfold lineV
  cases ns with
  | nil => exact absurd h.one (by decide)
  | cons n r =>
    rw [join_eq, join_eq]
    show tl (("vars " : Str) ++ Str.join " " (n :: r)) = tl ("vars" ++ " " ++ Str.join " " (n :: r))
    simp only [tl_append, List.append_assoc]
    rw [show tl ("vars " : Str) = tl ("vars" : Str) ++ tl (" " : Str) by decide +kernel, List.append_assoc]
def spLa (K : PySem.W.Frag) : Sp := fun vs H Q _ => ∃ (v : V) (m : Nat) (a : Arm), vs = [v] ∧ m ≤ 3 ∧ ArmOk m a ∧ Dp K H v (armD a) ∧ ∀ q H', Same H H' → H' q = some (.lst ((armL a).map V.str)) → Q (.ref q) H'
abbrev nLa : List Str := ["_law_arm", "_law_near", "_law_far", "_law_asks", "_law_turns", "_law_lines_here", "_law_ask", "_law_turn"]
theorem scLa : FnScope nLa ["_law_arm"] (defScope sLa) := ⟨rfl, rfl, rfl, by decide +kernel, rfl, by decide +kernel, by decide +kernel⟩
theorem ok_la {fW : Addr} {dW : FuncData} (F : FnP K "_law_arm_lines" sLa f fd) (T : Mo mg) (FW : FnP K "_law_words" sLw fW dW) (gW : mg "_law_words" = some (.ref fW)) : FnOk P w K mg base CX0 2 f fd ["_law_arm"] (spLa K) := by
  have GW : FnOk P w K mg base CX0 1 fW dW ["_law_some"] (spWd K) := ok_lw FW T
  have bW : Binds K dW ["_law_some"] [] := FW.bindsN fun _ _ _ _ _ _ us hl => match us, hl with | [_], _ => rfl
  refine F.ok scLa (fun vs H Q E h => ?_) (fun cdv A outer s H vs Q E hr h => ?_)
  · obtain ⟨v, m, a, rfl, _⟩ := h
    rfl
  · obtain ⟨v, m, ar, rfl, m3, har, hv, k⟩ := h
    refine ⟨_, PSs.nox <| pss_cons (ps_asg (pv 0) (pg_tup (by rfl) (pgs_cons (pg_name (i := 1) scLa.nd rfl (.inl rfl)) (pgs_cons (pg_name (i := 2) scLa.nd rfl (.inl rfl)) (pgs_cons (pg_name (i := 3) scLa.nd rfl (.inl rfl)) (pgs_cons (pg_name (i := 4) scLa.nd rfl (.inl rfl)) pgs_nil))))))
      <| pss_cons (ps_set (i := 5) scLa.nd rfl (.inl rfl) (pe_op op_catR (pe_lstR (pa_cons (pe_op op_add_str (pe_op op_add_str (pe_op op_add_str pe_str (pv 1)) pe_str) (pv 2)) pa_nil))
          (pe_lc (own := [("_law_ask", 6)]) (g := gName 6) (tt := tYes) rfl scLa.nd (pi_tup (pv 3)) (blkOk_by (N := nLa) (sc := defScope sLa) (by decide +kernel)) (fun _ _ _ _ _ => pg_name (i := 6) scLa.nd rfl (Or.inl rfl)) (fun _ _ _ _ _ => pts_nil)
            (fun _ _ _ _ _ => pe_op op_add_str pe_str (pe_call GW hr (by rfl) gW FW.kp bW .nil pass0 (pa_cons (pv 6) pa_nil))))))
      <| pss_one (ps_ret (pe_op op_catR (pv 5) (pe_lstR (pa_cons (pe_op op_add_str pe_str (pe_join pe_str (pe_lc (own := [("_law_turn", 7)]) (g := gName 7) (tt := tYes) rfl scLa.nd (pi_tup (pv 4)) (blkOk_by (N := nLa) (sc := defScope sLa) (by decide +kernel)) (fun _ _ _ _ _ => pg_name (i := 7) scLa.nd rfl (Or.inl rfl)) (fun _ _ _ _ _ => pts_nil)
            (fun _ _ _ _ _ => pe_call GW hr (by rfl) gW FW.kp bW .nil pass0 (pa_cons (pv 7) pa_nil))))) pa_nil)))), ?_⟩
    obtain ⟨p, ws, rfl, hp, hws⟩ := rp_tup (.inl hv)
    cases hws with
    | @cons w0 _ _ _ z0 hw1 =>
    cases hw1 with
    | @cons w1 _ _ _ z1 hw2 =>
    cases hw2 with
    | @cons w2 _ _ _ z2 hw3 =>
    cases hw3 with
    | @cons w3 _ _ _ z3 hw4 =>
    cases hw4
    cases z0
    cases z1
    obtain ⟨d, ts, rfl, hd, hds⟩ := rp_tup (.inl z2)
    obtain ⟨q, cs, rfl, hq, hqs⟩ := rp_tup (.inl z3)
    have lt := dp_len hds
    have lc := dp_len hqs
    rw [List.length_map] at lt lc
    have t3 := har.t3
    have cm := har.cm
    have l8 := name_len8 har.s
    have l9 := name_len8 har.t
    have b1 : ("branch " : Str).length = 7 := by decide +kernel
    have b2 : (" " : Str).length = 1 := by decide +kernel
    refine ⟨_, rfl, p, _, rfl, hp, rfl, _, _, rfl, _, _, rfl, _, _, rfl, _, _, rfl, rfl, ?_⟩
    refine ⟨_, rfl, _, _, rfl, rfl, sz9 (by omega), _, _, rfl, rfl, sz9 (by rw [len_app, b1, b2]; omega), _, rfl, _, _, rfl, rfl, sz9 (by rw [len_app, len_app, b1, b2]; omega), (show 1 ≤ 1000 by decide), fun l1 H1 n1 => ?_⟩
    have s1 := n1.2.2
    refine ⟨_, rfl, d, rfl, ⟨_, Same.seqT s1 hd⟩, lcR (walk_tup (xs := ts)) (n1 := by omega) (fun H' s' => Same.seqT (s1.trans s') hd) (fun i y _ => ∃ s, ar.tests[i]? = some s ∧ y = .str (lineT s)) (fun _ _ _ _ _ e => e) ?_ ?_⟩
    · rintro D acc j x Ha Hb K2 hi s nD hD ⟨rfl, ex⟩ kk
      obtain ⟨te, et, hx⟩ := map_at hds ex
      have hte := okF_of m3 (forms_each har.ts te (List.mem_of_getElem? et))
      have lw := words_len hte
      refine ⟨rfl, _, rfl, x, te, rfl, dp_same (s1.trans s) _ hx, hte, fun Hc sc => ⟨_, _, rfl, rfl, sz9 (by rw [show ("test " : Str).length = 5 by decide +kernel]; omega), ?_⟩⟩
      rw [eT]
      exact kk _ _ sc ⟨te, et, rfl⟩
    · rintro D H2 ys n2 hlen he
      have ey : ys = (ar.tests.map lineT).map V.str := by
        rw [List.map_map]
        exact list_is (by rw [hlen, lt]) he
      subst ey
      have s2 := s1.trans n2.2.2
      refine ⟨l1, D, _, _, rfl, rfl, n2.2.2 _ _ n1.2.1, n2.2.1, by rw [List.length_map, List.length_map]; show 1 + _ ≤ 1000; omega, fun l3 H3 n3 => ?_⟩
      have s3 := s2.trans n3.2.2
      refine ⟨_, rfl, ⟨_, rfl⟩, _, rfl, q, rfl, ⟨_, Same.seqT s3 hq⟩, lcR (walk_tup (xs := cs)) (n1 := by have := m3; omega) (fun H' s' => Same.seqT (s3.trans s') hq) (fun i y _ => ∃ s, ar.turns[i]? = some s ∧ y = .str (wordsS s)) (fun _ _ _ _ _ e => e) ?_ ?_⟩
      · rintro D2 acc j x Ha Hb K2 hi s nD hD ⟨rfl, ex⟩ kk
        obtain ⟨tu, en, hx⟩ := map_at hqs ex
        have htu := okF_of m3 (forms_each har.cs tu (List.mem_of_getElem? en))
        exact ⟨rfl, _, rfl, x, tu, rfl, dp_same (s3.trans s) _ hx, htu, fun Hc sc => kk _ _ sc ⟨tu, en, rfl⟩⟩
      · rintro D2 H4 ys n4 hlen2 he2
        have ey : ys = (ar.turns.map wordsS).map V.str := by
          rw [List.map_map]
          exact list_is (by rw [hlen2, lc]) he2
        subst ey
        have q1 := turns_sum m3 har
        have q2 := turns_len m3 har
        refine ⟨_, D2, ar.turns.map wordsS, rfl, rfl, .inl (SqL.of n4.2.1), ?_, _, _, rfl, rfl, sz9 (by rw [show ("then " : Str).length = 5 by decide +kernel]; omega), (show 1 ≤ 1000 by decide), fun l5 H5 n5 => ?_⟩
        · rw [show ("; " : Str).length = 2 by decide +kernel, List.length_map]
          omega
        have e3 := n5.2.2 _ _ (n4.2.2 _ _ n3.2.1)
        refine ⟨l3, l5, _, _, rfl, rfl, e3, n5.2.1, by rw [List.length_append, List.length_map, List.length_map]; show 1 + _ + 1 ≤ 1000; omega, fun l6 H6 n6 => ?_⟩
        refine k l6 H6 (s3.trans (n4.2.2.trans (n5.2.2.trans n6.2.2))) ?_
        rw [n6.2.1]
        congr 2
        unfold armL
        rw [List.map_cons, List.map_append, ← eB]
        rfl
/-! ### the lines, the sheet -/
def spLl (K : PySem.W.Frag) (B : List Str → List (Str × List Int) → List Arm → V → Hp → Prop) : Sp := fun vs H Q _ => ∃ (r : Addr) (u v z : V) (m : Nat) (ns : List Str) (ss : List (Str × List Int)) (as : List Arm), vs = [.ref r] ∧ H r = some (.lst [u, v, z]) ∧ Dp K H u (namesD ns) ∧ Dp K H v (saysD ss) ∧ Dp K H z (armsD as) ∧ OkT m ns ss as ∧ ∀ y H', Same H H' → B ns ss as y H' → Q y H'
abbrev nLl : List Str := ["_law_parts_here", "_law_lines_here", "_law_spot", "_law_some", "_law_arm"]
theorem scLl : FnScope nLl ["_law_parts_here"] (defScope sLl) := ⟨rfl, rfl, rfl, by decide +kernel, rfl, by decide +kernel, by decide +kernel⟩
theorem ok_ll {fW fL : Addr} {dW dL : FuncData} (F : FnP K "_law_lines" sLl f fd) (T : Mo mg) (FW : FnP K "_law_words" sLw fW dW) (gW : mg "_law_words" = some (.ref fW)) (FL : FnP K "_law_arm_lines" sLa fL dL) (gL : mg "_law_arm_lines" = some (.ref fL)) : FnOk P w K mg base CX0 3 f fd ["_law_parts_here"] (spLl K fun ns ss as y H' => ∃ q, y = .ref q ∧ H' q = some (.lst ((linesS ns ss as).map V.str))) := by
  have GW : FnOk P w K mg base CX0 1 fW dW ["_law_some"] (spWd K) := ok_lw FW T
  have bW : Binds K dW ["_law_some"] [] := FW.bindsN fun _ _ _ _ _ _ us hl => match us, hl with | [_], _ => rfl
  have GL : FnOk P w K mg base CX0 2 fL dL ["_law_arm"] (spLa K) := ok_la FL T FW gW
  have bL : Binds K dL ["_law_arm"] [] := FL.bindsN fun _ _ _ _ _ _ us hl => match us, hl with | [_], _ => rfl
  refine F.ok scLl (fun vs H Q E h => ?_) (fun cdv A outer s H vs Q E hr h => ?_)
  · obtain ⟨r, u, v, z, m, ns, ss, as, rfl, _⟩ := h
    rfl
  · obtain ⟨r, u, v, z, m, ns, ss, as, rfl, hr0, hu, hv, hz, ok, k⟩ := h
    have hr1 := hr.mono (show 1 ≤ 2 by decide)
    refine ⟨_, PSs.nox <| pss_cons (ps_set (i := 1) scLl.nd rfl (.inl rfl) (pe_lstR (pa_cons (pe_op op_add_str pe_str (pe_join pe_str (pe_ix ix_list (pv 0) pe_int (fun _ _ => rfl)))) pa_nil)))
      <| pss_cons (ps_for PassesOwn.never rfl (pi_tup (pe_ix ix_list (pv 0) pe_int (fun _ _ => rfl))) (pg_tup (by rfl) (pgs_cons (pg_name (i := 2) scLl.nd rfl (.inl rfl)) (pgs_cons (pg_name (i := 3) scLl.nd rfl (.inl rfl)) pgs_nil)))
          (pss_one (ps_expr (pe_bm PySem.F.plainAttrs_list PySem.F.slot_list_append PySem.F.type_list_append mt_append (pv 1) (pa_cons (pe_op op_add_str (pe_op op_add_str (pe_op op_add_str pe_str (pv 2)) pe_str) (pe_call GW hr1 (by rfl) gW FW.kp bW .nil pass0 (pa_cons (pv 3) pa_nil))) pa_nil)))))
      <| pss_cons (ps_for PassesOwn.never rfl (pi_tup (pe_ix ix_list (pv 0) pe_int (fun _ _ => rfl))) (pg_name (i := 4) scLl.nd rfl (.inl rfl))
          (pss_one (ps_set (i := 1) scLl.nd rfl (.inl rfl) (pe_op op_catR (pv 1) (pe_call GL hr (by rfl) gL FL.kp bL .nil pass0 (pa_cons (pv 4) pa_nil))))))
      <| pss_one (ps_ret (pv 1)), ?_⟩
    obtain ⟨a, xs, rfl, hs, ha⟩ := rp_tup (.inl hu)
    have ex := dp_strs ha
    subst ex
    obtain ⟨b, ys, rfl, hb, hbs⟩ := rp_tup (.inl hv)
    obtain ⟨c, zs, rfl, hc, hcs⟩ := rp_tup (.inl hz)
    have ly := dp_len hbs
    have lz := dp_len hcs
    rw [List.length_map] at ly lz
    have n3 := ok.n.three
    have s3 := ok.s.three
    have a5 := ok.a5
    have lv := lineV_len ok.n
    refine ⟨⟨_, rfl⟩, _, rfl, r, _, 0, _, rfl, rfl, SqL.of hr0, rfl, _, a, ns, rfl, rfl, .inr hs, ?_, _, _, rfl, rfl, sz9 ?_, (show 1 ≤ 1000 by decide), fun l H2 n2 => ?_⟩
    · have := lineV_sum ok.n
      rw [List.map_cons, List.sum_cons] at this
      rw [show (" " : Str).length = 1 by decide +kernel]
      omega
    · have := join_len " " ns
      have h2 := lineV_sum ok.n
      rw [List.map_cons, List.sum_cons] at h2
      rw [show (" " : Str).length = 1 by decide +kernel] at this
      rw [show ("vars " : Str).length = 5 by decide +kernel]
      omega
    replace n2 : New H l (.lst [.str (("vars " : Str) ++ Txt.join " " ns)]) H2 := n2
    rw [eV ok.n] at n2
    have g2 : Grow H l [lineV ns] H2 := ⟨n2.1, n2.2.2, n2.2.1⟩
    refine ⟨_, rfl, r, _, 1, _, rfl, rfl, SqL.of (g2.s _ _ hr0), rfl, b, rfl, ⟨_, Same.seqT g2.s hb⟩, for_tup (Pv := fun i σ H' => ∃ x2 x3 x4, σ = [some (.ref r), some (.ref l), x2, x3, x4] ∧ Grow H l (lineV ns :: (ss.take i).map lineS) H') ⟨_, _, _, rfl, g2⟩ (fun i σ H' _ ⟨_, _, _, _, g⟩ => Same.seqT g.s hb) ?_ ?_⟩
    · rintro i x σ H3 ex ⟨x2, x3, x4, rfl, g3⟩
      obtain ⟨sy, es, hx⟩ := map_at hbs ex
      have hsy := ok.s.sy sy (List.mem_of_getElem? es)
      obtain ⟨p, ws, rfl, hp, hws⟩ := rp_tup (.inl hx)
      cases hws with
      | @cons w0 _ _ _ z0 hw1 =>
      cases hw1 with
      | @cons w1 _ _ _ z1 hw2 =>
      cases hw2
      cases z0
      obtain ⟨k1, k2⟩ := say_parts hsy
      have l8 := name_len8 k1
      have lw := words_len (okF_of ok.m3 k2)
      have b1 : ("say " : Str).length = 4 := by decide +kernel
      have b2 : (" " : Str).length = 1 := by decide +kernel
      refine ⟨p, _, rfl, Same.seqT g3.s hp, rfl, _, _, rfl, _, _, rfl, rfl, ?_⟩
      refine ⟨_, rfl, .inl ⟨rfl, _, SqL.of g3.e⟩, _, rfl, _, _, rfl, rfl, sz9 (by omega), _, _, rfl, rfl, sz9 (by rw [len_app]; omega), _, rfl, w1, sy.2, rfl, dp_same g3.s _ z1, okF_of ok.m3 k2, fun H4 s4 => ⟨_, _, rfl, rfl, sz9 (by rw [len_app, len_app]; omega), ?_⟩⟩
      have g4 := g3.keep s4
      rw [eS]
      refine ⟨l, _, _, rfl, rfl, g4.e, small1000 (by rw [List.length_map, List.length_cons, List.length_map, List.length_take]; omega), ?_⟩
      refine ⟨_, _, _, rfl, ?_⟩
      have g5 := g4.put (lineS sy)
      have e5 : lineV ns :: (ss.take i).map lineS ++ [lineS sy] = lineV ns :: (ss.take (i + 1)).map lineS := by
        rw [List.take_add_one, es, List.cons_append]
        simp
      rw [e5] at g5
      exact g5
    · rintro σ H3 ⟨x2, x3, x4, rfl, g3⟩
      rw [ly, List.take_length] at g3
      refine ⟨_, rfl, r, _, 2, _, rfl, rfl, SqL.of (g3.s _ _ hr0), rfl, c, rfl, ⟨_, Same.seqT g3.s hc⟩, for_tup (Pv := fun i σ H' => ∃ (l : Addr) (x2 x3 x4 : Option V), σ = [some (.ref r), some (.ref l), x2, x3, x4] ∧ Same H H' ∧ H' l = some (.lst ((linesS ns ss (as.take i)).map V.str))) ⟨l, _, _, _, rfl, g3.s, ?_⟩ (fun i σ H' _ ⟨_, _, _, _, _, s, _⟩ => Same.seqT s hc) ?_ ?_⟩
      · rw [g3.e]
        unfold linesS
        simp
      · rintro i x σ H4 ex ⟨l, x2, x3, x4, rfl, s4, h4⟩
        obtain ⟨ar, ea, hx⟩ := map_at hcs ex
        have har := ok.arm ar (List.mem_of_getElem? ea)
        have okI : OkT m ns ss (as.take i) := ⟨ok.m3, ok.n, ok.s, by rw [List.length_take]; omega, fun a ha => ok.arm a (List.mem_of_mem_take ha)⟩
        have lI := lines_len okI
        have lA := armL_len har
        refine ⟨_, rfl, _, rfl, x, m, ar, rfl, ok.m3, har, dp_same s4 _ hx, fun q H5 s5 hq => ?_⟩
        refine ⟨l, q, _, _, rfl, rfl, s5 _ _ h4, hq, by rw [List.length_map, List.length_map]; omega, fun l2 H6 n6 => ?_⟩
        refine ⟨l2, _, _, _, rfl, s4.trans (s5.trans n6.2.2), ?_⟩
        rw [n6.2.1, List.take_add_one, ea]
        unfold linesS
        simp
      · rintro σ H4 ⟨l, x2, x3, x4, rfl, s4, h4⟩
        rw [lz, List.take_length] at h4
        exact ⟨_, rfl, k _ H4 s4 ⟨l, rfl, h4⟩⟩
theorem scLs : FnScope ["_law_parts_here"] ["_law_parts_here"] (defScope sLs) := ⟨rfl, rfl, rfl, by decide +kernel, rfl, by decide +kernel, by decide +kernel⟩
theorem ok_ls {fW fL fN : Addr} {dW dL dN : FuncData} (F : FnP K "_law_sheet" sLs f fd) (T : Mo mg) (FW : FnP K "_law_words" sLw fW dW) (gW : mg "_law_words" = some (.ref fW)) (FL : FnP K "_law_arm_lines" sLa fL dL) (gL : mg "_law_arm_lines" = some (.ref fL)) (FN : FnP K "_law_lines" sLl fN dN) (gN : mg "_law_lines" = some (.ref fN)) : FnOk P w K mg base CX0 4 f fd ["_law_parts_here"] (spLl K fun ns ss as y _ => y = .str (textS ns ss as)) := by
  have GN : FnOk P w K mg base CX0 3 fN dN ["_law_parts_here"] (spLl K fun ns ss as y H' => ∃ q, y = .ref q ∧ H' q = some (.lst ((linesS ns ss as).map V.str))) := ok_ll FN T FW gW FL gL
  have bN : Binds K dN ["_law_parts_here"] [] := FN.bindsN fun _ _ _ _ _ _ us hl => match us, hl with | [_], _ => rfl
  refine F.ok scLs (fun vs H Q E h => ?_) (fun cdv A outer s H vs Q E hr h => ?_)
  · obtain ⟨r, u, v, z, m, ns, ss, as, rfl, _⟩ := h
    rfl
  · obtain ⟨r, u, v, z, m, ns, ss, as, rfl, hr0, hu, hv, hz, ok, k⟩ := h
    refine ⟨_, PSs.nox <| pss_one (ps_ret (pe_join pe_str (pe_call GN hr (by rfl) gN FN.kp bN .nil pass0 (pa_cons (pv 0) pa_nil)))), ?_⟩
    refine ⟨⟨_, rfl⟩, _, rfl, r, u, v, z, m, ns, ss, as, rfl, hr0, hu, hv, hz, ok, fun y H1 s1 hy => ?_⟩
    obtain ⟨q, rfl, hq⟩ := hy
    have h1 := lines_sum ok
    have h2 := lines_len ok
    refine ⟨_, q, linesS ns ss as, rfl, rfl, .inl (SqL.of hq), ?_, k _ H1 s1 rfl⟩
    rw [show ("\n" : Str).length = 1 by decide +kernel]
    omega
end
end Pg
set_option Elab.async false
set_option linter.all false
set_option maxRecDepth 100000
set_option maxHeartbeats 8000000
namespace K5
open PySem PySem.Spec PyProof.Rows L2 Gd Rl
open Pg (Arm namesD saysD armsD OkP ProgAt Mo Defs Mkr FunP sIni sRd spIni spRd spLl sLs sLw sLa sLl nolD)
/-- read, found by the class's name -/
structure Rdr (K : PySem.W.Frag) (C mcp fRd : Addr) (mc : Value) (dRd : FuncData) : Prop where
  r : ClX.CRead K C mc
  m : ClX.CMet K C mc "read" mcp fRd
  f : FunP K "read" "Program.read" sRd fRd dRd
/-- where the law's texts stand -/
structure Tx (K : PySem.W.Frag) (mg : Str → Option Value) (fLw fLa fLl fLs : Addr) (dLw dLa dLl dLs : FuncData) : Prop where
  w : FnP K "_law_words" sLw fLw dLw
  a : FnP K "_law_arm_lines" sLa fLa dLa
  l : FnP K "_law_lines" sLl fLl dLl
  s : FnP K "_law_sheet" sLs fLs dLs
  gw : mg "_law_words" = some (.ref fLw)
  ga : mg "_law_arm_lines" = some (.ref fLa)
  gl : mg "_law_lines" = some (.ref fLl)
  gs : mg "_law_sheet" = some (.ref fLs)
theorem nol_n (ns : List Str) : nolD (namesD ns) = true := by
  unfold Pg.namesD
  rw [nolD]
  exact Pg.nol_map (fun _ => rfl) ns
theorem nol_a (as : List Arm) : nolD (armsD as) = true := by
  unfold Pg.armsD
  rw [nolD]
  exact Pg.nol_map Pg.nol_arm as
theorem kb_ini {K : PySem.W.Frag} {f : Addr} {fd : FuncData} (F : FunP K "__init__" "Program.__init__" sIni f fd) : KBn K fd ["self", "names", "sayings", "branches"] 1 ["branches", "names", "sayings"] (fun us ws => us ++ (ws.drop 1 ++ ws.take 1)) (fun vs zs => vs ++ (zs.drop 1 ++ zs.take 1)) := by
  obtain ⟨oc, od, dV, kV, doc, pm, an, cdv, ct, osl, rfl, lk, hcd, hD, hK⟩ := F.ex
  rcases hD with ⟨_, rfl⟩ | ⟨e, _⟩
  · exact ⟨fun s us ws _ l1 l2 => match us, ws, l1, l2 with | [_], [_, _, _], _, _ => .of_eq rfl, fun r1 r2 => r1.append ((r2.drop 1).append (r2.take 1))⟩
  · exact absurd rfl e
end K5
set_option Elab.async false
set_option linter.all false
set_option maxRecDepth 100000
set_option maxHeartbeats 8000000
namespace Sz
open PySem PySem.Spec PyProof.Rows L2 TL Nu
/-! how long shown data is at most -/
theorem len_ap (x y : Str) : (x ++ y).length = x.length + y.length := by
  rw [len_tl, tl_append, List.length_append, ← len_tl, ← len_tl]
theorem sums_le {l : List Nat} {b : Nat} (h : ∀ x ∈ l, x ≤ b) : l.sum ≤ l.length * b := by
  induction l with
  | nil => simp
  | cons a l ih =>
    rw [List.sum_cons, List.length_cons, Nat.succ_mul]
    have h1 := h a (List.mem_cons_self ..)
    have h2 := ih fun x hx => h x (List.mem_cons_of_mem _ hx)
    omega
theorem sep_le (k : Nat) : ((if k > 0 then ", " else "" : String) : Str).length ≤ 2 := by
  split <;> decide +kernel
theorem from_le : ∀ (ts : List Str) (k : Nat) (acc : Str), (textFrom k acc ts).length ≤ acc.length + (ts.map (·.length)).sum + 2 * ts.length
  | [], k, acc => by
    show acc.length ≤ _
    omega
  | t :: r, k, acc => by
    have ih := from_le r (k + 1) (acc ++ (if k > 0 then ", " else "" : String) ++ t)
    have e : textFrom k acc (t :: r) = textFrom (k + 1) (acc ++ (if k > 0 then ", " else "" : String) ++ t) r := rfl
    rw [e]
    rw [len_ap, len_ap] at ih
    have := sep_le k
    rw [List.map_cons, List.sum_cons, List.length_cons]
    omega
theorem list_le (ts : List Str) : (listText ts).length ≤ (ts.map (·.length)).sum + 2 * ts.length + 2 := by
  unfold listText
  rw [len_ap]
  have := from_le ts 0 "["
  have e1 : ("[" : Str).length = 1 := by decide +kernel
  have e2 : ("]" : Str).length = 1 := by decide +kernel
  rw [e1] at this
  rw [e2]
  omega
theorem join_le (y : Str) : ∀ ps : List Str, (Str.join y ps).length ≤ (ps.map (·.length)).sum + ps.length * y.length
  | [] => Nat.zero_le _
  | [p] => by
    show p.length ≤ _
    simp
  | p :: q :: r => by
    have ih := join_le y (q :: r)
    have e : Str.join y (p :: q :: r) = p ++ y ++ Str.join y (q :: r) := rfl
    rw [e, len_ap, len_ap, List.map_cons, List.sum_cons, List.length_cons, Nat.succ_mul]
    omega
theorem tup_le (ts : List Str) : (tupleText ts).length ≤ (ts.map (·.length)).sum + 2 * ts.length + 3 := by
  unfold tupleText
  rw [len_ap, len_ap]
  have := join_le ", " ts
  have e1 : ("(" : Str).length = 1 := by decide +kernel
  have e2 : (", " : Str).length = 2 := by decide +kernel
  have e3 : ((if ts.length == 1 then ",)" else ")" : String) : Str).length ≤ 2 := by
    split <;> decide +kernel
  rw [e2] at this
  rw [e1]
  omega
/-- shown in at most n signs, at most k deep -/
structure Sh (d : PyData) (n k : Nat) : Prop where
  len : d.shown.length ≤ n
  sh : d.showable = true
  dp : d.depth ≤ k
theorem Sh.mono {d : PyData} {n k n2 k2 : Nat} (h : Sh d n k) (a : n ≤ n2) (b : k ≤ k2) : Sh d n2 k2 := ⟨Nat.le_trans h.len a, h.sh, Nat.le_trans h.dp b⟩
theorem all_len : ∀ ds : List PyData, (PyData.shownAll ds).length = ds.length
  | [] => by simp only [PyData.shownAll]; rfl
  | d :: ds => by
    simp only [PyData.shownAll, List.length_cons, all_len ds]
theorem all_mem : ∀ {ds : List PyData} {t : Str}, t ∈ PyData.shownAll ds → ∃ d ∈ ds, t = d.shown
  | [], t, h => by
    simp only [PyData.shownAll] at h
    cases h
  | d :: ds, t, h => by
    simp only [PyData.shownAll] at h
    rcases List.mem_cons.mp h with rfl | h
    · exact ⟨d, List.mem_cons_self .., rfl⟩
    · obtain ⟨e, he, q⟩ := all_mem h
      exact ⟨e, List.mem_cons_of_mem _ he, q⟩
theorem all_sum {ds : List PyData} {n : Nat} (h : ∀ d ∈ ds, d.shown.length ≤ n) : ((PyData.shownAll ds).map (·.length)).sum ≤ ds.length * n := by
  have q := sums_le (l := (PyData.shownAll ds).map (·.length)) (b := n) fun x hx => by
    obtain ⟨t, ht, rfl⟩ := List.mem_map.mp hx
    obtain ⟨d, hd, rfl⟩ := all_mem ht
    exact h d hd
  rw [List.length_map, all_len] at q
  exact q
theorem all_show : ∀ {ds : List PyData}, (∀ d ∈ ds, d.showable = true) → PyData.showableAll ds = true
  | [], _ => rfl
  | d :: ds, h => by
    simp only [PyData.showableAll, h d (List.mem_cons_self ..), all_show fun e he => h e (List.mem_cons_of_mem _ he)]
    rfl
theorem sh_int {i : Int} (h : -1000000 ≤ i ∧ i ≤ 1000000) : Sh (.int i) 8 1 := by
  refine ⟨?_, ?_, ?_⟩
  · simp only [PyData.shown]
    exact num_len h
  · simp only [PyData.showable]
    exact decide_eq_true (num_log h)
  · simp only [PyData.depth]
    decide
theorem sh_str {z : Str} {n : Nat} (h : ∀ c ∈ z.cps.toList, c < 16 ^ 8) (hn : z.length ≤ n) : Sh (.str z) (10 * n + 2) 1 := by
  refine ⟨?_, ?_, ?_⟩
  · simp only [PyData.shown]
    have := StrLaws.reprText_len z h
    omega
  · simp only [PyData.showable]
  · simp only [PyData.depth]
    decide
theorem sh_bool (b : Bool) : Sh (.bool b) 5 1 := by
  cases b <;> exact ⟨by decide +kernel, by simp only [PyData.showable], by simp only [PyData.depth]; decide⟩
theorem all_deep : ∀ {ds : List PyData} {k : Nat}, (∀ d ∈ ds, d.depth ≤ k) → PyData.depthAll ds ≤ k
  | [], k, _ => by
    simp only [PyData.depthAll]
    exact Nat.zero_le _
  | d :: ds, k, h => by
    have h1 := h d (List.mem_cons_self ..)
    have h2 := all_deep fun e he => h e (List.mem_cons_of_mem _ he)
    simp only [PyData.depthAll]
    omega
theorem sh_tup {ds : List PyData} {n k : Nat} (h : ∀ d ∈ ds, Sh d n k) : Sh (.tuple ds) (ds.length * (n + 2) + 3) (k + 1) := by
  refine ⟨?_, ?_, ?_⟩
  · simp only [PyData.shown]
    have h1 := tup_le (PyData.shownAll ds)
    have h2 := all_sum fun d hd => (h d hd).len
    rw [all_len] at h1
    rw [Nat.mul_add]
    omega
  · simp only [PyData.showable]
    exact all_show fun d hd => (h d hd).sh
  · have := all_deep fun d hd => (h d hd).dp
    simp only [PyData.depth]
    omega
theorem sh_lst {ds : List PyData} {n k : Nat} (h : ∀ d ∈ ds, Sh d n k) : Sh (.list ds) (ds.length * (n + 2) + 2) (k + 1) := by
  refine ⟨?_, ?_, ?_⟩
  · simp only [PyData.shown]
    have h1 := list_le (PyData.shownAll ds)
    have h2 := all_sum fun d hd => (h d hd).len
    rw [all_len] at h1
    rw [Nat.mul_add]
    omega
  · simp only [PyData.showable]
    exact all_show fun d hd => (h d hd).sh
  · have := all_deep fun d hd => (h d hd).dp
    simp only [PyData.depth]
    omega
end Sz
set_option Elab.async false
set_option linter.all false
set_option maxRecDepth 100000
set_option maxHeartbeats 8000000
namespace Ow
open PySem PySem.Spec PyProof.Rows L2 Gd Rl
/-! bool of an own object by its own len -/
section
variable {X : Cx} {k : Nat} {f C : Addr} {fd : FuncData} {sp : Sp} {self : Str}
/-- no class of it has __bool__ -/
def NoBool (K : PySem.W.Frag) (C : Addr) : Prop := PySem.W.findIn K (.ref C) "__bool__" = some none
theorem truth_own {pins : List (Addr × Obj)} {σ : L2.St} {H : Hp} {s : Shared} {Q : VK} {A : Around} {a dx : Addr} {fs : List (Str × V)} {Ex : Value → Shared → Prop} (F : FnOk X.prog X.w X.K X.mg X.base CX0 k f fd [self] sp) (hr : Room (k + 1) A) (e0 : L2.Env0 X.prog X.w X.K X.mg X.base A X.stack s H) (hb : Binds X.K fd [self] []) (d : Dun X.K C "__len__" f) (nb : NoBool X.K C)
    (I : Inv X pins σ H s) (ea : H a = some (.ins C dx fs)) (h : sp [.ref a] H (fun v H' => (∃ n : Int, v = .int n ∧ 0 < n ∧ n < 2 ^ 63) ∧ Q (.bl true) H') E0) :
    wpAny (model X.prog X.w) A (truthy (.ref a)) (fun b s' => b = true ∧ EP X pins σ Q (.bool true) s') Ex s := by
  obtain ⟨mA, O, _, _, _, _⟩ := ins_get I.hok ea
  obtain ⟨od, J, _⟩ := O.look
  unfold truthy
  refine wpAny_bind (m := callSpecial? (.ref a) (Str.ofString "__bool__")) (wpAny_bind (wpAny_bind (J.type.here ((PySem.W.looks_findIn I.kIn nb).here (wpAny_pure ?_)))))
  refine wpAny_bind (wpAny_bind (J.type.here ((PySem.W.looks_findIn I.kIn d.at_).here ?_)))
  show wpAny _ _ (if (some (Value.ref f)).isNone = true then _ else _) _ _ _
  rw [if_neg (by simp)]
  refine wpAny_bind (wpAny_mono (Q := fun r s' => ∃ n t, r = .int n t ∧ 0 < n ∧ EP X pins σ Q (.bool true) s') (wpAny_runValue (codeAny_builtin PySem.entry_len ?_)) (fun r s' h' => ?_) fun _ _ e => e)
  · rw [Around.under_plainId PySem.plain_len _]
    unfold Builtin.«len»
    refine wpAny_bind (m := oneArg "len" _) (wpAny_pure ?_)
    refine wpAny_bind (m := callSpecial? (.ref a) (Str.ofString "__len__")) (PySem.W.special_fn I.kIn J d.at_ (beq_iff_eq.mp d.fn) (wpAny_mono (call_dn F hr.in1 e0.in1 hb I h) (fun v s' hv => ?_) fun _ _ y => y))
    obtain ⟨v', H', I', rv, ⟨n, rfl, n0, n1⟩, q⟩ := hv
    obtain ⟨t, rfl⟩ := rv
    refine wpAny_bind (wpAny_holding (wpAny_pure ?_))
    refine wpAny_bind (wpAny_letGo ?_)
    show wpAny _ _ (if n < 0 then _ else _) _ _ _
    rw [if_neg (by omega)]
    show wpAny _ _ (if n ≥ 2 ^ 63 then _ else _) _ _ _
    rw [if_neg (by omega)]
    exact wpAny_bind (wpAny_mkInt (wpAny_pure ⟨_, _, rfl, n0, .bl true, H', I'.tok _, rfl, q⟩))
  · obtain ⟨n, t, rfl, n0, e⟩ := h'
    refine wpAny_pure ⟨?_, e⟩
    simp
    omega
def rOwnB (C : Addr) (sp : Sp) : List V → Hp → VK → Prop := fun xs H Q => ∃ (a dx : Addr) (fs : List (Str × V)), xs = [.ref a] ∧ H a = some (.ins C dx fs) ∧ sp [.ref a] H (fun v H' => (∃ n : Int, v = .int n ∧ 0 < n ∧ n < 2 ^ 63) ∧ Q (.bl true) H') E0
theorem call_boolO (F : FnOk X.prog X.w X.K X.mg X.base CX0 k f fd [self] sp) (hr : Room (k + 3) X.A) (hb : Binds X.K fd [self] []) (d : Dun X.K C "__len__" f) (nb : NoBool X.K C) : CallR X (.type "bool") (rOwnB C sp) := by
  intro pins s σ H xs us Q I r h
  obtain ⟨a, dx, fs, rfl, ea, hq⟩ := h
  obtain ⟨u, rfl, ru⟩ := vals1 r
  cases ru
  refine callType_codes (T := "bool") (Bi := Builtin.«object.__init__») (Q₁ := fun r s₁ => r = .bool true ∧ EP X pins σ Q (.bool true) s₁) PySem.F.called_bool (PySem.F.typeCall_bool_1 _) PySem.F.entry_object_init ?_ ?_
  · refine codeAny_of_tree ?_
    show wpAny _ X.A.in1.in1 (do checkBuiltinCall "bool.__new__" ⟨[.type "bool", .ref a], []⟩; again (.builtin "bool.__new__" ⟨[.type "bool", .ref a], []⟩)) _ _ s
    refine wpAny_bind (wpAny_of_eq (PySem.F.newCall_bool_1 _) (wpAny_pure ⟨plainId_quiet (by decide +kernel) _, codeAny_builtin PySem.F.entry_bool_new ?_⟩))
    rw [Around.under_plainId (by decide +kernel) _]
    have f1 := PySem.F.conv_sub_bool
    have ht := fun (Ex : Value → Shared → Prop) => truth_own (Ex := Ex) F hr.in1.in1 I.env0.in1.in1 hb d nb I ea hq
    unfold Builtin.«bool.__new__»
    refine wpAny_bind (wpAny_of_eq (a := true) (by first | rfl | (unfold isType; rfl)) ?_)
    simp only [Bool.not_true, Bool.false_eq_true, if_false]
    refine wpAny_bind (wpAny_of_eq f1 ?_)
    simp only [Bool.not_true, Bool.false_eq_true, if_false]
    refine wpAny_bind (m := someArgs _ _ _ _) (wpAny_pure ?_)
    refine wpAny_bind (wpAny_mono (ht _) (fun b s1 hb1 => ?_) fun _ _ e => e)
    obtain ⟨rfl, e⟩ := hb1
    exact wpAny_pure ⟨rfl, e⟩
  · rintro obj s₁ ⟨rfl, hq1⟩
    refine ⟨PySem.typeIs_bool _ _, PySem.F.args_object_init_2 _ _, object_init_meets PySem.F.called_bool.init.lookup PySem.F.called_bool.made (by decide) X.prog X.w X.A.in1 _ s₁ ⟨PySem.typeIs_bool _ _, rfl, hq1⟩⟩
end
end Ow
set_option Elab.async false
set_option linter.all false
set_option maxRecDepth 100000
set_option maxHeartbeats 16000000
namespace Pg
open PySem PySem.Spec PyProof.Rows L2 Gd Rl Nu TL Sz
/-! ### how long a program's data shows -/
theorem big_free {z : Str} (h : ∀ s, 128 ≤ s → s ∉ tl z) : ∀ c ∈ z.cps.toList, c < 16 ^ 8 := fun c hc => by
  have : c < 128 := by
    rcases Nat.lt_or_ge c 128 with h1 | h1
    · exact h1
    · exact absurd hc (h c h1)
  have e : (16 : Nat) ^ 8 = 4294967296 := by decide
  omega
theorem low_lf : ∀ c ∈ (letS ++ figS).cps.toList, c < 128 := by decide +kernel
theorem name_big {z : Str} (h : nameS z = true) : ∀ s, 128 ≤ s → s ∉ tl z := fun s hs => name_free h fun hm => by
  have := low_lf s hm
  omega
theorem low {z : Str} (h : (z.cps.toList.all fun c => decide (c < 128)) = true) : ∀ s, 128 ≤ s → s ∉ tl z := fun s hs hm => by
  have := of_decide_eq_true (List.all_eq_true.mp h s hm)
  omega
theorem words_big (f : List Int) : ∀ s, 128 ≤ s → s ∉ tl (wordsS f) := fun s hs => words_free (by omega) f
theorem line_big {l : Ln} (h : OkL l) : ∀ s, 128 ≤ s → s ∉ tl (txtL l) := by
  intro s hs
  cases l with
  | v ns =>
    refine join_free (low (by decide +kernel) s hs) fun p hp => ?_
    rcases List.mem_cons.mp hp with rfl | hp
    · exact low (by decide +kernel) s hs
    · exact name_big ((show OkN ns from h).nm p hp) s hs
  | s p f => exact free_app (free_app (free_app (free_app (low (by decide +kernel) _ hs) (low (by decide +kernel) _ hs)) (name_big h.1 _ hs)) (low (by decide +kernel) _ hs)) (words_big f _ hs)
  | b a t => exact free_app (free_app (free_app (free_app (low (by decide +kernel) _ hs) (low (by decide +kernel) _ hs)) (name_big h.1 _ hs)) (low (by decide +kernel) _ hs)) (name_big h.2 _ hs)
  | t f => exact free_app (free_app (low (by decide +kernel) _ hs) (low (by decide +kernel) _ hs)) (words_big f _ hs)
  | e fs =>
    refine free_app (low (by decide +kernel) _ hs) (join_free (low (by decide +kernel) _ hs) fun p hp => ?_)
    obtain ⟨f, _, rfl⟩ := List.mem_map.mp hp
    exact words_big f _ hs
theorem text_big {ns : List Str} {ss : List (Str × List Int)} {as : List Arm} (ok : OkP ns ss as) : ∀ s, 128 ≤ s → s ∉ tl (textS ns ss as) := by
  intro s hs
  unfold textS
  rw [← txt_all]
  refine join_free (low (by decide +kernel) s hs) fun p hp => ?_
  obtain ⟨l, hl, rfl⟩ := List.mem_map.mp hp
  exact line_big (all_okL ok.n.one ok.t l hl) s hs
theorem sh_name {z : Str} (h : nameS z = true) : Sh (.str z) 82 1 := sh_str (n := 8) (big_free (name_big h)) (name_len8 h)
theorem sh_names {ns : List Str} (h : ∀ z ∈ ns, nameS z = true) (h3 : ns.length ≤ 3) : Sh (namesD ns) 255 2 := by
  have q := sh_tup (ds := ns.map PyData.str) (n := 82) (k := 1) fun d hd => by
    obtain ⟨z, hz, rfl⟩ := List.mem_map.mp hd
    exact sh_name (h z hz)
  rw [List.length_map] at q
  exact q.mono (by omega) (Nat.le_refl _)
theorem sh_form {f : List Int} (ok : OkF f) : Sh (fD f) 43 2 := by
  have q := sh_tup (ds := f.map PyData.int) (n := 8) (k := 1) fun d hd => by
    obtain ⟨z, hz, rfl⟩ := List.mem_map.mp hd
    exact sh_int (ok.nums z hz)
  rw [List.length_map] at q
  have := ok.four
  exact q.mono (by omega) (Nat.le_refl _)
theorem sh_forms {fs : List (List Int)} (h : ∀ f ∈ fs, OkF f) (h3 : fs.length ≤ 3) : Sh (.tuple (fs.map fD)) 138 3 := by
  have q := sh_tup (ds := fs.map fD) (n := 43) (k := 2) fun d hd => by
    obtain ⟨z, hz, rfl⟩ := List.mem_map.mp hd
    exact sh_form (h z hz)
  rw [List.length_map] at q
  exact q.mono (by omega) (Nat.le_refl _)
theorem sh_say {s : Str × List Int} (h1 : nameS s.1 = true) (h2 : OkF s.2) : Sh (sayD s) 171 3 := by
  refine (sh_tup (ds := [.str s.1, fD s.2]) (n := 82) (k := 2) fun d hd => ?_).mono (show 2 * (82 + 2) + 3 ≤ 171 by decide) (Nat.le_refl _)
  rcases List.mem_cons.mp hd with rfl | hd
  · exact (sh_name h1).mono (Nat.le_refl _) (by decide)
  · rw [List.mem_singleton.mp hd]
    exact (sh_form h2).mono (by decide) (Nat.le_refl _)
theorem sh_arm {m : Nat} (m3 : m ≤ 3) {a : Arm} (h : ArmOk m a) : Sh (armD a) 563 4 := by
  refine (sh_tup (ds := [.str a.src, .str a.tgt, .tuple (a.tests.map fD), .tuple (a.turns.map fD)]) (n := 138) (k := 3) fun d hd => ?_).mono (show 4 * (138 + 2) + 3 ≤ 563 by decide) (Nat.le_refl _)
  rcases List.mem_cons.mp hd with rfl | hd
  · exact (sh_name h.s).mono (by decide) (by decide)
  rcases List.mem_cons.mp hd with rfl | hd
  · exact (sh_name h.t).mono (by decide) (by decide)
  rcases List.mem_cons.mp hd with rfl | hd
  · exact sh_forms (fun f hf => okF_of m3 (forms_each h.ts f hf)) h.t3
  · rw [List.mem_singleton.mp hd]
    exact sh_forms (fun f hf => okF_of m3 (forms_each h.cs f hf)) (by have := h.cm; omega)
theorem sh_says {ns : List Str} {ss : List (Str × List Int)} {as : List Arm} (ok : OkP ns ss as) : Sh (saysD ss) 522 4 := by
  have q := sh_tup (ds := ss.map sayD) (n := 171) (k := 3) fun d hd => by
    obtain ⟨z, hz, rfl⟩ := List.mem_map.mp hd
    obtain ⟨k1, k2⟩ := say_parts (ok.s.sy z hz)
    exact sh_say k1 (okF_of ok.n.three k2)
  rw [List.length_map] at q
  have := ok.s.three
  exact q.mono (by omega) (Nat.le_refl _)
theorem sh_arms {ns : List Str} {ss : List (Str × List Int)} {as : List Arm} (ok : OkP ns ss as) : Sh (armsD as) 2828 5 := by
  have q := sh_tup (ds := as.map armD) (n := 563) (k := 4) fun d hd => by
    obtain ⟨z, hz, rfl⟩ := List.mem_map.mp hd
    exact sh_arm ok.n.three (ok.a.arm z hz)
  rw [List.length_map] at q
  have := ok.a.five
  exact q.mono (by omega) (Nat.le_refl _)
theorem sh_text {ns : List Str} {ss : List (Str × List Int)} {as : List Arm} (ok : OkP ns ss as) : Sh (.str (textS ns ss as)) 34802 1 := sh_str (n := 3480) (big_free (text_big ok)) (text_len ok.t)
theorem sh_rep {n : Nat} (h : n ≤ 5) : Sh (.str (reprS n)) 302 1 := by
  refine sh_str (n := 30) (big_free fun s hs => ?_) ?_
  · unfold reprS
    exact free_app (free_app (free_app (low (by decide +kernel) _ hs) (low (by decide +kernel) _ hs)) (num_free _ (.inr (by omega)))) (low (by decide +kernel) _ hs)
  · have hn : (-1000000 : Int) ≤ (n : Int) ∧ (n : Int) ≤ 1000000 := by omega
    have l8 := num_len hn
    show (Str.empty ++ "Program of " ++ numS n ++ " branches" : Str).length ≤ 30
    rw [len_app, len_app, len_app, e0, show ("Program of " : Str).length = 11 by decide +kernel, show (" branches" : Str).length = 9 by decide +kernel]
    omega

end Pg
set_option Elab.async false
set_option linter.all false
set_option maxRecDepth 100000
set_option maxHeartbeats 8000000
namespace Vd
open PySem PySem.Spec PyProof.Rows L2 Gd Rl LamX
/-! nested values: as data; a dict within them tells nothing of what it holds -/
mutual
inductive Vp (K : PySem.W.Frag) (H : Hp) : V → PyData → Prop where
  | non : Vp K H .non .none
  | bl (b : Bool) : Vp K H (.bl b) (.bool b)
  | int (i : Int) : Vp K H (.int i) (.int i)
  | str (z : Str) : Vp K H (.str z) (.str z)
  | lst {a : Addr} {xs : List V} {ds : List PyData} (h : SqL K H a xs) (hs : VpAll K H xs ds) : Vp K H (.ref a) (.list ds)
  | tup {a : Addr} {xs : List V} {ds : List PyData} (h : SqT K H a xs) (hs : VpAll K H xs ds) : Vp K H (.ref a) (.tuple ds)
  | dct {a : Addr} {kvs : List (Key × V)} (h : H a = some (.dK kvs)) : Vp K H (.ref a) (.dict [])
inductive VpAll (K : PySem.W.Frag) (H : Hp) : List V → List PyData → Prop where
  | nil : VpAll K H [] []
  | cons {v : V} {d : PyData} {vs : List V} {ds : List PyData} (h : Vp K H v d) (hs : VpAll K H vs ds) : VpAll K H (v :: vs) (d :: ds)
end
theorem sl_ext {K : PySem.W.Frag} {H H' : Hp} {a : Addr} {xs : List V} (e : ExtN H H') (h : SqL K H a xs) : SqL K H' a xs := by
  rcases h with (h | ⟨o, h⟩) | h
  · exact .inl (.inl (e _ _ h fun _ z => nomatch z))
  · exact .inl (.inr ⟨o, e _ _ h fun _ z => nomatch z⟩)
  · exact .inr h
theorem st_ext {K : PySem.W.Frag} {H H' : Hp} {a : Addr} {xs : List V} (e : ExtN H H') (h : SqT K H a xs) : SqT K H' a xs := by
  rcases h with (h | ⟨o, h⟩) | h
  · exact .inl (.inl (e _ _ h fun _ z => nomatch z))
  · exact .inl (.inr ⟨o, e _ _ h fun _ z => nomatch z⟩)
  · exact .inr h
mutual
theorem vp_ext {K : PySem.W.Frag} {H H' : Hp} (e : ExtN H H') : ∀ (d : PyData) {v : V}, Vp K H v d → Vp K H' v d
  | .none, _, h => by cases h; exact .non
  | .bool b, _, h => by cases h; exact .bl b
  | .int i, _, h => by cases h; exact .int i
  | .str z, _, h => by cases h; exact .str z
  | .list ds, _, h => by
    cases h with
    | lst hs ha => exact .lst (sl_ext e hs) (vp_extAll e ds ha)
  | .tuple ds, _, h => by
    cases h with
    | tup hs ha => exact .tup (st_ext e hs) (vp_extAll e ds ha)
  | .dict _, _, h => by
    cases h with
    | dct h => exact .dct (e _ _ h fun _ z => nomatch z)
theorem vp_extAll {K : PySem.W.Frag} {H H' : Hp} (e : ExtN H H') : ∀ (ds : List PyData) {vs : List V}, VpAll K H vs ds → VpAll K H' vs ds
  | [], _, h => by cases h; exact .nil
  | d :: ds, _, h => by
    cases h with
    | cons h1 h2 => exact .cons (vp_ext e d h1) (vp_extAll e ds h2)
end
theorem ext_same {H H' : Hp} (s : Same H H') : ExtN H H' := fun b o e _ => s b o e
theorem vp_same {K : PySem.W.Frag} {H H' : Hp} (s : Same H H') {d : PyData} {v : V} (h : Vp K H v d) : Vp K H' v d := vp_ext (ext_same s) d h
theorem vp_sameAll {K : PySem.W.Frag} {H H' : Hp} (s : Same H H') {ds : List PyData} {vs : List V} (h : VpAll K H vs ds) : VpAll K H' vs ds := vp_extAll (ext_same s) ds h
mutual
theorem vp_dp {K : PySem.W.Frag} {H : Hp} : ∀ (d : PyData) {v : V}, Dp K H v d → Vp K H v d
  | .none, _, h => by cases h; exact .non
  | .bool b, _, h => by cases h; exact .bl b
  | .int i, _, h => by cases h; exact .int i
  | .str z, _, h => by cases h; exact .str z
  | .list ds, _, h => by
    cases h with
    | lst hs ha => exact .lst hs (vp_dpAll ds ha)
  | .tuple ds, _, h => by
    cases h with
    | tup hs ha => exact .tup hs (vp_dpAll ds ha)
  | .dict _, _, h => by cases h
theorem vp_dpAll {K : PySem.W.Frag} {H : Hp} : ∀ (ds : List PyData) {vs : List V}, DpAll K H vs ds → VpAll K H vs ds
  | [], _, h => by cases h; exact .nil
  | d :: ds, _, h => by
    cases h with
    | cons h1 h2 => exact .cons (vp_dp d h1) (vp_dpAll ds h2)
end
/-- the same, no dict told -/
def noD : PyData → PyData
  | .dict _ => .dict []
  | d => d
theorem vp_rp {K : PySem.W.Frag} {H : Hp} {v : V} {d : PyData} (h : Rp K H v d) : Vp K H v (noD d) := by
  rcases h with h | ⟨a, kvs, ds, rfl, h1, _, rfl⟩
  · have h2 := vp_dp d h
    cases d <;> first | exact h2 | cases h
  · exact .dct h1
theorem vp_ty {K : PySem.W.Frag} {H : Hp} {v : V} {d : PyData} (h : Vp K H v d) : TyX K H v (.type (tyN d)) := by
  cases h with
  | non => exact .base .non
  | bl b => exact .base (.bl b)
  | int i => exact .base (.int i)
  | str z => exact .base (.str z)
  | lst h _ => exact sql_ty h
  | tup h _ => exact sqt_ty h
  | dct h => exact .base (.dK h)
theorem vp_len {K : PySem.W.Frag} {H : Hp} : ∀ {vs : List V} {ds : List PyData}, VpAll K H vs ds → vs.length = ds.length
  | _, _, .nil => rfl
  | _, _, .cons a b => by
    rw [List.length_cons, List.length_cons, vp_len b]
theorem vp_at {K : PySem.W.Frag} {H : Hp} : ∀ {vs : List V} {ds : List PyData}, VpAll K H vs ds → ∀ {i : Nat} {v : V}, vs[i]? = some v → ∃ d, ds[i]? = some d ∧ Vp K H v d
  | _, _, .nil, i, v, e => by simp at e
  | _, _, .cons a b, 0, v, e => by
    simp at e
    subst e
    exact ⟨_, rfl, a⟩
  | _, _, .cons a b, i + 1, v, e => vp_at b (i := i) (by simpa using e)
theorem vp_take {K : PySem.W.Frag} {H : Hp} : ∀ (i : Nat) {vs : List V} {ds : List PyData}, VpAll K H vs ds → VpAll K H (vs.take i) (ds.take i)
  | 0, _, _, _ => .nil
  | i + 1, _, _, .nil => .nil
  | i + 1, _, _, .cons a b => .cons a (vp_take i b)
theorem vp_drop {K : PySem.W.Frag} {H : Hp} : ∀ (i : Nat) {vs : List V} {ds : List PyData}, VpAll K H vs ds → VpAll K H (vs.drop i) (ds.drop i)
  | 0, _, _, h => h
  | i + 1, _, _, .nil => .nil
  | i + 1, _, _, .cons a b => vp_drop i b
theorem vp_app {K : PySem.W.Frag} {H : Hp} : ∀ {xs ys : List V} {ds es : List PyData}, VpAll K H xs ds → VpAll K H ys es → VpAll K H (xs ++ ys) (ds ++ es)
  | _, _, _, _, .nil, q => q
  | _, _, _, _, .cons a b, q => .cons a (vp_app b q)
theorem vp_rev {K : PySem.W.Frag} {H : Hp} : ∀ {xs : List V} {ds : List PyData}, VpAll K H xs ds → VpAll K H xs.reverse ds.reverse
  | _, _, .nil => .nil
  | _, _, .cons a b => by
    rw [List.reverse_cons, List.reverse_cons]
    exact vp_app (vp_rev b) (.cons a .nil)
theorem vp_tup {K : PySem.W.Frag} {H : Hp} {v : V} {ds : List PyData} (h : Vp K H v (.tuple ds)) : ∃ a xs, v = .ref a ∧ SqT K H a xs ∧ VpAll K H xs ds := by
  cases h with
  | tup h hs => exact ⟨_, _, rfl, h, hs⟩
/-- isinstance(x, T), T a built-in type, x a nested value -/
def rIsV (K : PySem.W.Frag) (T : String) : List V → Hp → VK → Prop := fun xs H Q => ∃ (v : V) (d : PyData) (b : Bool), xs = [v, .ty T] ∧ Vp K H v d ∧ kitB (tyN d) T = some b ∧ Q (.bl b) H
theorem call_isV {X : Cx} {T : String} : CallR X (.builtin "isinstance") (rIsV X.K T) := by
  intro pins s σ H xs us Q I r h
  obtain ⟨v, d, b, e, hd, hb, q⟩ := h
  exact call_isi pins s σ H xs us Q I r ⟨v, .ty T, .type (tyN d), .type T, b, e, .ty T, vp_ty hd, kit_ty hb, q⟩
/-! ### how deep and how wide -/
/-- no sign past 127 -/
def asc (z : Str) : Bool := z.cps.toList.all fun c => decide (c < 128)
def Fit (m : Nat) : Nat → PyData → Prop
  | 0, _ => False
  | n + 1, .tuple ds => ds.length ≤ m ∧ ∀ d ∈ ds, Fit m n d
  | n + 1, .list ds => ds.length ≤ m ∧ ∀ d ∈ ds, Fit m n d
  | _ + 1, .str z => z.length ≤ 980 ∧ asc z = true
  | _ + 1, _ => True
theorem Fit.mono {m m' : Nat} (hm : m ≤ m') : ∀ {n n' : Nat} {d : PyData}, n ≤ n' → Fit m n d → Fit m' n' d
  | 0, _, _, _, h => h.elim
  | n + 1, 0, _, hn, _ => absurd hn (by omega)
  | n + 1, n' + 1, .tuple ds, hn, h => ⟨Nat.le_trans h.1 hm, fun d hd => Fit.mono hm (Nat.le_of_succ_le_succ hn) (h.2 d hd)⟩
  | n + 1, n' + 1, .list ds, hn, h => ⟨Nat.le_trans h.1 hm, fun d hd => Fit.mono hm (Nat.le_of_succ_le_succ hn) (h.2 d hd)⟩
  | n + 1, n' + 1, .none, _, _ => trivial
  | n + 1, n' + 1, .bool _, _, _ => trivial
  | n + 1, n' + 1, .int _, _, _ => trivial
  | n + 1, n' + 1, .str _, _, h => h
  | n + 1, n' + 1, .dict _, _, _ => trivial
/-! ### parts of a tuple -/
theorem cut_drop {xs : List V} {i : Nat} (h : i ≤ xs.length) : cutV xs (some (i : Int)) none = xs.drop i := by
  unfold cutV
  rw [HT.sIx_none, HT.sIx_nat, Nat.min_eq_left h]
  exact List.take_of_length_le (by rw [List.length_drop]; exact Nat.le_refl _)
theorem cut_mid {xs : List V} {i j : Nat} (h : j ≤ xs.length) (hi : i ≤ j) : cutV xs (some (i : Int)) (some (j : Int)) = (xs.drop i).take (j - i) := by
  unfold cutV
  rw [HT.sIx_nat, HT.sIx_nat, Nat.min_eq_left h, Nat.min_eq_left (Nat.le_trans hi h)]
theorem catA_vp {K : PySem.W.Frag} {H : Hp} {x y : V} {ds es : List PyData} {Q : VK} (hx : Vp K H x (.tuple ds)) (hy : Vp K H y (.tuple es)) (hl : ds.length + es.length ≤ 1000) (h : ∀ r H', Same H H' → ∀ xs ys, VpAll K H xs ds → VpAll K H ys es → (∃ a, r = .ref a ∧ SqT K H' a (xs ++ ys)) → Q r H') : rCatA K x y H Q := by
  obtain ⟨a, xs, rfl, ha, hxs⟩ := vp_tup hx
  obtain ⟨b, ys, rfl, hb, hys⟩ := vp_tup hy
  have l1 := vp_len hxs
  have l2 := vp_len hys
  refine ⟨a, b, xs, ys, rfl, rfl, ha, hb, sz1000 (by omega), fun e0 => ?_, fun n0 e0 => ?_, fun n0 n1 p np => ?_⟩
  · subst e0
    exact h _ H (Same.refl _) [] ys hxs hys ⟨b, rfl, hb⟩
  · subst e0
    exact h _ H (Same.refl _) xs [] hxs hys ⟨a, rfl, by rw [List.append_nil]; exact ha⟩
  · have s := same_new (o := .tup (xs ++ ys)) np
    exact h _ _ s xs ys hxs hys ⟨p, rfl, SqT.of upd_same⟩
end Vd
namespace L2
open PySem PySem.Spec PyProof.Rows
/-! a tuple beside the empty tuple -/
def rNeT (K : PySem.W.Frag) : R2 := fun x y H Q => ∃ a b xs, x = .ref a ∧ y = .ref b ∧ SqT K H a xs ∧ SqT K H b [] ∧ Q (.bl (!xs.isEmpty)) H
def rEqT (K : PySem.W.Frag) : R2 := fun x y H Q => ∃ a b xs, x = .ref a ∧ y = .ref b ∧ SqT K H a xs ∧ SqT K H b [] ∧ Q (.bl xs.isEmpty) H
section
variable {X : Cx}
theorem op_neT (hu : X.A.units + 64 < cLine) : OpR X (compareOp .NotEq) (rNeT X.K) := by
  intro pins s σ H x y v u Q I rx ry h
  obtain ⟨a, b, xs, rfl, rfl, ha, hb, q⟩ := h
  cases rx
  cases ry
  obtain ⟨ia, ra, ⟨oa, ha1, ha2, na, ha3⟩, _⟩ := I.tuple ha
  obtain ⟨ib, rb, ⟨ob, hb1, hb2, nb, hb3⟩, _⟩ := I.tuple hb
  cases rb
  have h2 := SeqAt.RcNeAt.tuples (A := X.A) (s := s) (e := fun _ => true) ⟨oa, ha1, ha2, na, ha3⟩ ⟨ob, hb1, hb2, nb, hb3⟩ (by omega) fun j h1 h2 => by simp at h2
  refine EqBoolInt.of_rcne h2 ?_
  refine ⟨.bl (!xs.isEmpty), H, I, ?_, q⟩
  cases ra with
  | nil => rfl
  | cons r1 r2 => rfl
theorem op_eqT (hu : X.A.units + 64 < cLine) : OpR X (compareOp .Eq) (rEqT X.K) := by
  intro pins s σ H x y v u Q I rx ry h
  obtain ⟨a, b, xs, rfl, rfl, ha, hb, q⟩ := h
  cases rx
  cases ry
  obtain ⟨ia, ra, ⟨oa, ha1, ha2, na, ha3⟩, _⟩ := I.tuple ha
  obtain ⟨ib, rb, ⟨ob, hb1, hb2, nb, hb3⟩, _⟩ := I.tuple hb
  cases rb
  have h2 := SeqAt.RcAt.tuples (A := X.A) (s := s) (e := fun _ => true) ⟨oa, ha1, ha2, na, ha3⟩ ⟨ob, hb1, hb2, nb, hb3⟩ (by omega) fun j h1 h2 => by simp at h2
  refine EqBoolInt.of_rc h2 ?_
  refine ⟨.bl xs.isEmpty, H, I, ?_, q⟩
  cases ra with
  | nil => rfl
  | cons r1 r2 => rfl
end
end L2
set_option Elab.async false
set_option linter.all false
set_option maxRecDepth 100000
set_option maxHeartbeats 8000000
namespace Ow
open PySem PySem.Spec PyProof.Rows L2
section
variable {X : Cx} {CX : CXT} {k : Nat} {f : Addr} {sp : Sp} {E : XK} {x : Str} {p pos : Pos} {tk : TA} {fd : FuncData} {ps ks : List Str} {kws : List Keyword} {gg : List Value → List Value → List Value} {gV : List V → List V → List V}
/-- x(k = v, ..), x a def of the module, no argument by position -/
def tFnK (n : Nat) (sp : Sp) (gV : List V → List V → List V) (E : XK) (tk : TA) : TE := fun σ H Q => tk σ H fun zs H2 => zs.length = n ∧ sp (gV [] zs) H2 Q E
theorem pe_callK0 (F : FnOk X.prog X.w X.K X.mg X.base CX k f fd ps sp) (hr : Room k X.A) (hg : Gl X x) (hm : X.mg x = some (.ref f)) (hk : PySem.W.keepIn X.K (.ref f) = true) (hb : KBn X.K fd ps 0 ks gg gV) (hx : Passes CX X E) (hkw : PK X kws tk)
    (hall : (backToKw pos (keywordEach kws X.env)).all (·.1.isSome) = true := by rfl) (hks : (backToKw pos (keywordEach kws X.env)).filterMap (·.1) = ks := by rfl) (hdb : (x == ("__debug__" : Str)) = false := by decide)
    (hpl : ((backTo pos (starEach [] X.env)).any (·.1) || (backToKw pos (keywordEach kws X.env)).any (·.1.isNone)) = false := by rfl) :
    PE X (.Call (.Name x p) [] kws pos) (tFnK ks.length sp gV E tk) := by
  refine ⟨fun pins s σ H Q I h => ?_⟩
  refine wpAny_Call_Name_kw (ld_glob I hg hm ?_ hdb)
  refine PySem.W.callWith_KW0 (h₀ := X.base) I.ok.mod.kin hk hall ?_ hpl
  refine thn (hkw.run pos pins s σ H _ I h) fun ws s2 ⟨zs, H2, I2, rz, l2, q2⟩ => ⟨I2.kIn, ?_⟩
  rw [hks]
  refine wpAny_call (codeAny_mono (F.run X.A X.stack s2 H2 ⟨[], ks.zip ws⟩ (gg [] ws) (gV [] zs) Q E hr I2.env0 (hb.to s2 [] ws I2.kIn rfl (rz.length.symm.trans l2)) (hb.rel .nil rz) q2) fun r s' hq => ?_)
  cases r with
  | error e => exact hx pins σ H2 s2 e s' I2 hq
  | ok fl =>
    cases fl with
    | ret u => exact I2.after hq
    | next => exact False.elim hq
    | brk => exact False.elim hq
    | cont => exact False.elim hq
end
end Ow
namespace Sz
open PySem PySem.Spec PyProof.Rows L2 TL Nu
/-! great whole numbers, shown -/
theorem num_lenB {i : Int} {k : Nat} (k0 : 0 < k) (h : i.natAbs < 10 ^ k) : (numS i).length ≤ k + 1 := by
  rw [len_tl]
  cases i with
  | ofNat n =>
    rw [tl_pos]
    exact Nat.le_trans (numL_len (n := n) (k := k) k0 h) (Nat.le_succ _)
  | negSucc n =>
    rw [tl_neg, List.length_cons]
    have := numL_len (n := n + 1) (k := k) k0 h
    omega
theorem num_logB {i : Int} (h : i.natAbs < 2 ^ 1920) : i.natAbs.log2 < 1920 := by
  by_cases h0 : i.natAbs = 0
  · rw [h0]
    exact Nat.lt_of_lt_of_le (show Nat.log2 0 < 1 by decide) (by decide)
  · exact (Nat.log2_lt h0).mpr h
theorem sh_intB {i : Int} (h : i.natAbs < 10 ^ 60) : Sh (.int i) 61 1 := by
  refine ⟨?_, ?_, ?_⟩
  · simp only [PyData.shown]
    exact num_lenB (by decide) h
  · simp only [PyData.showable]
    have l : (10 ^ 60 : Nat) < 2 ^ 200 := by decide
    exact decide_eq_true (num_logB (Nat.lt_of_lt_of_le (Nat.lt_trans h l) (Nat.pow_le_pow_right (by decide) (by decide))))
  · simp only [PyData.depth]
    decide
theorem sh_intN {i : Int} {k : Nat} (k0 : 0 < k) (k4 : k ≤ 400) (h : i.natAbs < 10 ^ k) : Sh (.int i) (k + 1) 1 := by
  refine ⟨?_, ?_, ?_⟩
  · simp only [PyData.shown]
    exact num_lenB k0 h
  · simp only [PyData.showable]
    have h3 : (10 : Nat) ^ k ≤ 16 ^ k := Nat.pow_le_pow_left (by decide) _
    have h4 : (16 : Nat) ^ k = 2 ^ (4 * k) := by
      rw [show (16 : Nat) = 2 ^ 4 from rfl, ← Nat.pow_mul]
    exact decide_eq_true (num_logB (Nat.lt_of_lt_of_le (Nat.lt_of_lt_of_le h h3) (by rw [h4]; exact Nat.pow_le_pow_right (by decide) (by omega))))
  · simp only [PyData.depth]
    decide
theorem sum_abs {l : List Int} {b : Nat} (h : ∀ z ∈ l, z.natAbs ≤ b) : l.sum.natAbs ≤ l.length * b := by
  induction l with
  | nil => exact Nat.zero_le _
  | cons a l ih =>
    rw [List.sum_cons, List.length_cons, Nat.succ_mul]
    have h1 := h a (List.mem_cons_self ..)
    have h2 := ih fun x hx => h x (List.mem_cons_of_mem _ hx)
    have h3 := Int.natAbs_add_le a l.sum
    omega
end Sz
set_option Elab.async false
set_option linter.all false
set_option maxRecDepth 100000
set_option maxHeartbeats 8000000
namespace K5
open PySem PySem.Spec PyProof.Rows L2 Gd Rl Nu TL
open Pg (fD top okD okAll)
abbrev sThing : Stmt := top 50
/-! ### values of any kind -/
def fitB (m : Nat) : Nat → PyData → Bool
  | 0, _ => false
  | n + 1, .tuple ds => decide (ds.length ≤ m) && ds.all (fitB m n)
  | n + 1, .list ds => decide (ds.length ≤ m) && ds.all (fitB m n)
  | _ + 1, .str z => decide (z.length ≤ 980) && Vd.asc z
  | _ + 1, _ => true
theorem fitB_ok {m : Nat} : ∀ {n : Nat} {d : PyData}, fitB m n d = true → Vd.Fit m n d
  | 0, _, h => by cases h
  | n + 1, .tuple ds, h => by
    obtain ⟨h1, h2⟩ := Bool.and_eq_true_iff.mp (show (decide (ds.length ≤ m) && ds.all (fitB m n)) = true from h)
    exact ⟨of_decide_eq_true h1, fun d hd => fitB_ok (List.all_eq_true.mp h2 d hd)⟩
  | n + 1, .list ds, h => by
    obtain ⟨h1, h2⟩ := Bool.and_eq_true_iff.mp (show (decide (ds.length ≤ m) && ds.all (fitB m n)) = true from h)
    exact ⟨of_decide_eq_true h1, fun d hd => fitB_ok (List.all_eq_true.mp h2 d hd)⟩
  | n + 1, .none, _ => trivial
  | n + 1, .bool _, _ => trivial
  | n + 1, .int _, _ => trivial
  | n + 1, .str z, h => by
    obtain ⟨h1, h2⟩ := Bool.and_eq_true_iff.mp (show (decide (z.length ≤ 980) && Vd.asc z) = true from h)
    exact ⟨of_decide_eq_true h1, h2⟩
  | n + 1, .dict _, _ => trivial
def menu : List PyData := [.none, .bool true, .bool false, .int 0, .int 1, .int (-1), .int 2, .int (10 ^ 6 + 1), .int (-10 ^ 39), .str "", .str "a", .str "vars x", .tuple [], .tuple [.int 0], .tuple [.int 1, .int 0], .str "9x",
  .list [], .list [.int 1], .str "A", .dict [], .dict [(.str "a", .int 1)], .tuple [.str "x"], .tuple [.str "a", .tuple [.int 1, .int 0]], .tuple [.tuple [.int 1, .int 0]], .tuple [.str "row"], .tuple [.none], .str "abcdefghi", .str "x y"]
/-- small, and it can be shown -/
def thB (d : PyData) : Bool := PyData.showable d && (decide (d.depth ≤ 18) && (decide (d.shown.length ≤ 1000) && (Vd.asc d.shown && (match d with
  | .str z => decide (z.length ≤ 10) && Vd.asc z
  | _ => true))))
structure ThOk (d : PyData) : Prop where
  sh : PyData.showable d = true
  dp : d.depth ≤ 18
  len : d.shown.length ≤ 1000
  asc : Vd.asc d.shown = true
  z : ∀ z, d = .str z → z.length ≤ 10 ∧ Vd.asc z = true
theorem thB_ok {d : PyData} (h : thB d = true) : ThOk d := by
  unfold thB at h
  obtain ⟨h1, h⟩ := Bool.and_eq_true_iff.mp h
  obtain ⟨h2, h⟩ := Bool.and_eq_true_iff.mp h
  obtain ⟨h3, h⟩ := Bool.and_eq_true_iff.mp h
  obtain ⟨h4, h5⟩ := Bool.and_eq_true_iff.mp h
  refine ⟨h1, of_decide_eq_true h2, of_decide_eq_true h3, h4, fun z e => ?_⟩
  subst e
  obtain ⟨h6, h7⟩ := Bool.and_eq_true_iff.mp h5
  exact ⟨of_decide_eq_true h6, h7⟩
def okMB (d : PyData) : Bool := fitB 2 4 (Vd.noD d) && thB d
theorem menu_fine : menu.all okMB = true := by decide +kernel
/-- v stands for a thing of the menu -/
def Thing (K : PySem.W.Frag) (H : Hp) (v : V) : Prop := ∃ d, Rp K H v d ∧ Vd.Fit 2 4 (Vd.noD d) ∧ ThOk d
theorem Thing.same {K : PySem.W.Frag} {H H' : Hp} (e : Same H H') {v : V} (h : Thing K H v) : Thing K H' v := let ⟨d, a, b⟩ := h; ⟨d, rp_same e a, b⟩
def Things (K : PySem.W.Frag) (H : Hp) (xs : List V) : Prop := Paired (Rp K H) xs menu
theorem things_at {K : PySem.W.Frag} {H : Hp} : ∀ {xs : List V} {ds : List PyData}, Paired (Rp K H) xs ds → ds.all okMB = true → ∀ {i : Nat} {x : V}, xs[i]? = some x → Thing K H x
  | _, _, .nil, _, i, x, e => by simp at e
  | _, _, .cons r t, h, 0, x, e => by
    simp at e
    subst e
    simp only [List.all_cons, Bool.and_eq_true] at h
    exact ⟨_, r, fitB_ok (Bool.and_eq_true_iff.mp h.1).1, thB_ok (Bool.and_eq_true_iff.mp h.1).2⟩
  | _, _, .cons r t, h, i + 1, x, e => by
    simp only [List.all_cons, Bool.and_eq_true] at h
    exact things_at t h.2 (by simpa using e)
theorem pnil {K : PySem.W.Frag} {H : Hp} : Paired (Rp K H) [] [] := .nil
theorem pcons {K : PySem.W.Frag} {H : Hp} {v : V} {d : PyData} {vs : List V} {ds : List PyData} (h : Rp K H v d) (t : Paired (Rp K H) vs ds) : Paired (Rp K H) (v :: vs) (d :: ds) := .cons h t
theorem pcons2 {K : PySem.W.Frag} {H : Hp} {v : V} {d : PyData} {vs : List V} {ds : List PyData} (h : Dp K H v d) (t : Paired (Rp K H) vs ds) : Paired (Rp K H) (v :: vs) (d :: ds) := .cons (.inl h) t
theorem same_p {K : PySem.W.Frag} {H H' : Hp} (e : Same H H') : ∀ {vs : List V} {ds : List PyData}, Paired (Rp K H) vs ds → Paired (Rp K H') vs ds
  | _, _, .nil => .nil
  | _, _, .cons r t => .cons (rp_same e r) (same_p e t)
theorem app_p {K : PySem.W.Frag} {H : Hp} : ∀ {vs ws : List V} {ds es : List PyData}, Paired (Rp K H) vs ds → Paired (Rp K H) ws es → Paired (Rp K H) (vs ++ ws) (ds ++ es)
  | _, _, _, _, .nil, q => q
  | _, _, _, _, .cons r t, q => .cons r (app_p t q)
theorem same_dels {p : Addr} {H H' : Hp} (b : But p H H') : Same (delH H p) (delH H' p) := fun a o e => by
  by_cases h : a = p
  · rw [h, delH_same] at e
    cases e
  · rw [delH_ne h] at e ⊢
    exact b a o e h
theorem same_del {p : Addr} {H H' : Hp} (b : But p H H') : Same (delH H p) H' := fun a o e => by
  by_cases h : a = p
  · rw [h, delH_same] at e
    cases e
  · rw [delH_ne h] at e
    exact b a o e h
theorem del_at {p a : Addr} {H H0 H' : Hp} {o u : HO} (hp : H0 p = some u) (n : New H0 a o H) (s : Same H H') : delH H' p a = some o := by
  rw [delH_ne (ne_of_none hp n.1).symm]
  exact s _ _ n.2.1
def spThing (K : PySem.W.Frag) : Sp := fun vs H Q _ => ∃ p, vs = [.ref p] ∧ Pail H p ∧ ∀ (v : V) (H' : Hp), Thing K (delH H' p) v → Pail H' p → But p H H' → Q v H'
section
variable {P : Program} {w : World} {K : PySem.W.Frag} {mg : Str → Option Value} {base : Heap} {f : Addr} {fd : FuncData}
theorem scThing : FnScope ["_law_pail", "_law_menu"] ["_law_pail"] (defScope sThing) := ⟨rfl, rfl, rfl, by decide +kernel, rfl, by decide +kernel, by decide +kernel⟩
theorem ok_thing {fA fC : Addr} {fdA fdC : FuncData} (F : FnP K "_law_thing" sThing f fd) (T : Bl mg) (FA : FnP K "_law_any_of" sAny fA fdA) (gA : mg "_law_any_of" = some (.ref fA)) (FC : FnP K "_law_cast" sCast fC fdC) (gC : mg "_law_cast" = some (.ref fC)) : FnOk P w K mg base CX0 3 f fd ["_law_pail"] (spThing K) := by
  have GA : FnOk P w K mg base CX0 2 fA fdA ["_law_pail", "_law_some"] (spAny K) := ok_any FA T FC gC
  have bA : Binds K fdA ["_law_pail", "_law_some"] [] := FA.bindsN fun _ _ _ _ _ _ us hl => match us, hl with | [_, _], _ => rfl
  refine F.ok scThing (fun vs H Q E h => ?_) (fun cdv A outer s H vs Q E hr h => ?_)
  · obtain ⟨p, rfl, _⟩ := h
    rfl
  · obtain ⟨p, rfl, hp, k⟩ := h
    refine ⟨_, PSs.nox <| pss_cons (ps_set (i := 1) scThing.nd rfl (.inl rfl) (pe_lstR <| pa_cons pe_non <| pa_cons pe_bl <| pa_cons pe_bl <| pa_cons pe_int <| pa_cons pe_int <| pa_cons (pe_un un_neg pe_int) <| pa_cons pe_int <| pa_cons (pe_op op_add (pe_op op_pow pe_int pe_int) pe_int) <| pa_cons (pe_un un_neg (pe_op op_pow pe_int pe_int))
        <| pa_cons pe_str <| pa_cons pe_str <| pa_cons pe_str <| pa_cons (pe_tupR pa_nil) <| pa_cons (pe_tupR <| pa_cons pe_int pa_nil) <| pa_cons (pe_tupR <| pa_cons pe_int <| pa_cons pe_int pa_nil) <| pa_cons pe_str pa_nil))
      <| pss_cons (ps_set (i := 1) scThing.nd rfl (.inl rfl) (pe_op op_catR (pv 1) (pe_lstR <| pa_cons (pe_lstR pa_nil) <| pa_cons (pe_lstR <| pa_cons pe_int pa_nil) <| pa_cons pe_str <| pa_cons pe_dnewR <| pa_cons (pe_disp (pps_cons pe_str pe_int pps_nil) rfl rfl (by decide) (by decide)) <| pa_cons (pe_tupR <| pa_cons pe_str pa_nil) <| pa_cons (pe_tupR <| pa_cons pe_str <| pa_cons (pe_tupR <| pa_cons pe_int <| pa_cons pe_int pa_nil) pa_nil)
        <| pa_cons (pe_tupR <| pa_cons (pe_tupR <| pa_cons pe_int <| pa_cons pe_int pa_nil) pa_nil) <| pa_cons (pe_tupR <| pa_cons pe_str pa_nil) <| pa_cons (pe_tupR <| pa_cons pe_non pa_nil) <| pa_cons pe_str <| pa_cons pe_str pa_nil)))
      <| pss_one (ps_ret (pe_call GA hr (by rfl) gA FA.kp bA .nil pass0 (pa_cons (pv 0) (pa_cons (pv 1) pa_nil)))), ?_⟩
    have dl : ∀ {n : Nat}, decide (n ≤ 1000) = true → n ≤ 1000 := fun h => of_decide_eq_true h
    refine ⟨_, rfl, _, _, rfl, rfl, ⟨by decide, by decide, by decide⟩, _, _, rfl, rfl, _, _, rfl, rfl, ⟨by decide, by decide, by decide⟩, _, rfl, dl rfl, fun a1 H1 n1 => ⟨dl rfl, fun a2 H2 n2 => ⟨dl rfl, fun a3 H3 n3 => ⟨dl rfl, fun l4 H4 n4 => ?_⟩⟩⟩⟩
    refine ⟨_, rfl, dl rfl, fun l5 H5 n5 => ⟨dl rfl, fun l6 H6 n6 => fun d7 H7 n7 => fun d8 nd8 => ⟨upd_same, [(Sum.inr "a", .int 1)], rfl, by decide, ?_⟩⟩⟩
    have n8 : New H7 d8 (.dK [(Sum.inr "a", .int 1)]) (upd (upd H7 d8 (.dK [])) d8 (.dK (mergeK [] [(Sum.inr "a", .int 1)]))) := ⟨nd8, upd_same, fun b u e => by rw [upd_ne (ne_of_none e nd8), upd_ne (ne_of_none e nd8)]; exact e⟩
    generalize (upd (upd H7 d8 (.dK [])) d8 (.dK (mergeK [] [(Sum.inr "a", .int 1)]))) = H8 at n8 ⊢
    refine ⟨dl rfl, fun a9 H9 n9 => ⟨dl rfl, fun b10 H10 n10 => ⟨dl rfl, fun a11 H11 n11 => ⟨dl rfl, fun b12 H12 n12 => ⟨dl rfl, fun a13 H13 n13 => ⟨dl rfl, fun a14 H14 n14 => ⟨dl rfl, fun a15 H15 n15 => ⟨dl rfl, fun l16 H16 n16 => ?_⟩⟩⟩⟩⟩⟩⟩⟩
    have s16 := Same.refl H16
    have s15 := n16.2.2
    have s14 := n15.2.2.trans s15
    have s13 := n14.2.2.trans s14
    have s12 := n13.2.2.trans s13
    have s11 := n12.2.2.trans s12
    have s10 := n11.2.2.trans s11
    have s9 := n10.2.2.trans s10
    have s8 := n9.2.2.trans s9
    have s7 := n8.2.2.trans s8
    have s6 := n7.2.2.trans s7
    have s5 := n6.2.2.trans s6
    have s4 := n5.2.2.trans s5
    have s3 := n4.2.2.trans s4
    have s2 := n3.2.2.trans s3
    have s1 := n2.2.2.trans s2
    have s0 := n1.2.2.trans s1
    refine ⟨l4, l16, _, _, rfl, rfl, s4 _ _ n4.2.1, n16.2.1, dl rfl, fun l17 H17 n17 => ?_⟩
    have z := n17.2.2
    have hpp := hp
    obtain ⟨o, st, c, q0, _⟩ := hpp
    have q1 := n1.2.2 _ _ q0
    have q2 := n2.2.2 _ _ q1
    have q3 := n3.2.2 _ _ q2
    have q4 := n4.2.2 _ _ q3
    have q5 := n5.2.2 _ _ q4
    have q6 := n6.2.2 _ _ q5
    have q7 := n7.2.2 _ _ q6
    have q8 := n8.2.2 _ _ q7
    have q9 := n9.2.2 _ _ q8
    have q10 := n10.2.2 _ _ q9
    have q11 := n11.2.2 _ _ q10
    have q12 := n12.2.2 _ _ q11
    have q13 := n13.2.2 _ _ q12
    have q14 := n14.2.2 _ _ q13
    have q15 := n15.2.2 _ _ q14
    have q16 := n16.2.2 _ _ q15
    have e1 := del_at q0 n1 (s1.trans z)
    have e2 := del_at q1 n2 (s2.trans z)
    have e3 := del_at q2 n3 (s3.trans z)
    have e5 := del_at q4 n5 (s5.trans z)
    have e6 := del_at q5 n6 (s6.trans z)
    have e7 := del_at q6 n7 (s7.trans z)
    have e8 := del_at q7 n8 (s8.trans z)
    have e9 := del_at q8 n9 (s9.trans z)
    have e10 := del_at q9 n10 (s10.trans z)
    have e11 := del_at q10 n11 (s11.trans z)
    have e12 := del_at q11 n12 (s12.trans z)
    have e13 := del_at q12 n13 (s13.trans z)
    have e14 := del_at q13 n14 (s14.trans z)
    have e15 := del_at q14 n15 (s15.trans z)
    have all : Paired (Rp K (delH H17 p)) _ menu := (pcons2 .non <| pcons2 (.bl true) <| pcons2 (.bl false) <| pcons2 (.int 0) <| pcons2 (.int 1) <| pcons2 (.int (-1)) <| pcons2 (.int 2) <| pcons2 (.int (10 ^ 6 + 1)) <| pcons2 (.int (-10 ^ 39)) <| pcons2 (.str "") <| pcons2 (.str "a") <| pcons2 (.str "vars x")
      <| pcons2 (.tup (.of e1) .nil) <| pcons2 (.tup (.of e2) (.cons (.int 0) .nil)) <| pcons2 (.tup (.of e3) (.cons (.int 1) (.cons (.int 0) .nil))) <| pcons2 (.str "9x")
      <| pcons2 (.lst (.of e5) .nil) <| pcons2 (.lst (.of e6) (.cons (.int 1) .nil)) <| pcons2 (.str "A") <| pcons (.inr ⟨d7, [], [], rfl, e7, .nil, rfl⟩) <| pcons (.inr ⟨d8, _, _, rfl, e8, .cons ⟨rfl, rfl⟩ .nil, rfl⟩)
      <| pcons2 (.tup (.of e9) (.cons (.str "x") .nil)) <| pcons2 (.tup (.of e11) (.cons (.str "a") (.cons (.tup (.of e10) (.cons (.int 1) (.cons (.int 0) .nil))) .nil))) <| pcons2 (.tup (.of e13) (.cons (.tup (.of e12) (.cons (.int 1) (.cons (.int 0) .nil))) .nil)) <| pcons2 (.tup (.of e14) (.cons (.str "row") .nil)) <| pcons2 (.tup (.of e15) (.cons .non .nil)) <| pcons2 (.str "abcdefghi") <| pcons2 (.str "x y") pnil)
    refine ⟨_, rfl, _, rfl, p, l17, _, rfl, hp.same (s0.trans z), n17.2.1, (ne_of_none q16 n17.1).symm, ?_, ?_, fun i x H' ei hp' bt => ?_⟩
    · show 0 < 28
      decide
    · show 28 ≤ 1000
      decide
    · exact k x H' ((things_at all menu_fine ei).same (same_dels bt)) hp' fun b u e nb => bt b u ((s0.trans z) b u e) nb
end
end K5
set_option Elab.async false
set_option linter.all false
set_option maxRecDepth 100000
set_option maxHeartbeats 8000000
namespace Nu
open PySem PySem.Spec PyProof.Rows L2 TL
/-! any text, cut -/
theorem spl_few {S : List Nat} : ∀ (l : List Nat) (k : Nat) (acc : List Nat), (spl S k acc l).length ≤ l.length + 1
  | [], k, acc => by
    rw [spl_nil]
    exact Nat.le_refl _
  | c :: r, 0, acc => by
    unfold spl
    split
    · rw [List.length_cons, List.length_cons]
      have := spl_few (S := S) r (S.length - 1) []
      omega
    · have := spl_few (S := S) r 0 (acc ++ [c])
      rw [List.length_cons]
      omega
  | c :: r, k + 1, acc => by
    have := spl_few (S := S) r k acc
    show (spl S k acc r).length ≤ _
    rw [List.length_cons]
    omega
theorem spl_ne {S : List Nat} : ∀ (l : List Nat) (k : Nat) (acc : List Nat), spl S k acc l ≠ []
  | [], k, acc => by
    rw [spl_nil]
    exact List.cons_ne_nil _ _
  | c :: r, 0, acc => by
    unfold spl
    split
    · exact List.cons_ne_nil _ _
    · exact spl_ne r 0 _
  | c :: r, k + 1, acc => by
    exact spl_ne (S := S) r k acc
theorem spl_each {S : List Nat} : ∀ (l : List Nat) (k : Nat) (acc p : List Nat), p ∈ spl S k acc l → p.length ≤ acc.length + l.length
  | [], k, acc, p, h => by
    rw [spl_nil] at h
    rw [List.mem_singleton.mp h]
    exact Nat.le_refl _
  | c :: r, 0, acc, p, h => by
    unfold spl at h
    rw [List.length_cons]
    split at h
    · rcases List.mem_cons.mp h with rfl | h
      · omega
      · have := spl_each r (S.length - 1) [] p h
        rw [List.length_nil] at this
        omega
    · have := spl_each r 0 (acc ++ [c]) p h
      rw [List.length_append, List.length_singleton] at this
      omega
  | c :: r, k + 1, acc, p, h => by
    unfold spl at h
    have := spl_each r k acc p h
    rw [List.length_cons]
    omega
theorem par_each {S : List Nat} : ∀ (l acc a b : List Nat), par S acc l = some (a, b) → a.length ≤ acc.length + l.length ∧ b.length ≤ l.length
  | [], acc, a, b, h => by cases h
  | c :: r, acc, a, b, h => by
    unfold par at h
    rw [List.length_cons]
    split at h
    · cases h
      rw [List.length_drop, List.length_cons]
      omega
    · have := par_each r (acc ++ [c]) a b h
      rw [List.length_append, List.length_singleton] at this
      omega
section
variable {x y : Str} (hy : tl y ≠ []) (hk : y.cps.all (· < 256) = true)
include hy hk
theorem split_few : (Txt.split x y).length ≤ x.length + 1 := by
  have e := congrArg List.length (split_spl x y hy (kind_ok hk))
  rw [List.length_map] at e
  rw [e, len_tl x]
  exact spl_few _ _ _
theorem split_ne : Txt.split x y ≠ [] := fun e => by
  have e2 := split_spl x y hy (kind_ok hk)
  rw [e] at e2
  exact spl_ne _ _ _ e2.symm
theorem split_each {p : Str} (h : p ∈ Txt.split x y) : p.length ≤ x.length := by
  have h2 : tl p ∈ (Txt.split x y).map tl := List.mem_map_of_mem h
  rw [split_spl x y hy (kind_ok hk)] at h2
  have := spl_each _ _ _ _ h2
  rw [List.length_nil, Nat.zero_add] at this
  rw [len_tl, len_tl]
  exact this
omit hk in
theorem part_each : (Txt.partition x y).1.length ≤ x.length ∧ (Txt.partition x y).2.2.length ≤ x.length := by
  rw [partition_par x y hy]
  cases e : par (tl y) [] (tl x) with
  | none => exact ⟨Nat.le_refl _, Nat.zero_le _⟩
  | some q =>
    obtain ⟨a, b⟩ := q
    obtain ⟨h1, h2⟩ := par_each _ _ _ _ e
    rw [List.length_nil, Nat.zero_add] at h1
    rw [len_tl x]
    exact ⟨by rw [len_tl]; exact h1, by rw [len_tl]; exact h2⟩
end
/-! a numeral is a number's text -/
theorem numL_of : ∀ (n : Nat) (ds : List Nat), ds.length = n → ds ≠ [] → (∀ d ∈ ds, 48 ≤ d ∧ d ≤ 57) → ds.head? ≠ some 48 → ∃ m, 1 ≤ m ∧ numL m = ds
  | 0, ds, hl, hne, _, _ => absurd (List.length_eq_zero_iff.mp hl) hne
  | n + 1, ds, hl, hne, hd, h0 => by
    obtain ⟨es, d, rfl⟩ : ∃ es d, ds = es ++ [d] := ⟨ds.dropLast, ds.getLast hne, (List.dropLast_concat_getLast hne).symm⟩
    rw [List.length_append, List.length_singleton] at hl
    obtain ⟨d1, d2⟩ := hd d (List.mem_append_right _ (List.mem_singleton.mpr rfl))
    cases es with
    | nil =>
      have : d ≠ 48 := fun e => h0 (by rw [e]; rfl)
      refine ⟨d - 48, by omega, ?_⟩
      rw [numL_lt (by omega)]
      show [48 + (d - 48)] = [d]
      rw [show 48 + (d - 48) = d by omega]
    | cons e es =>
      obtain ⟨m, m1, hm⟩ := numL_of n (e :: es) (by omega) (List.cons_ne_nil _ _) (fun x hx => hd x (List.mem_append_left _ hx)) (fun q => h0 (by rw [← q]; rfl))
      refine ⟨10 * m + (d - 48), by omega, ?_⟩
      rw [numL_step (by omega), show (10 * m + (d - 48)) / 10 = m by omega, show (10 * m + (d - 48)) % 10 = d - 48 by omega, hm, show 48 + (d - 48) = d by omega]
end Nu
namespace Pg
open PySem PySem.Spec PyProof.Rows L2 Gd Rl Te Nu TL
def digS (s : Str) : Bool := s.cps.toList.all fun c => decide (c ∈ figS.cps.toList)
def nuB (s : Str) : Bool := (!(Txt.removeprefix s "-").cps.toList.isEmpty && digS (Txt.removeprefix s "-")) && (!decide ((Txt.removeprefix s "-").cps.toList.head? = some 48) || decide (s = "0"))
theorem fig_mem {c : Nat} : c ∈ figS.cps.toList ↔ 48 ≤ c ∧ c ≤ 57 := by
  have e4 : figS.cps.toList = [48, 49, 50, 51, 52, 53, 54, 55, 56, 57] := by decide +kernel
  rw [e4]
  simp only [List.mem_cons, List.not_mem_nil, or_false]
  omega
theorem rm_cases (s : Str) : (Txt.removeprefix s "-" = s ∨ tl s = 45 :: tl (Txt.removeprefix s "-")) := by
  rw [StrLaws.removeprefix_eq, sub_zero]
  have e1 : ("-" : Str).length = 1 := by decide +kernel
  have e2 : tl ("-" : Str) = [45] := by decide +kernel
  rw [e1, e2]
  by_cases h : (decide (1 ≤ s.length) && (tl s).take 1 == [45]) = true
  · rw [if_pos h]
    right
    obtain ⟨h1, h2⟩ := Bool.and_eq_true_iff.mp h
    have h3 : (tl s).take 1 = [45] := eq_of_beq h2
    have e3 : tl s = 45 :: (tl s).drop 1 := by
      cases e : tl s with
      | nil =>
        rw [e] at h3
        cases h3
      | cons c r =>
        rw [e] at h3
        have : c = 45 := (List.cons.inj (show [c] = [45] from h3)).1
        rw [this]
        rfl
    have e4 : tl (⟨(((tl s).drop 1).take (s.length - 1)).toArray⟩ : Str) = (tl s).drop 1 := by
      show ((tl s).drop 1).take _ = _
      refine List.take_of_length_le ?_
      rw [List.length_drop]
      have := len_tl s
      omega
    refine e3.trans ?_
    congr 1
    exact e4.symm
  · rw [if_neg h]
    exact .inl rfl
theorem nu_num {s : Str} (h : nuB s = true) : ∃ i : Int, s = numS i := by
  unfold nuB at h
  obtain ⟨h, h3⟩ := Bool.and_eq_true_iff.mp h
  obtain ⟨h1, h2⟩ := Bool.and_eq_true_iff.mp h
  have hne : tl (Txt.removeprefix s "-") ≠ [] := fun e => by
    have : (Txt.removeprefix s "-").cps.toList = [] := e
    rw [this] at h1
    cases h1
  have hd : ∀ d ∈ tl (Txt.removeprefix s "-"), 48 ≤ d ∧ d ≤ 57 := fun d hm => fig_mem.mp (of_decide_eq_true (List.all_eq_true.mp h2 d hm))
  by_cases h0 : s = "0"
  · exact ⟨0, by rw [h0]; decide +kernel⟩
  · have hh : (tl (Txt.removeprefix s "-")).head? ≠ some 48 := fun e => by
      have e' : (Txt.removeprefix s "-").cps.toList.head? = some 48 := e
      rw [decide_eq_true e', decide_eq_false h0] at h3
      cases h3
    obtain ⟨m, m1, hm⟩ := numL_of _ _ rfl hne hd hh
    rcases rm_cases s with e | e
    · rw [e] at hm
      exact ⟨(m : Nat), ext_tl (by rw [← hm]; exact (tl_pos m).symm)⟩
    · rw [← hm] at e
      obtain ⟨k, rfl⟩ : ∃ k, m = k + 1 := ⟨m - 1, by omega⟩
      exact ⟨Int.negSucc k, ext_tl (by rw [e]; exact (tl_neg k).symm)⟩
end Pg
set_option Elab.async false
set_option linter.all false
set_option maxRecDepth 100000
set_option maxHeartbeats 8000000
namespace Pg
open PySem PySem.Spec PyProof.Rows L2 Gd Rl Te Nu TL
theorem le6 {n : Nat} (h : n ≤ 1000000) : n ≤ sizeLine := by
  have : sizeLine = 16777216 := by decide
  omega
theorem lt6 {n : Nat} (h : n ≤ 1000000) : n + 2 ≤ sizeLine := by
  have : sizeLine = 16777216 := by decide
  omega
theorem rm_len (s : Str) : (Txt.removeprefix s "-").length ≤ s.length := by
  rcases rm_cases s with e | e
  · rw [e]
    exact Nat.le_refl _
  · have := congrArg List.length e
    rw [List.length_cons] at this
    rw [len_tl, len_tl]
    omega
theorem num_read8 {i : Int} (hl : (numS i).length ≤ 8) : intText? (numS i) = some i := by
  cases i with
  | ofNat n =>
    have e := PySem.intText_digits (x := numS (Int.ofNat n)) (by
      have := tl_pos n
      unfold TL.tl at this
      rw [this]
      exact numL_digits n) (num_ne _) (by omega)
    rw [e]
    have := tl_pos n
    unfold TL.tl at this
    rw [this, numL_val]
    rfl
  | negSucc n =>
    have e := PySem.intText_neg (x := numS (Int.negSucc n)) (tl_neg n) (numL_digits _) (numL_ne _) (by omega)
    rw [e, numL_val]
    rfl
noncomputable def numV (s : Str) : Int := open Classical in if h : ∃ i : Int, s = numS i then h.choose else 0
def wordB (s : Str) : Bool := decide (s.length ≤ 8) && nuB s
noncomputable def formS (t : Str) : List Int := if (Txt.split t " ").all wordB = true then (Txt.split t " ").map numV else []
theorem word_num {s : Str} (h : wordB s = true) : intText? s = some (numV s) ∧ s = numS (numV s) ∧ s.length ≤ 8 := by
  obtain ⟨h1, h2⟩ := Bool.and_eq_true_iff.mp h
  have h3 := of_decide_eq_true h1
  have h4 := nu_num h2
  have e : s = numS (numV s) := by
    unfold numV
    rw [dif_pos h4]
    exact h4.choose_spec
  refine ⟨?_, e, h3⟩
  have := num_read8 (i := numV s) (by rw [← e]; exact h3)
  rw [← e] at this
  exact this
theorem list_map {α : Type} {f : α → V} : ∀ {l : List α} {ys : List V}, ys.length = l.length → (∀ (j : Nat) (y : V), ys[j]? = some y → ∃ c : α, l[j]? = some c ∧ y = f c) → ys = l.map f
  | [], ys, h, _ => List.length_eq_zero_iff.mp h
  | c :: l, [], h, _ => by cases h
  | c :: l, y :: ys, h, e => by
    obtain ⟨c2, e1, e2⟩ := e 0 y rfl
    cases e1
    rw [e2, List.map_cons, list_map (Nat.succ.inj h) fun j z ez => e (j + 1) z ez]
section
variable {P : Program} {w : World} {K : PySem.W.Frag} {mg : Str → Option Value} {base : Heap} {f : Addr} {fd : FuncData}
/-! ### is_numeral, of any word -/
def spNuX (K : PySem.W.Frag) : Sp := fun vs H Q _ => ∃ s : Str, vs = [.str s] ∧ s.length ≤ 1000 ∧ ∀ H', Same H H' → Q (.bl (nuB s)) H'
theorem ok_nuX (F : FnP K "is_numeral" sNu f fd) (T : Mo mg) : FnOk P w K mg base CX0 1 f fd ["word"] (spNuX K) := by
  obtain ⟨t3, c3⟩ := T.figs
  refine F.ok scNu (fun vs H Q E h => ?_) (fun cdv A outer s H vs Q E hr h => ?_)
  · obtain ⟨v, rfl, _⟩ := h
    rfl
  · obtain ⟨st, rfl, hl, k⟩ := h
    refine ⟨_, PSs.nox <| pss_cons (ps_set (i := 1) scNu.nd rfl (.inl rfl) (pe_bm PySem.F.plainAttrs_str PySem.F.slot_str_removeprefix PySem.F.type_str_removeprefix mt_removeprefix (pv 0) (pa_cons pe_str pa_nil)))
      <| pss_cons (ps_if (PW.pt (pw_or (pt_not (pt_truth (pv 1) (by intro _; rfl))) (pw_or1 (pt_not (pt_val (pe_callB (cr_all rfl) (by rfl) T.all (by decide +kernel) (pa_cons (pe_lc (own := [("sign", 2)]) (g := gName 2) (tt := tYes) rfl scNu.nd (pi_str (pv 1)) (blkOk_by (N := ["word", "figures", "sign"]) (sc := defScope sNu) (by decide +kernel)) (fun _ _ _ _ _ => pg_name (i := 2) scNu.nd rfl (Or.inl rfl)) (fun _ _ _ _ _ => pts_nil)
          (fun _ _ _ _ _ => pe_cmpR op_in_sign (pv 2) (pe_glob (v := .str figS) (by rfl) c3 ⟨_, rfl⟩) (by rfl))) pa_nil))))))) (pss_one (ps_ret pe_bl)) pss_nil)
      <| pss_one (ps_ret (pe_or (pe_cmpR op_ne (pe_item_str (pv 1) pe_int (fun _ _ => rfl)) pe_str (nomark _)) (pe_one (pe_cmpR op_eq (pv 0) pe_str (nomark _))))), ?_⟩
    have hg := rm_len st
    have hn : nuB st = ((!(Txt.removeprefix st "-").cps.toList.isEmpty && digS (Txt.removeprefix st "-")) && (!decide ((Txt.removeprefix st "-").cps.toList.head? = some 48) || decide (st = "0"))) := rfl
    refine ⟨_, rfl, rfl, _, _, rfl, rfl, le6 (by omega), ?_⟩
    generalize Txt.removeprefix st "-" = g at hg hn ⊢
    refine ⟨_, rfl, !g.cps.toList.isEmpty, ⟨le6 (by omega), ?_⟩, ?_⟩
    · have e1 : g.length = g.cps.toList.length := len_tl g
      rw [e1]
      cases g.cps.toList with
      | nil => rfl
      | cons c r =>
        simp
        omega
    cases hE : g.cps.toList.isEmpty with
    | true =>
      refine iteT ?_
      rw [hE] at hn
      have q := k H (Same.refl H)
      rw [hn] at q
      exact q
    | false =>
    refine iteF ?_
    have hz : g.cps.size ≤ 1000 := by
      have : g.cps.size = g.length := rfl
      omega
    refine ⟨_, rfl, _, rfl, lcR walk_str (n1 := hz) (fun _ _ => trivial) (fun i y _ => ∃ c, g.cps.toList[i]? = some c ∧ y = .bl (decide (c ∈ figS.cps.toList))) (fun _ _ _ _ _ e => e) ?_ ?_⟩
    · rintro D acc j x Ha Hb K2 hj s nD hD ⟨rfl, c', ec, rfl⟩ kk
      exact ⟨rfl, _, rfl, c', _, rfl, rfl, kk _ _ (Same.refl _) ⟨c', by rw [Array.getElem?_toList]; exact ec, rfl⟩⟩
    · rintro D Hb ys nw hlen2 he
      have ey : ys = (g.cps.toList.map fun c => decide (c ∈ figS.cps.toList)).map V.bl := by
        rw [List.map_map]
        exact list_map (by rw [hlen2]; rfl) he
      refine ⟨D, _, rfl, by rw [← ey]; exact SqL.of nw.2.1, _, rfl, ?_⟩
      have eA : (g.cps.toList.map fun c => decide (c ∈ figS.cps.toList)).all id = digS g := by
        unfold digS
        rw [List.all_map]
        rfl
      rw [eA]
      have kt := k Hb nw.2.2
      rw [hE] at hn
      cases hD : digS g with
      | false =>
        refine iteT ?_
        rw [hD] at hn
        rw [hn] at kt
        exact kt
      | true =>
        refine iteF ?_
        rw [hD] at hn
        obtain ⟨c, r, hc⟩ : ∃ c r, g.cps.toList = c :: r := by
          cases h : g.cps.toList with
          | nil =>
            rw [h] at hE
            cases hE
          | cons c r => exact ⟨c, r, rfl⟩
        have hc0 : g.cps[(0 : Int).toNat]? = some c := by
          rw [← Array.getElem?_toList, hc]
          rfl
        have hg1 : 1 ≤ g.length := by
          have e1 : g.length = g.cps.toList.length := len_tl g
          rw [e1, hc]
          exact Nat.succ_le_succ (Nat.zero_le _)
        refine ⟨_, rfl, _, 0, c, rfl, rfl, by decide, by decide, by omega, hc0, rfl, _, rfl, ?_⟩
        have hh : decide (g.cps.toList.head? = some 48) = decide (V.str ⟨#[c]⟩ = V.str "0") := by
          rw [hc, Bool.eq_iff_iff, decide_eq_true_iff, decide_eq_true_iff]
          constructor
          · intro e
            have : c = 48 := Option.some.inj e
            rw [this]
            decide +kernel
          · intro e
            have e3 : (⟨#[c]⟩ : Str) = "0" := V.str.inj e
            have e4 : tl (⟨#[c]⟩ : Str) = tl ("0" : Str) := by rw [e3]
            rw [show tl ("0" : Str) = [48] by decide +kernel] at e4
            have : c = 48 := (List.cons.inj (show [c] = [48] from e4)).1
            rw [this]
            rfl
        rw [hh] at hn
        cases hz0 : decide (V.str ⟨#[c]⟩ = V.str "0") with
        | true =>
          rw [hz0] at hn
          refine iteBF rfl ?_
          refine ⟨_, rfl, rfl, ?_⟩
          rw [show decide (V.str st = V.str "0") = decide (st = ("0" : Str)) by rw [Bool.eq_iff_iff, decide_eq_true_iff, decide_eq_true_iff]; exact ⟨V.str.inj, fun e => by rw [e]⟩]
          rw [show ((!false && true) && (!true || decide (st = ("0" : Str)))) = decide (st = ("0" : Str)) by cases decide (st = ("0" : Str)) <;> rfl] at hn
          rw [← hn]
          exact kt
        | false =>
          rw [hz0] at hn
          rw [hn] at kt
          exact iteBT rfl kt
/-! ### _form_of, of any text -/
def spFoX (K : PySem.W.Frag) : Sp := fun vs H Q _ => ∃ t : Str, vs = [.str t] ∧ t.length ≤ 990 ∧ ∀ p H', Same H H' → SqT K H' p ((formS t).map V.int) → Q (.ref p) H'
theorem ok_foX {fU : Addr} {dU : FuncData} (F : FnP K "_form_of" sFo f fd) (T : Mo mg) (FU : FnP K "is_numeral" sNu fU dU) (gU : mg "is_numeral" = some (.ref fU)) : FnOk P w K mg base CX0 2 f fd ["text"] (spFoX K) := by
  have GU : FnOk P w K mg base CX0 1 fU dU ["word"] (spNuX K) := ok_nuX FU T
  have bU : Binds K dU ["word"] [] := FU.bindsN fun _ _ _ _ _ _ us hl => match us, hl with | [_], _ => rfl
  obtain ⟨t1, c1⟩ := T.mnum
  refine F.ok scFo (fun vs H Q E h => ?_) (fun cdv A outer s H vs Q E hr h => ?_)
  · obtain ⟨v, rfl, _⟩ := h
    rfl
  · obtain ⟨t, rfl, hl, k⟩ := h
    refine ⟨_, PSs.nox <| pss_cons (ps_set (i := 1) scFo.nd rfl (.inl rfl) (pe_split (pv 0) pe_str))
      <| pss_cons (ps_set (i := 2) scFo.nd rfl (.inr rfl) (pe_callB call_len_str (by rfl) T.len PySem.boot_len (pa_cons (pe_callTy call_str_int (by rfl) T.str (by decide +kernel) (pa_cons (pe_un un_neg (pe_glob (v := .int 1000000) (by rfl) c1 ⟨_, rfl⟩)) pa_nil)) pa_nil)))
      <| pss_cons (ps_if (pt_not (pt_val (pe_callB (cr_all rfl) (by rfl) T.all (by decide +kernel) (pa_cons (pe_lc (own := [("word", 3)]) (g := gName 3) (tt := tYes) rfl scFo.nd (pi_list (pv 1)) (blkOk_by (N := nFo) (sc := defScope sFo) (by decide +kernel)) (fun _ _ _ _ _ => pg_name (i := 3) scFo.nd rfl (Or.inl rfl)) (fun _ _ _ _ _ => pts_nil)
          (fun _ _ _ _ _ => pe_and (pe_cmpR op_le (pe_callB call_len_str (by rfl) T.len PySem.boot_len (pa_cons (pv 3) pa_nil)) (pv 2) (nomark _)) (pe_one (pe_call GU hr (by rfl) gU FU.kp bU .nil pass0 (pa_cons (pv 3) pa_nil))))) pa_nil)))) (pss_one (ps_ret (pe_tupR pa_nil))) pss_nil)
      <| pss_one (ps_ret (pe_callTy call_tuple_of (by rfl) T.tuple (by decide +kernel) (pa_cons (pe_lc (own := [("word", 3)]) (g := gName 3) (tt := tYes) rfl scFo.nd (pi_list (pv 1)) (blkOk_by (N := nFo) (sc := defScope sFo) (by decide +kernel)) (fun _ _ _ _ _ => pg_name (i := 3) scFo.nd rfl (Or.inl rfl)) (fun _ _ _ _ _ => pts_nil)
          (fun _ _ _ _ _ => pe_callTy call_int_str (by rfl) T.int (by decide +kernel) (pa_cons (pv 3) pa_nil))) pa_nil))), ?_⟩
    have y1 : tl (" " : Str) ≠ [] := by decide +kernel
    have y2 : (" " : Str).cps.all (· < 256) = true := by decide +kernel
    have few := split_few (x := t) y1 y2
    have each : ∀ p ∈ Txt.split t " ", p.length ≤ 990 := fun p hp => Nat.le_trans (split_each y1 y2 hp) hl
    refine ⟨_, rfl, ⟨_, rfl⟩, _, _, rfl, rfl, by decide +kernel, lt6 (by omega), fun l nl => ?_⟩
    have eF : formS t = if (Txt.split t " ").all wordB = true then (Txt.split t " ").map numV else [] := rfl
    generalize Txt.split t " " = wd at few each eF nl ⊢
    generalize hH1 : upd H l (.lst (wd.map V.str)) = H1
    have s1 : Same H H1 := by
      rw [← hH1]
      exact same_new nl
    have e1 : H1 l = some (.lst (wd.map V.str)) := by
      rw [← hH1]
      exact upd_same
    have e8 : (Str.ofString (toString (-1000000 : Int))).length = 8 := by decide +kernel
    refine ⟨1000000, rfl, _, rfl, by decide +kernel, _, rfl, sz9 (by rw [e8]; decide), ?_⟩
    rw [e8]
    have lf : (wd.map V.str).length ≤ 1000 := by
      rw [List.length_map]
      omega
    have hat : ∀ {i : Nat} {x : V}, (wd.map V.str)[i]? = some x → ∃ p : Str, wd[i]? = some p ∧ x = .str p ∧ p.length ≤ 990 := fun {i x} e => by
      obtain ⟨c, ec, rfl⟩ := strs_at e
      exact ⟨c, ec, rfl, each c (List.mem_of_getElem? ec)⟩
    refine ⟨_, rfl, l, rfl, ⟨_, SqL.of e1⟩, lcR (walk_list (xs := wd.map V.str)) (n1 := lf) (fun H' s' => s'.seq (SqL.of e1)) (fun i y _ => ∃ p : Str, wd[i]? = some p ∧ y = .bl (wordB p)) (fun _ _ _ _ _ e => e) ?_ ?_⟩
    · rintro D acc j x Ha Hb K2 hj s nD hD ⟨rfl, ex⟩ kk
      obtain ⟨p, ep, rfl, hp⟩ := hat ex
      refine ⟨rfl, _, rfl, _, rfl, sz9 (by omega), _, rfl, _, _, rfl, rfl, _, rfl, ?_⟩
      by_cases h8 : p.length ≤ 8
      · refine iteDY (by omega) ?_
        exact ⟨_, rfl, p, rfl, by omega, fun Hc sc => kk _ _ sc ⟨p, ep, by unfold wordB; rw [decide_eq_true h8, Bool.true_and]⟩⟩
      · refine iteDN (by omega) ?_
        have z := kk (.bl false) _ (Same.refl _) ⟨p, ep, by unfold wordB; rw [decide_eq_false h8, Bool.false_and]⟩
        exact z
    · rintro D H2 ys nw hlen he
      have ey : ys = (wd.map wordB).map V.bl := by
        rw [List.map_map]
        exact list_map (by rw [hlen, List.length_map]) he
      refine ⟨D, _, rfl, by rw [← ey]; exact SqL.of nw.2.1, _, rfl, ?_⟩
      have eA : (wd.map wordB).all id = wd.all wordB := by
        rw [List.all_map]
        rfl
      rw [eA]
      cases hA : wd.all wordB with
      | false =>
        refine iteT ⟨by show 0 ≤ 1000; decide, fun q H3 n3 => ?_⟩
        rw [hA] at eF
        refine k q H3 (s1.trans (nw.2.2.trans n3.2.2)) ?_
        rw [eF]
        exact SqT.of n3.2.1
      | true =>
      refine iteF ?_
      rw [hA] at eF
      have e2 := nw.2.2 _ _ e1
      refine ⟨_, rfl, l, rfl, ⟨_, SqL.of e2⟩, lcR (walk_list (xs := wd.map V.str)) (n1 := lf) (fun H' s' => s'.seq (SqL.of e2)) (fun i y _ => ∃ p : Str, wd[i]? = some p ∧ y = .int (numV p)) (fun _ _ _ _ _ e => e) ?_ ?_⟩
      · rintro D2 acc j x Ha Hb K2 hj s nD hD ⟨rfl, ex⟩ kk
        obtain ⟨p, ep, rfl, hp⟩ := hat ex
        obtain ⟨w1, w2, w3⟩ := word_num (List.all_eq_true.mp hA p (List.mem_of_getElem? ep))
        exact ⟨rfl, _, rfl, _, _, rfl, w1, by omega, kk _ _ (Same.refl _) ⟨p, ep, rfl⟩⟩
      · rintro D2 H3 zs nw2 hlen2 he2
        have ez : zs = (wd.map numV).map V.int := by
          rw [List.map_map]
          exact list_map (by rw [hlen2, List.length_map]) he2
        subst ez
        refine ⟨D2, _, rfl, .inl ⟨SqL.of nw2.2.1, fun q nq => ?_⟩⟩
        refine k q _ (s1.trans (nw.2.2.trans (nw2.2.2.trans (same_new nq)))) ?_
        rw [eF]
        exact SqT.of upd_same
end
end Pg
set_option Elab.async false
set_option linter.all false
set_option maxRecDepth 100000
set_option maxHeartbeats 16000000
namespace Pg
open PySem PySem.Spec PyProof.Rows L2 Gd Rl Te Nu TL
/-! ### the reader of any text -/
noncomputable def lnX (l : Str) : Option Ln :=
  let w := (Txt.partition l " ").1
  let r := (Txt.partition l " ").2.2
  if V.str w = V.str "vars" then some (.v (Txt.split r " "))
  else if V.str w = V.str "say" then some (.s (Txt.partition r " ").1 (formS (Txt.partition r " ").2.2))
  else if V.str w = V.str "branch" then some (.b (Txt.partition r " ").1 (Txt.partition r " ").2.2)
  else if V.str w = V.str "test" then some (.t (formS r))
  else if V.str w = V.str "then" then some (.e ((Txt.split r "; ").map formS))
  else none
noncomputable def stepX (m : Ms) (l : Str) : Ms := match lnX l with
  | some ln => stepM m ln
  | none => m
noncomputable def readX (t : Str) : Ms := (Txt.split t "\n").foldl stepX m0
theorem cntX_step (m : Ms) (l : Str) : cnt (stepX m l) ≤ cnt m + 1 := by
  unfold stepX
  split
  · exact cnt_step m _
  · omega
theorem cntX_fold (ls : List Str) : ∀ m : Ms, cnt (ls.foldl stepX m) ≤ cnt m + ls.length := by
  induction ls with
  | nil => exact fun m => Nat.le_refl _
  | cons l ls ih =>
    intro m
    rw [List.foldl_cons, List.length_cons]
    have h1 := ih (stepX m l)
    have h2 := cntX_step m l
    omega
/-- a text that is not too long to be read here -/
structure Read (t : Str) : Prop where
  z : t.length ≤ 1000000
  n : (Txt.split t "\n").length ≤ 990
  l : ∀ p ∈ Txt.split t "\n", p.length ≤ 980
section
variable {P : Program} {w : World} {K : PySem.W.Frag} {mg : Str → Option Value} {base : Heap} {f : Addr} {fd : FuncData}
def spPaX (K : PySem.W.Frag) : Sp := fun vs H Q _ => ∃ t : Str, vs = [.str t] ∧ Read t ∧
  ∀ p a b c H', Same H H' → SqT K H' p [.ref a, .ref b, .ref c] → Dp K H' (.ref a) (namesD (readX t).names) → Dp K H' (.ref b) (saysD (readX t).says) → Dp K H' (.ref c) (armsD (readX t).arms) → Q (.ref p) H'
theorem ok_paX {fO fU : Addr} {dO dU : FuncData} (F : FnP K "_parts_of" sPa f fd) (T : Mo mg) (FO : FnP K "_form_of" sFo fO dO) (gO : mg "_form_of" = some (.ref fO)) (FU : FnP K "is_numeral" sNu fU dU) (gU : mg "is_numeral" = some (.ref fU)) : FnOk P w K mg base CX0 3 f fd ["text"] (spPaX K) := by
  have GO : FnOk P w K mg base CX0 2 fO dO ["text"] (spFoX K) := ok_foX FO T FU gU
  have bO : Binds K dO ["text"] [] := FO.bindsN fun _ _ _ _ _ _ us hl => match us, hl with | [_], _ => rfl
  refine F.ok scPa (fun vs H Q E h => ?_) (fun cdv A outer s H vs Q E hr h => ?_)
  · obtain ⟨t, rfl, _⟩ := h
    rfl
  · obtain ⟨t, rfl, ok, k⟩ := h
    refine ⟨_, PSs.nox <| pss_cons (ps_set (i := 1) scPa.nd rfl (.inl rfl) (pe_tupR pa_nil))
      <| pss_cons (ps_set (i := 2) scPa.nd rfl (.inl rfl) (pe_lstR pa_nil))
      <| pss_cons (ps_set (i := 3) scPa.nd rfl (.inl rfl) (pe_lstR pa_nil))
      <| pss_cons (ps_set (i := 4) scPa.nd rfl (.inl rfl) (pe_tupR (pa_cons pe_str (pa_cons pe_str pa_nil))))
      <| pss_cons (ps_set (i := 5) scPa.nd rfl (.inl rfl) (pe_lstR pa_nil))
      <| pss_cons (ps_for PassesOwn.never rfl (pi_list (pe_split (pv 0) pe_str)) (pg_name (i := 6) scPa.nd rfl (.inl rfl))
          (pss_cons (ps_asg (pe_partition (pv 6) pe_str) (pg_tup (by rfl) (pgs_cons (pg_name (i := 7) scPa.nd rfl (.inl rfl)) (pgs_cons (pg_name (i := 8) scPa.nd rfl (.inl rfl)) (pgs_cons (pg_name (i := 9) scPa.nd rfl (.inl rfl)) pgs_nil)))))
          <| pss_one (ps_if (pt_cmpR op_eq (pv 7) pe_str (nomark _))
              (pss_one (ps_set (i := 1) scPa.nd rfl (.inl rfl) (pe_callTy call_tuple_of (by rfl) T.tuple (by decide +kernel) (pa_cons (pe_split (pv 9) pe_str) pa_nil))))
              (pss_one (ps_if (pt_cmpR op_eq (pv 7) pe_str (nomark _))
                (pss_cons (ps_asg (pe_partition (pv 9) pe_str) (pg_tup (by rfl) (pgs_cons (pg_name (i := 10) scPa.nd rfl (.inl rfl)) (pgs_cons (pg_name (i := 8) scPa.nd rfl (.inl rfl)) (pgs_cons (pg_name (i := 11) scPa.nd rfl (.inl rfl)) pgs_nil)))))
                <| pss_one (ps_expr (pe_bm PySem.F.plainAttrs_list PySem.F.slot_list_append PySem.F.type_list_append mt_append (pv 2) (pa_cons (pe_tupR (pa_cons (pv 10) (pa_cons (pe_call GO hr (by rfl) gO FO.kp bO .nil pass0 (pa_cons (pv 11) pa_nil)) pa_nil))) pa_nil))))
                (pss_one (ps_if (pt_cmpR op_eq (pv 7) pe_str (nomark _))
                  (pss_cons (ps_asg (pe_partition (pv 9) pe_str) (pg_tup (by rfl) (pgs_cons (pg_name (i := 12) scPa.nd rfl (.inl rfl)) (pgs_cons (pg_name (i := 8) scPa.nd rfl (.inl rfl)) (pgs_cons (pg_name (i := 13) scPa.nd rfl (.inl rfl)) pgs_nil)))))
                  <| pss_cons (ps_set (i := 4) scPa.nd rfl (.inl rfl) (pe_tupR (pa_cons (pv 12) (pa_cons (pv 13) pa_nil))))
                  <| pss_one (ps_set (i := 5) scPa.nd rfl (.inl rfl) (pe_lstR pa_nil)))
                  (pss_one (ps_if (pt_cmpR op_eq (pv 7) pe_str (nomark _))
                    (pss_one (ps_expr (pe_bm PySem.F.plainAttrs_list PySem.F.slot_list_append PySem.F.type_list_append mt_append (pv 5) (pa_cons (pe_call GO hr (by rfl) gO FO.kp bO .nil pass0 (pa_cons (pv 9) pa_nil)) pa_nil))))
                    (pss_one (ps_if (pt_cmpR op_eq (pv 7) pe_str (nomark _))
                      (pss_cons (ps_setLc (i := 14) (own := [("part", 15)]) (g := gName 15) (tt := tYes) rfl scPa.nd rfl rfl (sw_true rfl rfl rfl (by decide +kernel)) (pi_list (pe_split (pv 9) pe_str)) (blkOk_by (N := nPa) (sc := defScope sPa) (by decide +kernel)) (fun _ _ _ _ _ => pg_name (i := 15) scPa.nd rfl (Or.inl rfl)) (fun _ _ _ _ _ => pts_nil)
                          (fun _ _ _ _ _ => pe_call GO hr (by rfl) gO FO.kp bO .nil pass0 (pa_cons (pv 15) pa_nil)))
                      <| pss_one (ps_expr (pe_bm PySem.F.plainAttrs_list PySem.F.slot_list_append PySem.F.type_list_append mt_append (pv 3) (pa_cons (pe_tupR (StX.pa_star (pv 4) (pa_cons (pe_callTy call_tuple_of (by rfl) T.tuple (by decide +kernel) (pa_cons (pv 5) pa_nil)) (pa_cons (pe_callTy call_tuple_of (by rfl) T.tuple (by decide +kernel) (pa_cons (pv 14) pa_nil)) pa_nil)))) pa_nil))))
                      pss_nil)))))))))))
      <| pss_one (ps_ret (pe_tupR (pa_cons (pv 1) (pa_cons (pe_callTy call_tuple_of (by rfl) T.tuple (by decide +kernel) (pa_cons (pv 2) pa_nil)) (pa_cons (pe_callTy call_tuple_of (by rfl) T.tuple (by decide +kernel) (pa_cons (pv 3) pa_nil)) pa_nil))))), ?_⟩
    refine ⟨(show 0 ≤ 1000 by decide), fun a H1 n1 => ⟨(show 0 ≤ 1000 by decide), fun l1 H2 n2 => ⟨(show 0 ≤ 1000 by decide), fun l2 H3 n3 => ⟨(show 2 ≤ 1000 by decide), fun e H4 n4 => ⟨(show 0 ≤ 1000 by decide), fun l3 H5 n5 => ?_⟩⟩⟩⟩⟩
    have s45 := n5.2.2
    have s35 := n4.2.2.trans s45
    have s25 := n3.2.2.trans s35
    have s15 := n2.2.2.trans s25
    have s05 := n1.2.2.trans s15
    have y1 : tl (" " : Str) ≠ [] := by decide +kernel
    have y2 : (" " : Str).cps.all (· < 256) = true := by decide +kernel
    have y3 : tl ("; " : Str) ≠ [] := by decide +kernel
    have y4 : ("; " : Str).cps.all (· < 256) = true := by decide +kernel
    refine ⟨_, rfl, ⟨_, rfl⟩, _, _, rfl, rfl, by decide +kernel, lt6 ok.z, fun lL nL => ?_⟩
    have llen := ok.n
    have each := ok.l
    have eR : readX t = (Txt.split t "\n").foldl stepX m0 := rfl
    generalize Txt.split t "\n" = LS at llen each eR nL ⊢
    have z1 : H l1 = none := none_of_same n1.2.2 n2.1
    have z2 : H l2 = none := none_of_same (n1.2.2.trans n2.2.2) n3.1
    have z3 : H l3 = none := none_of_same (n1.2.2.trans (n2.2.2.trans (n3.2.2.trans n4.2.2))) n5.1
    have v1 := s25 _ _ n2.2.1
    have v2 := s35 _ _ n3.2.1
    have v3 := n5.2.1
    have r0 : RepS K H (upd H5 lL (.lst (LS.map V.str))) m0 a l1 l2 e l3 lL LS := by
      have sN := same_new (o := .lst (LS.map V.str)) nL
      exact ⟨s05.trans sN, SqT.of (sN _ _ (s15 _ _ n1.2.1)), ⟨z1, _, sN _ _ v1, .nil⟩, ⟨z2, _, sN _ _ v2, .nil⟩, SqT.of (sN _ _ (s45 _ _ n4.2.1)), ⟨z3, _, sN _ _ v3, .nil⟩, upd_same,
        ne_of_none n2.2.1 n3.1, ne_of_none (n4.2.2 _ _ (n3.2.2 _ _ n2.2.1)) n5.1, ne_of_none (n4.2.2 _ _ n3.2.1) n5.1, (ne_of_none v1 nL).symm, (ne_of_none v2 nL).symm, (ne_of_none v3 nL).symm⟩
    generalize upd H5 lL (.lst (LS.map V.str)) = H6 at r0
    refine ⟨lL, rfl, ⟨_, SqL.of r0.ll⟩, for_list (xs := LS.map V.str) (fun i σ H' => ∃ a l1 l2 e l3 x6 x7 x8 x9 x10 x11 x12 x13 x14 x15, σ = [some (.str t), some (.ref a), some (.ref l1), some (.ref l2), some (.ref e), some (.ref l3), x6, x7, x8, x9, x10, x11, x12, x13, x14, x15] ∧ RepS K H H' ((LS.take i).foldl stepX m0) a l1 l2 e l3 lL LS) ⟨_, _, _, _, _, _, _, _, _, _, _, _, _, _, _, rfl, r0⟩ (fun i σ H' _ ⟨_, _, _, _, _, _, _, _, _, _, _, _, _, _, _, _, r⟩ => SqL.of r.ll) ?_ ?_⟩
    · rintro i x σ H7 ex ⟨a, l1, l2, e, l3, x6, x7, x8, x9, x10, x11, x12, x13, x14, x15, rfl, r⟩
      obtain ⟨ln, eln, rfl⟩ := strs_at ex
      have ef : (LS.take (i + 1)).foldl stepX m0 = stepX ((LS.take i).foldl stepX m0) ln := by
        rw [List.take_add_one, eln, List.foldl_append]
        rfl
      rw [ef]
      have hlen := each ln (List.mem_of_getElem? eln)
      have hcnt := cntX_fold (LS.take i) m0
      rw [List.length_take] at hcnt
      have hc0 : cnt m0 = 0 := rfl
      generalize (LS.take i).foldl stepX m0 = m at r hcnt ⊢
      have hcm : cnt m ≤ 990 := by omega
      unfold cnt at hcm
      clear ef eln ex
      refine ⟨_, rfl, ⟨_, rfl⟩, _, _, rfl, rfl, by decide +kernel, le6 (by omega), fun p np => ?_⟩
      obtain ⟨hw, hrest⟩ := part_each (x := ln) y1
      have eX : stepX m ln = match lnX ln with
        | some q => stepM m q
        | none => m := rfl
      unfold lnX at eX
      generalize Txt.partition ln " " = pt at hw hrest np eX ⊢
      obtain ⟨w, sp, rt⟩ := pt
      dsimp only at hw hrest np eX ⊢
      refine ⟨p, _, rfl, SqT.of upd_same, rfl, _, _, rfl, _, _, rfl, _, _, rfl, rfl, ?_⟩
      have r1 := r.same (same_new (o := .tup [.str w, .str sp, .str rt]) np)
      generalize upd H7 p (.tup [.str w, .str sp, .str rt]) = H8 at r1
      clear np r H7
      rw [eX]
      clear eX
      refine ⟨_, rfl, rfl, _, rfl, ?_⟩
      by_cases c1 : V.str w = V.str "vars"
      · rw [if_pos c1]
        refine iteDY c1 ?_
        refine ⟨_, rfl, ⟨_, rfl⟩, _, _, rfl, rfl, by decide +kernel, lt6 (by omega), fun q nq => ?_⟩
        refine ⟨q, _, rfl, .inl ⟨SqL.of upd_same, fun q2 nq2 => ?_⟩⟩
        refine ⟨_, _, _, _, _, _, _, _, _, _, _, _, _, _, _, rfl, ?_⟩
        have r2 := r1.same ((same_new nq).trans (same_new (o := .tup ((Txt.split rt " ").map V.str)) nq2))
        exact ⟨r2.s, SqT.of upd_same, r2.d1, r2.d2, r2.se, r2.d3, r2.ll, r2.n12, r2.n13, r2.n23, r2.nL1, r2.nL2, r2.nL3⟩
      rw [if_neg c1]
      refine iteDN c1 ?_
      refine ⟨_, rfl, rfl, _, rfl, ?_⟩
      by_cases c2 : V.str w = V.str "say"
      · rw [if_pos c2]
        refine iteDY c2 ?_
        refine ⟨_, rfl, ⟨_, rfl⟩, _, _, rfl, rfl, by decide +kernel, le6 (by omega), fun q nq => ?_⟩
        obtain ⟨hp1, hp2⟩ := part_each (x := rt) y1
        generalize Txt.partition rt " " = pr at hp1 hp2 nq ⊢
        obtain ⟨pl, sp2, nb⟩ := pr
        dsimp only at hp1 hp2 nq ⊢
        refine ⟨q, _, rfl, SqT.of upd_same, rfl, _, _, rfl, _, _, rfl, _, _, rfl, rfl, ?_⟩
        have r2 := r1.same (same_new (o := .tup [.str pl, .str sp2, .str nb]) nq)
        generalize upd H8 q (.tup [.str pl, .str sp2, .str nb]) = H9 at r2
        obtain ⟨X1, hX1, hD1⟩ := r2.d1.x
        have l1n := dp_len hD1
        rw [List.length_map] at l1n
        refine ⟨_, rfl, .inl ⟨rfl, _, SqL.of hX1⟩, _, rfl, _, rfl, nb, rfl, by omega, fun p3 H10 s10 hp3 => ⟨(show 2 ≤ 1000 by decide), fun q4 H11 n11 => ?_⟩⟩
        have s911 := s10.trans n11.2.2
        have r3 := r2.same s911
        refine ⟨l1, _, _, rfl, rfl, s911 _ _ hX1, small1000 (by omega), ?_⟩
        refine ⟨_, _, _, _, _, _, _, _, _, _, _, _, _, _, _, rfl, ?_⟩
        exact r3.put1 (s911 _ _ hX1) (.tup (SqT.of n11.2.1) (.cons (.str _) (.cons (dp_ints (Same.seqT n11.2.2 hp3)) .nil)))
      rw [if_neg c2]
      refine iteDN c2 ?_
      refine ⟨_, rfl, rfl, _, rfl, ?_⟩
      by_cases c3 : V.str w = V.str "branch"
      · rw [if_pos c3]
        refine iteDY c3 ?_
        refine ⟨_, rfl, ⟨_, rfl⟩, _, _, rfl, rfl, by decide +kernel, le6 (by omega), fun q nq => ?_⟩
        generalize Txt.partition rt " " = pr at nq ⊢
        obtain ⟨sr, sp2, tg⟩ := pr
        dsimp only at nq ⊢
        refine ⟨q, _, rfl, SqT.of upd_same, rfl, _, _, rfl, _, _, rfl, _, _, rfl, rfl, ?_⟩
        have r2 := r1.same (same_new (o := .tup [.str sr, .str sp2, .str tg]) nq)
        generalize upd H8 q (.tup [.str sr, .str sp2, .str tg]) = H9 at r2
        refine ⟨_, rfl, _, rfl, (show 2 ≤ 1000 by decide), fun e2 H10 n10 => ⟨(show 0 ≤ 1000 by decide), fun l4 H11 n11 => ?_⟩⟩
        refine ⟨_, _, _, _, _, _, _, _, _, _, _, _, _, _, _, rfl, ?_⟩
        have r3 := r2.same n10.2.2
        have r4 := r3.same n11.2.2
        obtain ⟨X1, hX1, hD1⟩ := r3.d1.x
        obtain ⟨X2, hX2, hD2⟩ := r3.d2.x
        exact ⟨r4.s, r4.na, r4.d1, r4.d2, SqT.of (n11.2.2 _ _ n10.2.1), ⟨none_of_same r3.s n11.1, _, n11.2.1, .nil⟩, r4.ll, r4.n12, ne_of_none hX1 n11.1, ne_of_none hX2 n11.1, r4.nL1, r4.nL2, ne_of_none r3.ll n11.1⟩
      rw [if_neg c3]
      refine iteDN c3 ?_
      refine ⟨_, rfl, rfl, _, rfl, ?_⟩
      by_cases c4 : V.str w = V.str "test"
      · rw [if_pos c4]
        refine iteDY c4 ?_
        obtain ⟨X3, hX3, hD3⟩ := r1.d3.x
        have l3n := dp_len hD3
        rw [List.length_map] at l3n
        refine ⟨_, rfl, .inl ⟨rfl, _, SqL.of hX3⟩, _, rfl, rt, rfl, by omega, fun p3 H10 s10 hp3 => ?_⟩
        have r3 := r1.same s10
        refine ⟨l3, _, _, rfl, rfl, s10 _ _ hX3, small1000 (by omega), ?_⟩
        refine ⟨_, _, _, _, _, _, _, _, _, _, _, _, _, _, _, rfl, ?_⟩
        exact r3.put3 (s10 _ _ hX3) (dp_ints hp3)
      rw [if_neg c4]
      refine iteDN c4 ?_
      refine ⟨_, rfl, rfl, _, rfl, ?_⟩
      by_cases c5 : V.str w = V.str "then"
      · rw [if_pos c5]
        refine iteDY c5 ?_
        refine ⟨_, rfl, ⟨_, rfl⟩, _, _, rfl, rfl, by decide +kernel, lt6 (by omega), fun q nq => ?_⟩
        have pfew := split_few (x := rt) y3 y4
        have peach : ∀ p ∈ Txt.split rt "; ", p.length ≤ 990 := fun p hp => Nat.le_trans (split_each y3 y4 hp) (by omega)
        generalize Txt.split rt "; " = ps at pfew peach nq ⊢
        have hq : (upd H8 q (.lst (ps.map V.str))) q = some (.lst (ps.map V.str)) := upd_same
        have r2 := r1.same (same_new (o := .lst (ps.map V.str)) nq)
        generalize upd H8 q (.lst (ps.map V.str)) = H9 at r2 hq
        refine ⟨q, rfl, ⟨_, SqL.of hq⟩, lcR (walk_list (xs := ps.map V.str)) (n1 := by rw [List.length_map]; omega) (fun H' s' => s'.seq (SqL.of hq)) (fun i y Hc => ∃ g, ps[i]? = some g ∧ Dp K Hc y (fD (formS g))) (fun i y Ha Hb s ⟨g, e1, e2⟩ => ⟨g, e1, dp_same s _ e2⟩) ?_ ?_⟩
        · rintro D acc j x Ha Hb K2 hj s nD hD ⟨rfl, ex⟩ kk
          obtain ⟨c, ec, rfl⟩ := strs_at ex
          exact ⟨rfl, _, rfl, c, rfl, peach c (List.mem_of_getElem? ec), fun p3 Hc sc hp3 => kk _ _ sc ⟨c, ec, dp_ints (seqT_del (sc _ _ hD) hp3)⟩⟩
        · rintro D H10 ys n10 hlen he
          have hys : DpAll K H10 ys ((ps.map formS).map fD) := by
            refine dp_of (by rw [hlen, List.length_map, List.length_map, List.length_map]) fun j y ey => ?_
            obtain ⟨g, e1, e2⟩ := he j y ey
            exact ⟨fD (formS g), by rw [List.getElem?_map, List.getElem?_map, e1]; rfl, dp_same del_same _ e2⟩
          have r3 := r2.same n10.2.2
          obtain ⟨X2, hX2, hD2⟩ := r3.d2.x
          obtain ⟨X3, hX3, hD3⟩ := r3.d3.x
          have l2n := dp_len hD2
          rw [List.length_map] at l2n
          refine ⟨_, rfl, .inl ⟨rfl, _, SqL.of hX2⟩, _, rfl, e, _, rfl, .inl r3.se, _, rfl, l3, _, rfl, .inl ⟨SqL.of hX3, fun q1 nq1 => ?_⟩⟩
          have t1 := same_new (o := .tup X3) nq1
          refine ⟨_, rfl, D, _, rfl, .inl ⟨SqL.of (t1 _ _ n10.2.1), fun q2 nq2 => ?_⟩⟩
          have t2 := same_new (o := .tup ys) nq2
          refine ⟨(show 4 ≤ 1000 by decide), fun q3 H12 n12 => ?_⟩
          have t23 := t2.trans n12.2.2
          have t13 := t1.trans t23
          have r4 := r3.same t13
          refine ⟨l2, _, _, rfl, rfl, t13 _ _ hX2, small1000 (by omega), ?_⟩
          refine ⟨_, _, _, _, _, _, _, _, _, _, _, _, _, _, _, rfl, ?_⟩
          exact r4.put2 (t13 _ _ hX2) (.tup (SqT.of n12.2.1) (.cons (.str _) (.cons (.str _) (.cons (.tup (SqT.of (t23 _ _ upd_same)) (dp_sameAll t13 _ hD3)) (.cons (.tup (SqT.of (n12.2.2 _ _ upd_same)) (dp_sameAll t13 _ hys)) .nil)))))
      rw [if_neg c5]
      refine iteDN c5 ?_
      exact ⟨_, _, _, _, _, _, _, _, _, _, _, _, _, _, _, rfl, r1⟩
    · rintro σ H7 ⟨a, l1, l2, e, l3, x6, x7, x8, x9, x10, x11, x12, x13, x14, x15, rfl, r⟩
      rw [List.length_map, List.take_length, ← eR] at r
      obtain ⟨X1, hX1, hD1⟩ := r.d1.x
      obtain ⟨X2, hX2, hD2⟩ := r.d2.x
      refine ⟨_, rfl, _, rfl, l1, _, rfl, .inl ⟨SqL.of hX1, fun q1 nq1 => ?_⟩⟩
      have t1 := same_new (o := .tup X1) nq1
      refine ⟨_, rfl, l2, _, rfl, .inl ⟨SqL.of (t1 _ _ hX2), fun q2 nq2 => ?_⟩⟩
      have t2 := same_new (o := .tup X2) nq2
      refine ⟨(show 3 ≤ 1000 by decide), fun q H8 n8 => ?_⟩
      have t12 := t2.trans n8.2.2
      have t02 := t1.trans t12
      exact k q a q1 q2 H8 (r.s.trans t02) (SqT.of n8.2.1) (dp_names (Same.seqT t02 r.na)) (.tup (SqT.of (t12 _ _ upd_same)) (dp_sameAll t02 _ hD1)) (.tup (SqT.of (n8.2.2 _ _ upd_same)) (dp_sameAll t02 _ hD2))
end
end Pg
set_option Elab.async false
set_option linter.all false
set_option maxRecDepth 100000
set_option maxHeartbeats 8000000
namespace Hy
open PySem PySem.Spec PyProof.Rows L2 L2H Gd Rl Fx
/-! own errors over an own base, raised; the caught one asked; defs called where one is handled -/
section
variable {X : Cx} {pins : List (Addr × Obj)} {σ : L2.St} {H : Hp} {s : Shared} {B newId initId : String} {bmB : List Value} {C W fI : Addr} {f : Str} {k : Nat}
/-- an error is made: what stands then -/
theorem made_raw (Z : Root B newId initId bmB) (T : Err1 X.prog X.K X.mg newId initId bmB C W fI f) (hr : X.A.depth + 3 * (k + 1) + 5 < recursionLimit) (I : Inv X pins σ H s) {y : V} {u : Value} (ry : RelV y u) {P : Value → Shared → Prop}
    (h : ∀ (h' : Heap) (tk' : Nat) (a d t1 : Addr) (mA : Str → Option Value), (∀ b o, s.heap.get? b = some o → h'.get? b = some o) → s.heap.objs.size ≤ a → s.heap.objs.size ≤ d → d ≠ a → h'.get? a = some (excD C t1 (some d)) → h'.Ns1 d mA →
      (∀ g, RelO (([(f, y)] : List (Str × V)).lookup g) (mA g)) → P (.ref a) { s with heap := h', toks := tk' }) :
    wpAny (model X.prog X.w) X.A (call (.ref C) [u] []) P X.xe s := by
  obtain ⟨nm, q, N, bs, sn, sub, ab, col, dd, k0, k1, k2, k3, k5, hC⟩ := T.t.cls
  obtain ⟨hp, g, dr, tk, os⟩ := s
  have kk : ∀ b o, hp.get? b = some o → ((hp.push (PySem.W.kdv_tup [u])).push (PySem.HandSPX.excO C hp.objs.size)).get? b = some o := fun b o e => Heap.get?_push_of_some _ (Heap.get?_push_of_some _ e)
  have hget : ((hp.push (PySem.W.kdv_tup [u])).push (PySem.HandSPX.excO C hp.objs.size)).get? (hp.objs.size + 1) = some (PySem.HandSPX.excO C hp.objs.size) := by heap_get
  have hz : [u].length ≤ sizeLine := by
    rw [sizeLine_eq]
    show 1 ≤ 16777216
    decide
  have nb : X.base.get? (hp.objs.size + 1) = none := by
    cases e : X.base.get? (hp.objs.size + 1) with
    | none => rfl
    | some o =>
      have z : hp.get? (hp.objs.size + 1) = some o := I.bk _ _ e
      exact absurd (Nat.lt_of_succ_lt (Heap.lt_size z)) (Nat.lt_irrefl _)
  refine wpAny_call (kw_call Z.fb (hT_of Z W) (I.kIn _ _ hC) (PySem.W.looks_findIn I.kIn T.t.iC) (fun self => PySem.W.bind_fn I.kIn self T.t.tI) hz ?_)
  refine init1 (s := ⟨(hp.push (PySem.W.kdv_tup [u])).push (PySem.HandSPX.excO C hp.objs.size), g, dr, tk, os⟩) Z T.t I.ok.mod (fun b o e => kk b o (I.bk b o e)) T.ff T.no T.n (.inl rfl) hget nb ?_ fun h' tk' dx t1 k1 e1 dn dne hn => ?_
  · rw [make_depth]
    have := hr
    omega
  · have old : ∀ b o, hp.get? b = some o → h'.get? b = some o := fun b o e => k1 b o (Nat.ne_of_lt (Nat.lt_succ_of_lt (Heap.lt_size e))) (kk b o e)
    have sz : hp.objs.size ≤ dx := by
      have z : ((hp.push (PySem.W.kdv_tup [u])).push (PySem.HandSPX.excO C hp.objs.size)).objs.size ≤ dx := dn
      rw [Heap.size_push, Heap.size_push] at z
      omega
    exact ⟨rfl, h _ _ _ _ _ _ old (Nat.le_succ _) sz dne e1 hn (relO_put (fs := []) (mA := fun _ => none) ry fun g => True.intro)⟩
/-- such an error as one that is raised: it is let go, its dict stands -/
theorem made_mk (I : Inv X pins σ H s) (rz : Raises X (.ref C)) {h' : Heap} {tk' : Nat} {a d t1 : Addr} {mA : Str → Option Value} {fs : List (Str × V)} {Q : XK} (old : ∀ b o, s.heap.get? b = some o → h'.get? b = some o) (sa : s.heap.objs.size ≤ a) (sd : s.heap.objs.size ≤ d) (ne : d ≠ a)
    (ea : h'.get? a = some (excD C t1 (some d))) (hn : h'.Ns1 d mA) (rel : ∀ g, RelO (fs.lookup g) (mA g)) (q : ∀ d, H d = none → Q (.ref C) (some d) (upd H d (.xd fs))) : MkP X pins σ Q (.ref a) { s with heap := h', toks := tk' } := by
  obtain ⟨G, g1, g2⟩ := restrict h' fun b => decide (b ≠ a)
  have gk : ∀ b, b ≠ a → G.get? b = h'.get? b := fun b hb => g1 b (decide_eq_true hb)
  have ge : G.get? a = none := g2 a (by simp)
  have na : H a = none := I.hok.fresh sa
  have nd : H d = none := I.hok.fresh sd
  have kG : ∀ b o, G.get? b = some o → h'.get? b = some o := fun b o e => by
    rcases Classical.em (b = a) with z | z
    · rw [z, ge] at e
      cases e
    · exact (gk b z).symm.trans e
  have oG : ∀ b o, s.heap.get? b = some o → G.get? b = some o := fun b o e => (gk b (Nat.ne_of_lt (Nat.lt_of_lt_of_le (Heap.lt_size e) sa))).trans (old b o e)
  have J : Inv X pins σ (upd H d (.xd fs)) { s with heap := G, toks := tk' } := by
    refine I.laid (t' := tk') (a := d) (o := .xd fs) (h' := G) oG sd ?_
    obtain ⟨o, es, ep, e1, e2⟩ := hn
    exact ⟨mA, ⟨o, es, ep, (gk d ne).trans e1, e2⟩, rel⟩
  exact ⟨a, _, _, { s with heap := G, toks := tk' }, _, .ref C, some d, rfl, J, kG, ge, ea, ⟨rfl, rfl⟩, rfl, rfl, by rw [upd_ne (Ne.symm ne)]; exact na, rfl, I.bare, rz, q d nd⟩
theorem pmk_err {x : Str} {e : Expr} {te : TE} {p pos : Pos} (Z : Root B newId initId bmB) (T : Err1 X.prog X.K X.mg newId initId bmB C W fI f) (rz : Raises X (.ref C)) (hr : Room (k + 1) X.A) (gC : X.mg x = some (.ref C)) (hg : Gl X x) (he : PE X e te)
    (hs : starEach [e] X.env = (false, eval e X.env) :: starEach [] X.env := by rfl) (hdb : (x == ("__debug__" : Str)) = false := by decide) :
    PMk X (.Call (.Name x p) [e] [] pos) (fun σ H Q => te σ H fun y H1 => ∀ d, H1 d = none → Q (.ref C) (some d) (upd H1 d (.xd [(f, y)]))) := by
  intro pins s σ H Q I h
  refine wpAny_Call_Name_kw (ld_glob I hg gC ?_ hdb)
  refine PySem.W.callWith_K (h₀ := X.base) I.ok.mod.kin T.t.kC ?_ hs (by rfl)
  rw [hs]
  refine Calls.spliced_cons (thn (he.run pins s σ H _ I h) fun u s1 ⟨y, H1, I1, r1, q1⟩ => ?_)
  refine Calls.spliced_nil ⟨I1.kIn, ?_⟩
  exact made_raw Z T hr.dp I1 r1 fun h' tk' a d t1 mA old sa sd ne ea hn rel => made_mk I1 rz old sa sd ne ea hn rel q1
end
/-! ### the caught error is asked -/
section
variable {X : Cx} {pins : List (Addr × Obj)} {σ : L2.St} {H : Hp} {s : Shared} {a C dd : Addr} {oe : Obj}
theorem inst_pin {fs : List (Str × V)} (I : Inv X pins σ H s) (hp : (a, oe) ∈ X.pn) (hz : Zc (.ref C) (some dd) oe) (hf : ∃ vs, oe.data = .fields vs) (ed : H dd = some (.xd fs)) :
    ∃ (od : Obj) (mA : Str → Option Value), PySem.W.InstAt s.heap a oe C (some od) ∧ (∀ n, PySem.W.lookIn n od = some (mA n)) ∧ ∀ g, RelO (fs.lookup g) (mA g) := by
  obtain ⟨ha, _⟩ := I.pin (a, oe) (List.mem_append_left _ hp)
  obtain ⟨vs, hd⟩ := hf
  have hx : ObjOk X.prog X.w H s.heap dd (.xd fs) := I.hok dd _ ed
  obtain ⟨mA, hns, hr⟩ := hx
  obtain ⟨od, ho, hl⟩ := lookIn_ns hns
  exact ⟨od, mA, ⟨ha, hz.1, by unfold PySem.W.notCls; rw [hd] <;> rfl, by rw [hz.2]; exact ho⟩, hl, hr⟩
/-- isinstance(e, c), e the error that is handled -/
def rIsP (K : PySem.W.Frag) (a C dd : Addr) : List V → Hp → VK → Prop := fun xs H Q => ∃ (c : V) (u : Value) (b : Bool) (fs : List (Str × V)), xs = [.ref a, c] ∧ ClsV c u ∧ H dd = some (.xd fs) ∧ PySem.W.kitOne K (.ref C) u = some b ∧ Q (.bl b) H
theorem call_isP (hp : (a, oe) ∈ X.pn) (hz : Zc (.ref C) (some dd) oe) (hf : ∃ vs, oe.data = .fields vs) (T : IsC X.K C) : CallR X (.builtin "isinstance") (rIsP X.K a C dd) := by
  intro pins s σ H xs us Q I r h
  obtain ⟨c, u, b, fs, rfl, kc, ed, e, q⟩ := h
  obtain ⟨u1, u2, rfl, r1, r2⟩ := vals2 r
  have e2 := kc.eq r2
  subst e2
  cases (show u1 = Value.ref a from r1)
  obtain ⟨od, mA, J, _⟩ := inst_pin I hp hz hf ed
  exact PySem.W.kia_one (PySem.W.kitx_exc (gt := none) T.cl T.ga T.gg T.ex T.ha T.hn T.ht T.hm) I.kIn J e (fun z => nomatch z) fun tk => ⟨.bl b, H, I.tok tk, rfl, q⟩
/-- e.f, e the error that is handled -/
def tXp (a dd : Addr) (f : Str) (te : TE) : TE := fun σ H Q => te σ H fun x H1 => ∃ (fs : List (Str × V)) (v : V), x = .ref a ∧ H1 dd = some (.xd fs) ∧ fs.lookup f = some v ∧ Q v H1
theorem pe_xp {e : Expr} {te : TE} {pos : Pos} {n : Str} (T : XfC X.K C) (hno : PySem.W.findIn X.K (.ref C) n = some none) (hp : (a, oe) ∈ X.pn) (hz : Zc (.ref C) (some dd) oe) (hf : ∃ vs, oe.data = .fields vs) (he : PE X e te)
    (hb : attributeBase e n X.env (eval e X.env) = eval e X.env := by rfl) : PE X (.Attribute e n pos) (tXp a dd n te) := by
  refine ⟨fun pins s σ H Q I h => ?_⟩
  refine attr_of hb (thn (he.run pins s σ H _ I h) fun u s1 hh => ?_)
  obtain ⟨x, H1, I1, rx, fs, v, ex, ed, l, q⟩ := hh
  subst ex
  obtain rfl : u = Value.ref a := rx
  obtain ⟨od, mA, J, hl, hr⟩ := inst_pin I1 hp hz hf ed
  obtain ⟨u, hu, ru⟩ := RelO.some_of (v := v) (o := mA n) (by rw [← l]; exact hr n)
  exact HandSPX.exc_get I1.kIn J T.ga T.gg T.exC (PySem.W.findObj_own T.hdC hno rfl (by rw [hl, hu])) (handed_of ru) ⟨v, H1, I1.tok _, ru, q⟩
end
/-! ### a def called where an error is handled -/
structure FnQ (P : Program) (w : World) (K : PySem.W.Frag) (mg : Str → Option Value) (base : Heap) (k : Nat) (f : Addr) (fd : FuncData) (ps : List Str) (sp : Addr → Value → Option Addr → Sp) : Prop where
  len : ∀ a c d vs H Q E, sp a c d vs H Q E → vs.length = ps.length
  run : ∀ (A : Around) (outer : List Env) (s : Shared) (H : Hp) (args : Args) (us : List Value) (vs : List V) (Q : VK) (E : XK) (a : Addr) (oe : Obj) (c : Value) (d : Option Addr), A.guards = some [] → RoomH k A → PinOk outer H s (a, oe) → Zc c d oe → (∃ fs, oe.data = .fields fs) →
    Env0 P w K mg base A outer s H → BindsTo s fd args (ps.zip us) → Vals vs us → sp a c d vs H Q E → codeAny (model P w) A (.call (.ref f) args) (CR CX0 outer P w H s Q E) s
section
variable {P : Program} {w : World} {K : PySem.W.Frag} {mg : Str → Option Value} {base : Heap} {x qual : Str} {params : Arguments} {body : List Stmt} {scope : Scope} {dvs : List V} {kws : List (Str × V)} {f : Addr} {fd : FuncData}
theorem okQ {N ps : List Str} {k : Nat} {sp : Addr → Value → Option Addr → Sp} (F : FunD K x qual params body scope dvs kws f fd) (S : FnScope N ps scope) (len : ∀ a c d vs H Q E, sp a c d vs H Q E → vs.length = ps.length)
    (hbody : ∀ (cdv : Value) (A : Around) (outer : List Env) (s : Shared) (H : Hp) (vs : List V) (Q : VK) (E : XK) (a : Addr) (oe : Obj) (c : Value) (d : Option Addr), (A.deeper (envOfC qual scope s.heap.objs.size f cdv)).guards = some [] → RoomH k (A.deeper (envOfC qual scope s.heap.objs.size f cdv)) → Zc c d oe → (∃ fs, oe.data = .fields fs) → sp a c d vs H Q E →
      ∃ t, PSs (cxH CX0 P w K mg base N qual scope f cdv A outer s H E (a, oe)) body t ∧ t { nx := fun _ H' => Q .non H', rt := Q } (L2.start N vs) H) : FnQ P w K mg base (k + 1) f fd ps sp := by
  obtain ⟨oc, od, dV, kV, doc, pm, an, cdv, ct, osl, rfl, lk, hcd, _, _⟩ := F.ex
  refine ⟨len, fun A outer s H args us vs Q E a oe c d hgd hr hpin hz hf e0 hb r hsp => ?_⟩
  have hlv := len _ _ _ _ _ _ _ hsp
  have KX : K.In s.heap := e0.mod.kin.keeps fun b o e => (e0.bs b o e).1
  have lim : s.heap.NoLimit := e0.mod.nolimit.keeps fun b o e => (e0.bs b o e).1
  have hkd : ∀ y ∈ ps.zip us, scope.names.lookup y.1 = some .local ∨ (scope.names.lookup y.1 = some .cell ∧ ((cellsFrom (s.heap.objs.size + 1) scope.names []).lookup y.1).isSome = true) := fun ⟨n, v⟩ hy => by
    rcases S.par n (List.of_mem_zip hy).1 with q | q
    · exact .inl q
    · exact .inr ⟨q, PySem.W.cellsFrom_some _ _ _ (.inl q)⟩
  refine codeAny_call_function hr.depth (KX _ _ lk) rfl S.co S.gen rfl (PySem.W.codeRec_of KX hcd) (hb _ _ _ _ ?_)
  refine wpAny_newFunctionEnv_cells S.kind hkd fun env he s1 z => ?_
  subst he
  refine ⟨lim.keeps z.toInCall.keep, codeAny_func ?_⟩
  obtain ⟨t, ht, hq⟩ := hbody cdv A outer s H vs Q E a oe c d (deeper_guards hgd) (hr.deeper _) hz hf hsp
  have I : Inv (cxH CX0 P w K mg base N qual scope f cdv A outer s H E (a, oe)) [] (L2.start N vs) H s1 := inv_startH S hpin e0 hlv r z
  refine wpAny_mono (ht.run [] s1 (L2.start N vs) H _ I hq) (fun fl s' hs => ?_) fun e s' hs => hs
  cases fl with
  | ret u =>
    obtain ⟨v, σ', H', J, rv, q⟩ := hs
    exact ⟨v, H', J.os, J.bare, J.base, J.hok, rv, q⟩
  | next =>
    obtain ⟨σ', H', J, q⟩ := hs
    exact ⟨V.non, H', J.os, J.bare, J.base, J.hok, rfl, q⟩
  | brk =>
    obtain ⟨_, _, _, q⟩ := hs
    exact q.elim
  | cont =>
    obtain ⟨_, _, _, q⟩ := hs
    exact q.elim
end
section
variable {X : Cx} {k : Nat} {f : Addr} {fd : FuncData} {ps : List Str} {sp : Addr → Value → Option Addr → Sp} {x : Str} {p pos : Pos} {e : Expr} {es : List Expr} {t : TA} {a : Addr} {oe : Obj} {c : Value} {d : Option Addr}
theorem pe_callQ (F : FnQ X.prog X.w X.K X.mg X.base k f fd ps sp) (hgd : X.A.guards = some []) (hr : RoomH k X.A) (hp : (a, oe) ∈ X.pn) (hz : Zc c d oe) (hf : ∃ vs, oe.data = .fields vs) (hg : Gl X x) (hm : X.mg x = some (.ref f)) (hk : PySem.W.keepIn X.K (.ref f) = true) (hb : Binds X.K fd ps [])
    (ha : PA X (e :: es) t) (hdb : (x == ("__debug__" : Str)) = false := by decide) (he : starEach (e :: es) X.env = (false, eval e X.env) :: starEach es X.env := by rfl) (hpl : (backTo pos (starEach es X.env)).any (·.1) = false := by rfl) :
    PE X (.Call (.Name x p) (e :: es) [] pos) (tCall (sp a c d) [] E0 t) := by
  refine ⟨fun pins s σ H Q I h => ?_⟩
  refine wpAny_Call_Name_kw (ld_glob I hg hm ?_ hdb)
  refine PySem.W.callWith_K (h₀ := X.base) I.ok.mod.kin hk (thn (ha.run pos pins s σ H _ I h) fun us s1 ⟨vs, H1, I1, r, q⟩ => ⟨I1.kIn, ?_⟩) he hpl
  have r2 : Vals (vs ++ []) (us ++ []) := r.append .nil
  have hl : (us ++ []).length = ps.length := by
    rw [← r2.length]
    exact F.len _ _ _ _ _ _ _ q
  have P1 := I1.pin (a, oe) (List.mem_append_left _ hp)
  have hpin : PinOk X.stack H1 s1 (a, oe) := ⟨P1.1, P1.2.1, fun hm => (List.mem_cons.mp (I1.stkSub a hm)).elim P1.2.2.1 P1.2.2.2.1, P1.2.2.2.2⟩
  refine wpAny_call (codeAny_mono (F.run X.A X.stack s1 H1 ⟨us, []⟩ (us ++ []) (vs ++ []) Q E0 a oe c d hgd hr hpin hz hf I1.env0 (hb s1 us I1.kIn hl) r2 q) fun r s' hq => ?_)
  cases r with
  | error er => exact hq.elim
  | ok fl =>
    cases fl with
    | ret u => exact I1.after hq
    | next => exact hq.elim
    | brk => exact hq.elim
    | cont => exact hq.elim
end
end Hy
set_option Elab.async false
set_option linter.all false
set_option maxRecDepth 100000
set_option maxHeartbeats 8000000
namespace Pg
open PySem PySem.Spec PyProof.Rows L2 Gd Rl Te Nu TL Hy Fx
/-- a def from which errors go out -/
theorem okX {P : Program} {w : World} {K : PySem.W.Frag} {mg : Str → Option Value} {base : Heap} {x qual : Str} {params : Arguments} {body : List Stmt} {scope : Scope} {dvs : List V} {kws : List (Str × V)} {f : Addr} {fd : FuncData} {N ps : List Str} {k : Nat} {sp : Sp}
    (F : FunD K x qual params body scope dvs kws f fd) (S : FnScope N ps scope) (len : ∀ vs H Q E, sp vs H Q E → vs.length = ps.length)
    (hbody : ∀ (cdv : Value) (A : Around) (outer : List Env) (s : Shared) (H : Hp) (vs : List V) (Q : VK) (E : XK), Room k (A.deeper (envOfC qual scope s.heap.objs.size f cdv)) → sp vs H Q E →
      ∃ t, PSs (cxOf (L2.CX P w) P w K mg base N qual scope f cdv A outer s H E) body t ∧ t { nx := fun _ H' => Q .non H', rt := Q } (L2.start N vs) H) : FnOk P w K mg base (L2.CX P w) (k + 1) f fd ps sp := by
  obtain ⟨oc, od, dV, kV, doc, pm, an, cdv, ct, osl, rfl, lk, hcd, _, _⟩ := F.ex
  exact fn_of lk hcd S len fun A outer s H vs Q E hr hsp => hbody cdv A outer s H vs Q E hr hsp
def ixB (m : Nat) : PyData → Bool
  | .int i => decide (0 ≤ i) && decide (i < (m : Int))
  | _ => false
/-- what is known of an own error of one field -/
structure ErrK (prog : Program) (K : PySem.W.Frag) (mg : Str → Option Value) (x : Str) (C W fI : Addr) (f : Str) : Prop where
  e : Err1 prog K mg "ValueError.__new__" "ValueError.__init__" [.type "ValueError", .type "Exception", .type "BaseException", .type "object"] C W fI f
  g : mg x = some (.ref C)
  sub : PySem.W.subIn K (.ref C) (.type "BaseException") = some true
  ty : PySem.W.typeIn K (.ref C) = some (.type "type")
section
variable {P : Program} {w : World} {K : PySem.W.Frag} {mg : Str → Option Value} {base : Heap} {f C : Addr} {fd : FuncData}
end
end Pg
set_option Elab.async false
set_option linter.all false
set_option maxRecDepth 100000
set_option maxHeartbeats 8000000
namespace Pg
open PySem PySem.Spec PyProof.Rows L2 Gd Rl Te Nu TL Hy Fx Ow Vd
/-! ### the judges over nested values -/
def spV1 (K : PySem.W.Frag) (B : PyData → Bool) : Sp := fun vs H Q _ => ∃ (v : V) (d : PyData), vs = [v] ∧ Vp K H v d ∧ okD d = true ∧ ∀ H', Same H H' → Q (.bl (B d)) H'
def spV2 (K : PySem.W.Frag) (B : Nat → PyData → Bool) : Sp := fun vs H Q _ => ∃ (v : V) (d : PyData) (m : Nat), vs = [v, .int m] ∧ Vp K H v d ∧ okD d = true ∧ ∀ H', Same H H' → Q (.bl (B m d)) H'
theorem ok_all : ∀ {ds : List PyData}, (∀ d ∈ ds, okD d = true) → okAll ds = true
  | [], _ => by rw [okAll]
  | d :: ds, h => by
    rw [okAll, h d (List.mem_cons_self ..), ok_all fun x hx => h x (List.mem_cons_of_mem _ hx)]
    rfl
theorem fit_ok {m : Nat} (hm : m ≤ 1000) : ∀ {n : Nat} {d : PyData}, Fit m n d → okD d = true
  | 0, _, h => h.elim
  | n + 1, .tuple ds, h => by
    rw [okD, ok_all fun d hd => fit_ok hm (h.2 d hd), decide_eq_true (Nat.le_trans h.1 hm)]
    rfl
  | n + 1, .list ds, h => by
    rw [okD, ok_all fun d hd => fit_ok hm (h.2 d hd), decide_eq_true (Nat.le_trans h.1 hm)]
    rfl
  | n + 1, .none, _ => by simp only [okD]
  | n + 1, .bool _, _ => by simp only [okD]
  | n + 1, .int _, _ => by simp only [okD]
  | n + 1, .str _, h => by rw [okD]; exact decide_eq_true (Nat.le_trans h.1 (by decide))
  | n + 1, .dict _, _ => by simp only [okD]
section
variable {P : Program} {w : World} {K : PySem.W.Frag} {mg : Str → Option Value} {base : Heap} {f : Addr} {fd : FuncData}
theorem ok_intV (F : FnP K "is_integer" sInt f fd) (T : Mo mg) : FnOk P w K mg base CX0 1 f fd ["value"] (spV1 K intB) := by
  refine F.ok scInt (fun vs H Q E h => ?_) (fun cdv A outer s H vs Q E hr h => ?_)
  · obtain ⟨v, d, rfl, _⟩ := h
    rfl
  · obtain ⟨v, d, rfl, hd, ho, k⟩ := h
    refine ⟨_, PSs.nox <| pss_one (ps_ret (pe_and (pe_callB (call_isV (T := "int")) (by rfl) T.isi boot_isinstance (pa_cons (pv 0) (pa_cons (pe_bltn (v := .ty "int") (by rfl) T.int (by decide +kernel) rfl) pa_nil)))
      (pe_one (pe_not (pe_callB (call_isV (T := "bool")) (by rfl) T.isi boot_isinstance (pa_cons (pv 0) (pa_cons (pe_bltn (v := .ty "bool") (by rfl) T.bool (by decide +kernel) rfl) pa_nil))))))), ?_⟩
    refine ⟨_, rfl, v, d, _, rfl, hd, kit_int d, _, rfl, ?_⟩
    have k0 := k H (Same.refl H)
    cases d with
    | int i => exact ⟨_, rfl, v, _, _, rfl, hd, kit_bool _, _, rfl, k0⟩
    | bool b => exact ⟨_, rfl, v, _, _, rfl, hd, kit_bool _, _, rfl, k0⟩
    | none => exact k0
    | str z => exact k0
    | list ds => exact k0
    | tuple ds => exact k0
    | dict ds => exact k0

theorem ok_nameV1 (F : FnP K "is_name" sName f fd) (T : Mo mg) : FnOk P w K mg base CX0 1 f fd ["value"] (spV1 K nameB) := by
  obtain ⟨t1, c1⟩ := T.lname
  obtain ⟨t2, c2⟩ := T.lets
  obtain ⟨t3, c3⟩ := T.figs
  refine F.ok scName (fun vs H Q E h => ?_) (fun cdv A outer s H vs Q E hr h => ?_)
  · obtain ⟨v, d, rfl, _⟩ := h
    rfl
  · obtain ⟨v, d, rfl, hd, ho, k⟩ := h
    refine ⟨_, PSs.nox <| pss_cons (ps_if (PW.pt (pw_or (pt_not (pt_val (pe_callB (call_isV (T := "str")) (by rfl) T.isi boot_isinstance (pa_cons (pv 0) (pa_cons (pe_bltn (v := .ty "str") (by rfl) T.str (by decide +kernel) rfl) pa_nil)))))
        (pw_or1 (pt_not (pt_chain op_le op_le pe_int (pe_callB call_len_str (by rfl) T.len PySem.boot_len (pa_cons (pv 0) pa_nil)) (pe_glob (v := .int 8) (by rfl) c1 ⟨_, rfl⟩)))))) (pss_one (ps_ret pe_bl)) pss_nil)
      <| pss_one (ps_ret (pe_and (pe_cmpR op_in_sign (pe_item_str (pv 0) pe_int (fun _ _ => rfl)) (pe_glob (v := .str letS) (by rfl) c2 ⟨_, rfl⟩) (by rfl))
        (pe_one (pe_callB (cr_all rfl) (by rfl) T.all (by decide +kernel) (pa_cons (pe_lc (own := [("sign", 1)]) (g := gName 1) (tt := tYes) rfl scName.nd (pi_str (pv 0)) (blkOk_by (N := ["value", "sign"]) (sc := defScope sName) (by decide +kernel)) (fun _ _ _ _ _ => pg_name (i := 1) scName.nd rfl (Or.inl rfl)) (fun _ _ _ _ _ => pts_nil)
          (fun _ _ _ _ _ => pe_cmpR op_in_sign (pv 1) (pe_op op_add_str (pe_glob (v := .str letS) (by rfl) c2 ⟨_, rfl⟩) (pe_glob (v := .str figS) (by rfl) c3 ⟨_, rfl⟩)) (by rfl))) pa_nil))))), ?_⟩
    refine ⟨_, rfl, v, d, _, rfl, hd, kit_str d, _, rfl, ?_⟩
    have k0 := k H (Same.refl H)
    cases d with
    | str z =>
      have hv : v = V.str z := by
        cases hd
        rfl
      subst hv
      have hz : z.length ≤ 1000 := of_decide_eq_true ho
      have lz : (z.length : Int) = (z.cps.toList.length : Nat) := by
        rw [Array.length_toList]
        rfl
      refine iteF ?_
      refine ⟨_, rfl, z, rfl, sz1000 hz, _, _, rfl, rfl, _, rfl, ?_⟩
      refine ite2 (fun h1 => ?_) (fun h1 => ?_)
      · refine ⟨_, _, rfl, rfl, _, rfl, ?_⟩
        have h1' : 1 ≤ z.length := by
          have := of_decide_eq_true h1
          omega
        obtain ⟨c, r, hl⟩ : ∃ c r, z.cps.toList = c :: r := by
          cases hl : z.cps.toList with
          | nil =>
            rw [hl] at lz
            simp at lz
            omega
          | cons c r => exact ⟨c, r, rfl⟩
        have hlen : z.length = (c :: r).length := by
          rw [hl] at lz
          omega
        have hB : nameB (.str z) = (decide ((c :: r).length ≤ 8) && (decide (c ∈ letS.cps.toList) && (c :: r).all fun c => decide (c ∈ (letS ++ figS).cps.toList))) := by
          show nameS z = _
          unfold nameS
          rw [hl]
        by_cases h2 : z.length ≤ 8
        · rw [show decide ((z.length : Int) ≤ 8) = true from decide_eq_true (by omega)]
          refine iteF ?_
          have hc0 : z.cps[(0 : Int).toNat]? = some c := by
            rw [← Array.getElem?_toList, hl]
            rfl
          refine ⟨_, rfl, z, 0, c, rfl, rfl, by decide, by decide, by omega, hc0, c, letS, rfl, rfl, _, rfl, ?_⟩
          rw [show decide ((c :: r).length ≤ 8) = true from decide_eq_true (by omega), Bool.true_and] at hB
          by_cases h3 : c ∈ letS.cps.toList
          · rw [decide_eq_true h3] at hB ⊢
            rw [Bool.true_and] at hB
            refine ⟨_, rfl, z, rfl, lcR walk_str (n1 := hz) (fun _ _ => trivial) (fun i y _ => y = .bl (decide ((c :: r).getD i 0 ∈ (letS ++ figS).cps.toList))) (fun _ _ _ _ _ e => e) ?_ ?_⟩
            · rintro D acc i x Ha Hb K2 hi s nD hD ⟨rfl, c', ec, rfl⟩ kk
              refine ⟨rfl, _, rfl, _, _, rfl, rfl, by decide +kernel, c', _, rfl, rfl, kk _ _ (Same.refl _) ?_⟩
              have e2 : (c :: r)[i]? = some c' := by
                rw [← hl, Array.getElem?_toList]
                exact ec
              rw [List.getD_eq_getElem?_getD, e2]
              rfl
            · rintro D Hb ys nw hlen2 he
              have ey : ys = ((List.range z.cps.size).map fun i => decide ((c :: r).getD i 0 ∈ (letS ++ figS).cps.toList)).map V.bl := by
                rw [List.map_map]
                exact list_of hlen2 he
              refine ⟨D, _, rfl, by rw [← ey]; exact SqL.of nw.2.1, ?_⟩
              have e3 : (((List.range z.cps.size).map fun i => decide ((c :: r).getD i 0 ∈ (letS ++ figS).cps.toList)).all id) = nameB (.str z) := by
                rw [hB, show z.cps.size = (c :: r).length from hlen]
                exact all_getD (c :: r) fun c => decide (c ∈ (letS ++ figS).cps.toList)
              rw [e3]
              exact k Hb nw.2.2
          · rw [decide_eq_false h3] at hB ⊢
            rw [Bool.false_and] at hB
            rw [hB] at k0
            exact k0
        · rw [show decide ((z.length : Int) ≤ 8) = false from decide_eq_false (by omega)]
          refine iteT ?_
          rw [show decide ((c :: r).length ≤ 8) = false from decide_eq_false (by omega), Bool.false_and] at hB
          rw [hB] at k0
          exact k0
      · refine ⟨_, rfl, ?_⟩
        refine iteT ?_
        have h1' : z.length = 0 := by
          have : ¬ (1 : Int) ≤ z.length := fun q => h1 (decide_eq_true q)
          omega
        have hB : nameB (.str z) = false := by
          show nameS z = _
          unfold nameS
          cases hl : z.cps.toList with
          | nil => rfl
          | cons c r =>
            rw [hl] at lz
            simp at lz
            omega
        rw [hB] at k0
        exact k0
    | int i => exact k0
    | bool b => exact k0
    | none => exact k0
    | list ds => exact k0
    | tuple ds => exact k0
    | dict ds => exact k0

theorem ok_areintsV {fI : Addr} {dI : FuncData} (F : FnP K "are_integers" sInts f fd) (T : Mo mg) (FI : FnP K "is_integer" sInt fI dI) (gI : mg "is_integer" = some (.ref fI)) : FnOk P w K mg base CX0 2 f fd ["value", "many"] (spV2 K intsB) := by
  have GI : FnOk P w K mg base CX0 1 fI dI ["value"] (spV1 K intB) := ok_intV FI T
  have bI : Binds K dI ["value"] [] := FI.bindsN fun _ _ _ _ _ _ us hl => match us, hl with | [_], _ => rfl
  refine F.ok scInts (fun vs H Q E h => ?_) (fun cdv A outer s H vs Q E hr h => ?_)
  · obtain ⟨v, d, m, rfl, _⟩ := h
    rfl
  · obtain ⟨v, d, m, rfl, hd, ho, k⟩ := h
    refine ⟨_, PSs.nox <| pss_one (ps_ret (pe_and (pe_callB (call_isV (T := "tuple")) (by rfl) T.isi boot_isinstance (pa_cons (pv 0) (pa_cons (pe_bltn (v := .ty "tuple") (by rfl) T.tuple (by decide +kernel) rfl) pa_nil)))
      (pe_and (pe_cmpR op_eq (pe_callB call_len (by rfl) T.len PySem.boot_len (pa_cons (pv 0) pa_nil)) (pv 1) (nomark _))
      (pe_one (pe_callB (cr_all rfl) (by rfl) T.all (by decide +kernel) (pa_cons (pe_lc (own := [("number", 2)]) (g := gName 2) (tt := tYes) rfl scInts.nd (pi_tup (pv 0)) (blkOk_by (N := ["value", "many", "number"]) (sc := defScope sInts) (by decide +kernel)) (fun _ _ _ _ _ => pg_name (i := 2) scInts.nd rfl (Or.inl rfl)) (fun _ _ _ _ _ => pts_nil)
          (fun _ _ _ _ _ => pe_call GI hr (by rfl) gI FI.kp bI .nil pass0 (pa_cons (pv 2) pa_nil))) pa_nil)))))), ?_⟩
    refine ⟨_, rfl, v, d, _, rfl, hd, kit_tuple d, _, rfl, ?_⟩
    have k0 := k H (Same.refl H)
    cases d with
    | tuple ds =>
      obtain ⟨a, xs, rfl, hs, ha⟩ := vp_tup hd
      obtain ⟨hl, hk⟩ := ok_tup ho
      have lx := vp_len ha
      refine ⟨_, rfl, _, xs.length, rfl, .inr ⟨_, hs, rfl⟩, _, rfl, rfl, _, rfl, ?_⟩
      by_cases h1 : ds.length = m
      · have hB : intsB m (.tuple ds) = ds.all intB := by
          show (decide (ds.length = m) && ds.all intB) = _
          rw [decide_eq_true h1, Bool.true_and]
        rw [show decide (V.int ((xs.length : Nat) : Int) = V.int (m : Int)) = true from decide_eq_true (by rw [lx, h1])]
        refine ⟨_, rfl, a, rfl, ⟨_, hs⟩, lcR (walk_tup (xs := xs)) (n1 := by omega) (fun H' s' => Same.seqT s' hs) (fun i y _ => y = .bl (intB (ds.getD i .none))) (fun _ _ _ _ _ e => e) ?_ ?_⟩
        · rintro D acc i x Ha Hb K2 hi s nD hD ⟨rfl, ex⟩ kk
          obtain ⟨d, ed, hx⟩ := vp_at ha ex
          have eg : ds.getD i .none = d := by
            rw [List.getD_eq_getElem?_getD, ed]
            rfl
          exact ⟨rfl, _, rfl, x, d, rfl, vp_same s hx, ok_at hk ed, fun Hc sc => kk _ _ sc (by rw [eg])⟩
        · rintro D Hb ys nw hlen he
          have ey : ys = ((List.range ds.length).map fun i => intB (ds.getD i .none)).map V.bl := by
            rw [List.map_map]
            exact list_of (by rw [hlen, lx]) he
          refine ⟨D, _, rfl, by rw [← ey]; exact SqL.of nw.2.1, ?_⟩
          rw [all_getP, ← hB]
          exact k Hb nw.2.2
      · have hB : intsB m (.tuple ds) = false := by
          show (decide (ds.length = m) && ds.all intB) = _
          rw [decide_eq_false h1, Bool.false_and]
        rw [show decide (V.int ((xs.length : Nat) : Int) = V.int (m : Int)) = false from decide_eq_false fun e => h1 (by
          have := V.int.inj e
          omega)]
        rw [hB] at k0
        exact k0
    | int i => exact k0
    | bool b => exact k0
    | none => exact k0
    | list ds => exact k0
    | str z => exact k0
    | dict ds => exact k0

theorem ok_formV {fI : Addr} {dI : FuncData} (F : FnP K "is_form" sForm f fd) (T : Mo mg) (FI : FnP K "is_integer" sInt fI dI) (gI : mg "is_integer" = some (.ref fI)) (Z : Ints K mg) : FnOk P w K mg base CX0 3 f fd ["value", "many"] (spV2 K formB) := by
  obtain ⟨fM, dM, FM, gM⟩ := Z
  have GM : FnOk P w K mg base CX0 2 fM dM ["value", "many"] (spV2 K intsB) := ok_areintsV FM T FI gI
  have bM : Binds K dM ["value", "many"] [] := FM.bindsN fun _ _ _ _ _ _ us hl => match us, hl with | [_, _], _ => rfl
  obtain ⟨t1, c1⟩ := T.mnum
  refine F.ok scForm (fun vs H Q E h => ?_) (fun cdv A outer s H vs Q E hr h => ?_)
  · obtain ⟨v, d, m, rfl, _⟩ := h
    rfl
  · obtain ⟨v, d, m, rfl, hd, ho, k⟩ := h
    refine ⟨_, PSs.nox <| pss_one (ps_ret (pe_and (pe_call GM hr (by rfl) gM FM.kp bM .nil pass0 (pa_cons (pv 0) (pa_cons (pe_op op_add (pv 1) pe_int) pa_nil)))
      (pe_one (pe_callB (cr_all rfl) (by rfl) T.all (by decide +kernel) (pa_cons (pe_lc (own := [("number", 2)]) (g := gName 2) (tt := tYes) rfl scForm.nd (pi_tup (pv 0)) (blkOk_by (N := ["value", "many", "number"]) (sc := defScope sForm) (by decide +kernel)) (fun _ _ _ _ _ => pg_name (i := 2) scForm.nd rfl (Or.inl rfl)) (fun _ _ _ _ _ => pts_nil)
          (fun _ _ _ _ _ => pe_chain op_le op_le (pe_un un_neg (pe_glob (v := .int 1000000) (by rfl) c1 ⟨_, rfl⟩)) (pv 2) (pe_glob (v := .int 1000000) (by rfl) c1 ⟨_, rfl⟩))) pa_nil))))), ?_⟩
    refine ⟨_, rfl, _, rfl, _, _, rfl, rfl, v, d, m + 1, rfl, hd, ho, fun H1 s1 => ⟨_, rfl, ?_⟩⟩
    cases hi : intsB (m + 1) d with
    | false =>
      have z := k H1 s1
      rw [form_ints hi] at z
      exact z
    | true =>
      obtain ⟨ds, rfl, hlen, hall⟩ := ints_tup hi
      obtain ⟨a, xs, rfl, hs0, ha⟩ := vp_tup hd
      obtain ⟨hl, hk⟩ := ok_tup ho
      have lx := vp_len ha
      have hs := Same.seqT s1 hs0
      have hB : formB m (.tuple ds) = ds.all numB := by
        show (decide (ds.length = m + 1) && ds.all numB) = _
        rw [decide_eq_true hlen, Bool.true_and]
      refine ⟨_, rfl, a, rfl, ⟨_, hs⟩, lcR (walk_tup (xs := xs)) (n1 := by omega) (fun H' s' => Same.seqT s' hs) (fun i y _ => y = .bl (numB (ds.getD i .none))) (fun _ _ _ _ _ e => e) ?_ ?_⟩
      · rintro D acc i x Ha Hb K2 hi s nD hD ⟨rfl, ex⟩ kk
        obtain ⟨d, ed, hx⟩ := vp_at ha ex
        have eg : ds.getD i .none = d := by
          rw [List.getD_eq_getElem?_getD, ed]
          rfl
        have hd1 := hall d (List.mem_of_getElem? ed)
        cases d with
        | int i =>
          cases hx
          refine ⟨rfl, _, rfl, _, rfl, _, _, rfl, rfl, _, rfl, ?_⟩
          by_cases h2 : (-1000000 : Int) ≤ i
          · rw [show decide (-(1000000 : Int) ≤ i) = true from decide_eq_true h2]
            refine iteT ?_
            refine ⟨_, _, rfl, rfl, kk _ _ (Same.refl _) ?_⟩
            rw [eg]
            show V.bl _ = V.bl (decide (-1000000 ≤ i) && decide (i ≤ 1000000))
            rw [decide_eq_true h2, Bool.true_and]
          · rw [show decide (-(1000000 : Int) ≤ i) = false from decide_eq_false h2]
            refine iteF ?_
            refine kk _ _ (Same.refl _) ?_
            rw [eg]
            show V.bl _ = V.bl (decide (-1000000 ≤ i) && decide (i ≤ 1000000))
            rw [decide_eq_false h2, Bool.false_and]
        | bool b => cases hd1
        | none => cases hd1
        | str z => cases hd1
        | list es => cases hd1
        | tuple es => cases hd1
        | dict es => cases hd1
      · rintro D Hb ys nw hlen2 he
        have ey : ys = ((List.range ds.length).map fun i => numB (ds.getD i .none)).map V.bl := by
          rw [List.map_map]
          exact list_of (by rw [hlen2, lx]) he
        refine ⟨D, _, rfl, by rw [← ey]; exact SqL.of nw.2.1, ?_⟩
        rw [all_getP, ← hB]
        exact k Hb (s1.trans nw.2.2)

theorem ok_formsV {fI fF : Addr} {dI dF : FuncData} (F : FnP K "are_forms" sForms f fd) (T : Mo mg) (FI : FnP K "is_integer" sInt fI dI) (gI : mg "is_integer" = some (.ref fI)) (FF : FnP K "is_form" sForm fF dF) (gF : mg "is_form" = some (.ref fF)) (Z : Ints K mg) : FnOk P w K mg base CX0 4 f fd ["value", "many"] (spV2 K formsB) := by
  have GF : FnOk P w K mg base CX0 3 fF dF ["value", "many"] (spV2 K formB) := ok_formV FF T FI gI Z
  have bF : Binds K dF ["value", "many"] [] := FF.bindsN fun _ _ _ _ _ _ us hl => match us, hl with | [_, _], _ => rfl
  refine F.ok scForms (fun vs H Q E h => ?_) (fun cdv A outer s H vs Q E hr h => ?_)
  · obtain ⟨v, d, m, rfl, _⟩ := h
    rfl
  · obtain ⟨v, d, m, rfl, hd, ho, k⟩ := h
    refine ⟨_, PSs.nox <| pss_one (ps_ret (pe_and (pe_callB (call_isV (T := "tuple")) (by rfl) T.isi boot_isinstance (pa_cons (pv 0) (pa_cons (pe_bltn (v := .ty "tuple") (by rfl) T.tuple (by decide +kernel) rfl) pa_nil)))
      (pe_one (pe_callB (cr_all rfl) (by rfl) T.all (by decide +kernel) (pa_cons (pe_lc (own := [("form", 2)]) (g := gName 2) (tt := tYes) rfl scForms.nd (pi_tup (pv 0)) (blkOk_by (N := ["value", "many", "form"]) (sc := defScope sForms) (by decide +kernel)) (fun _ _ _ _ _ => pg_name (i := 2) scForms.nd rfl (Or.inl rfl)) (fun _ _ _ _ _ => pts_nil)
          (fun _ _ _ _ _ => pe_call GF hr (by rfl) gF FF.kp bF .nil pass0 (pa_cons (pv 2) (pa_cons (pv 1) pa_nil)))) pa_nil))))), ?_⟩
    refine ⟨_, rfl, v, d, _, rfl, hd, kit_tuple d, _, rfl, ?_⟩
    have k0 := k H (Same.refl H)
    cases d with
    | tuple ds =>
      obtain ⟨a, xs, rfl, hs, ha⟩ := vp_tup hd
      obtain ⟨hl, hk⟩ := ok_tup ho
      have lx := vp_len ha
      refine ⟨_, rfl, a, rfl, ⟨_, hs⟩, lcR (walk_tup (xs := xs)) (n1 := by omega) (fun H' s' => Same.seqT s' hs) (fun i y _ => y = .bl (formB m (ds.getD i .none))) (fun _ _ _ _ _ e => e) ?_ ?_⟩
      · rintro D acc i x Ha Hb K2 hi s nD hD ⟨rfl, ex⟩ kk
        obtain ⟨d, ed, hx⟩ := vp_at ha ex
        have eg : ds.getD i .none = d := by
          rw [List.getD_eq_getElem?_getD, ed]
          rfl
        exact ⟨rfl, _, rfl, _, rfl, x, d, m, rfl, vp_same s hx, ok_at hk ed, fun Hc sc => kk _ _ sc (by rw [eg])⟩
      · rintro D Hb ys nw hlen he
        have ey : ys = ((List.range ds.length).map fun i => formB m (ds.getD i .none)).map V.bl := by
          rw [List.map_map]
          exact list_of (by rw [hlen, lx]) he
        refine ⟨D, _, rfl, by rw [← ey]; exact SqL.of nw.2.1, ?_⟩
        rw [all_getP]
        exact k Hb nw.2.2
    | int i => exact k0
    | bool b => exact k0
    | none => exact k0
    | list ds => exact k0
    | str z => exact k0
    | dict ds => exact k0

theorem ok_sayV {fI fN fF fS : Addr} {dI dN dF dS : FuncData} (F : FnP K "_is_saying" sSay f fd) (T : Mo mg) (J : Js K mg fI fN fF fS dI dN dF dS) : FnOk P w K mg base CX0 4 f fd ["value", "many"] (spV2 K sayB) := by
  have GN : FnOk P w K mg base CX0 1 fN dN ["value"] (spV1 K nameB) := ok_nameV1 J.n T
  have GF : FnOk P w K mg base CX0 3 fF dF ["value", "many"] (spV2 K formB) := ok_formV J.f T J.i J.gi J.z
  have bN : Binds K dN ["value"] [] := J.n.bindsN fun _ _ _ _ _ _ us hl => match us, hl with | [_], _ => rfl
  have bF : Binds K dF ["value", "many"] [] := J.f.bindsN fun _ _ _ _ _ _ us hl => match us, hl with | [_, _], _ => rfl
  refine F.ok scSay (fun vs H Q E h => ?_) (fun cdv A outer s H vs Q E hr h => ?_)
  · obtain ⟨v, d, m, rfl, _⟩ := h
    rfl
  · obtain ⟨v, d, m, rfl, hd, ho, k⟩ := h
    have hr1 := hr.mono (show 1 ≤ 3 by decide)
    refine ⟨_, PSs.nox <| pss_one (ps_ret (pe_and (pe_callB (call_isV (T := "tuple")) (by rfl) T.isi boot_isinstance (pa_cons (pv 0) (pa_cons (pe_bltn (v := .ty "tuple") (by rfl) T.tuple (by decide +kernel) rfl) pa_nil)))
      (pe_and (pe_cmpR op_eq (pe_callB call_len (by rfl) T.len PySem.boot_len (pa_cons (pv 0) pa_nil)) pe_int (nomark _))
      (pe_and (pe_call GN hr1 (by rfl) J.gn J.n.kp bN .nil pass0 (pa_cons (pe_ix ix_tup (pv 0) pe_int (fun _ _ => rfl)) pa_nil))
      (pe_one (pe_call GF hr (by rfl) J.gf J.f.kp bF .nil pass0 (pa_cons (pe_ix ix_tup (pv 0) pe_int (fun _ _ => rfl)) (pa_cons (pv 1) pa_nil)))))))), ?_⟩
    refine ⟨_, rfl, v, d, _, rfl, hd, kit_tuple d, _, rfl, ?_⟩
    have k0 := k H (Same.refl H)
    cases d with
    | tuple ds =>
      obtain ⟨a, xs, rfl, hs, ha⟩ := vp_tup hd
      obtain ⟨hl, hk⟩ := ok_tup ho
      have lx := vp_len ha
      refine ⟨_, rfl, _, xs.length, rfl, .inr ⟨_, hs, rfl⟩, rfl, _, rfl, ?_⟩
      by_cases h2 : ds.length = 2
      · match ds, h2, ha, hk with
        | [p, g], _, ha, hk =>
          cases ha with
          | cons hp ha =>
            cases ha with
            | cons hg ha =>
              cases ha
              rename_i v0 v1
              have k1 : okD p = true := ok_at hk (i := 0) rfl
              have k2 : okD g = true := ok_at hk (i := 1) rfl
              refine ⟨_, rfl, a, _, 0, v0, rfl, rfl, hs, rfl, v0, p, rfl, hp, k1, fun H1 s1 => ⟨_, rfl, ?_⟩⟩
              have eB : sayB m (.tuple [p, g]) = (nameB p && formB m g) := rfl
              cases hn : nameB p with
              | false =>
                rw [hn, Bool.false_and] at eB
                have z := k H1 s1
                rw [eB] at z
                exact z
              | true =>
                rw [hn, Bool.true_and] at eB
                refine ⟨_, rfl, a, _, 1, v1, rfl, rfl, Same.seqT s1 hs, rfl, _, rfl, v1, g, m, rfl, vp_same s1 hg, k2, fun H2 s2 => ?_⟩
                have z := k H2 (s1.trans s2)
                rw [eB] at z
                exact z
      · rw [show decide (V.int ((xs.length : Nat) : Int) = V.int 2) = false from decide_eq_false fun e => h2 (by
          have := V.int.inj e
          omega)]
        rw [sayB_len h2] at k0
        exact k0
    | int i => exact k0
    | bool b => exact k0
    | none => exact k0
    | list ds => exact k0
    | str z => exact k0
    | dict ds => exact k0

theorem ok_brV {fI fN fF fS : Addr} {dI dN dF dS : FuncData} (F : FnP K "_is_branch" sBr f fd) (T : Mo mg) (J : Js K mg fI fN fF fS dI dN dF dS) : FnOk P w K mg base CX0 5 f fd ["value", "many"] (spV2 K brB) := by
  have GN : FnOk P w K mg base CX0 1 fN dN ["value"] (spV1 K nameB) := ok_nameV1 J.n T
  have GS : FnOk P w K mg base CX0 4 fS dS ["value", "many"] (spV2 K formsB) := ok_formsV J.s T J.i J.gi J.f J.gf J.z
  have bN : Binds K dN ["value"] [] := J.n.bindsN fun _ _ _ _ _ _ us hl => match us, hl with | [_], _ => rfl
  have bS : Binds K dS ["value", "many"] [] := J.s.bindsN fun _ _ _ _ _ _ us hl => match us, hl with | [_, _], _ => rfl
  obtain ⟨t1, c1⟩ := T.mtes
  refine F.ok scBr (fun vs H Q E h => ?_) (fun cdv A outer s H vs Q E hr h => ?_)
  · obtain ⟨v, d, m, rfl, _⟩ := h
    rfl
  · obtain ⟨v, d, m, rfl, hd, ho, k⟩ := h
    have hr1 := hr.mono (show 1 ≤ 4 by decide)
    refine ⟨_, PSs.nox <| pss_cons (ps_if (PW.pt (pw_or (pt_not (pt_val (pe_callB (call_isV (T := "tuple")) (by rfl) T.isi boot_isinstance (pa_cons (pv 0) (pa_cons (pe_bltn (v := .ty "tuple") (by rfl) T.tuple (by decide +kernel) rfl) pa_nil)))))
        (pw_or1 (pt_cmpR op_ne (pe_callB call_len (by rfl) T.len PySem.boot_len (pa_cons (pv 0) pa_nil)) pe_int (nomark _))))) (pss_one (ps_ret pe_bl)) pss_nil)
      <| pss_cons (ps_asg (pv 0) (pg_tup (by rfl) (pgs_cons (pg_name (i := 2) scBr.nd rfl (.inl rfl)) (pgs_cons (pg_name (i := 3) scBr.nd rfl (.inl rfl)) (pgs_cons (pg_name (i := 4) scBr.nd rfl (.inl rfl)) (pgs_cons (pg_name (i := 5) scBr.nd rfl (.inl rfl)) pgs_nil))))))
      <| pss_cons (ps_if (PW.pt (pw_or (pt_not (pt_val (pe_call GN hr1 (by rfl) J.gn J.n.kp bN .nil pass0 (pa_cons (pv 2) pa_nil)))) (pw_or1 (pt_not (pt_val (pe_call GN hr1 (by rfl) J.gn J.n.kp bN .nil pass0 (pa_cons (pv 3) pa_nil))))))) (pss_one (ps_ret pe_bl)) pss_nil)
      <| pss_cons (ps_if (PW.pt (pw_or (pt_not (pt_val (pe_call GS hr (by rfl) J.gs J.s.kp bS .nil pass0 (pa_cons (pv 4) (pa_cons (pv 1) pa_nil))))) (pw_or1 (pt_cmpR op_gt (pe_callB call_len (by rfl) T.len PySem.boot_len (pa_cons (pv 4) pa_nil)) (pe_glob (v := .int 3) (by rfl) c1 ⟨_, rfl⟩) (nomark _))))) (pss_one (ps_ret pe_bl)) pss_nil)
      <| pss_one (ps_ret (pe_and (pe_call GS hr (by rfl) J.gs J.s.kp bS .nil pass0 (pa_cons (pv 5) (pa_cons (pv 1) pa_nil))) (pe_one (pe_cmpR op_eq (pe_callB call_len (by rfl) T.len PySem.boot_len (pa_cons (pv 5) pa_nil)) (pv 1) (nomark _))))), ?_⟩
    refine ⟨_, rfl, v, d, _, rfl, hd, kit_tuple d, _, rfl, ?_⟩
    have k0 := k H (Same.refl H)
    cases d with
    | tuple ds =>
      obtain ⟨a, xs, rfl, hs, ha⟩ := vp_tup hd
      obtain ⟨hl, hk⟩ := ok_tup ho
      have lx := vp_len ha
      refine iteF ?_
      refine ⟨_, rfl, _, xs.length, rfl, .inr ⟨_, hs, rfl⟩, rfl, _, rfl, ?_⟩
      by_cases h4 : ds.length = 4
      · refine iteNS (by rw [lx, h4]; rfl) ?_
        match ds, h4, ha, hk, hl, lx with
        | [p, q, ts, cs], _, ha, hk, hl, lx =>
          cases ha with
          | @cons v0 _ _ _ a0 ha =>
          cases ha with
          | @cons v1 _ _ _ a1 ha =>
          cases ha with
          | @cons v2 _ _ _ a2 ha =>
          cases ha with
          | @cons v3 _ _ _ a3 ha =>
          cases ha
          have o0 : okD p = true := ok_at hk (i := 0) rfl
          have o1 : okD q = true := ok_at hk (i := 1) rfl
          have o2 : okD ts = true := ok_at hk (i := 2) rfl
          have o3 : okD cs = true := ok_at hk (i := 3) rfl
          have eB : brB m (.tuple [p, q, ts, cs]) = (nameB p && (nameB q && ((formsB m ts && decide (lenD ts ≤ 3)) && (formsB m cs && decide (lenD cs = m))))) := rfl
          refine ⟨_, rfl, a, _, rfl, hs, rfl, _, _, rfl, _, _, rfl, _, _, rfl, _, _, rfl, rfl, ?_⟩
          refine ⟨_, rfl, v0, p, rfl, a0, o0, fun H1 s1 => ⟨_, rfl, ?_⟩⟩
          cases hp : nameB p with
          | false =>
            rw [hp, Bool.false_and] at eB
            have z := k H1 s1
            rw [eB] at z
            exact iteT (iteT z)
          | true =>
          rw [hp, Bool.true_and] at eB
          refine iteF ?_
          refine ⟨_, rfl, v1, q, rfl, vp_same s1 a1, o1, fun H2 s2 => ⟨_, rfl, ?_⟩⟩
          have s12 := s1.trans s2
          cases hq : nameB q with
          | false =>
            rw [hq, Bool.false_and] at eB
            have z := k H2 s12
            rw [eB] at z
            exact iteT z
          | true =>
          rw [hq, Bool.true_and] at eB
          refine iteF ?_
          refine ⟨_, rfl, _, rfl, v2, ts, m, rfl, vp_same s12 a2, o2, fun H3 s3 => ⟨_, rfl, ?_⟩⟩
          have s13 := s12.trans s3
          cases ht : formsB m ts with
          | false =>
            rw [ht, Bool.false_and, Bool.false_and] at eB
            have z := k H3 s13
            rw [eB] at z
            exact iteT (iteT z)
          | true =>
          rw [ht, Bool.true_and] at eB
          refine iteF ?_
          obtain ⟨tds, rfl⟩ := forms_tup ht
          obtain ⟨ta, txs, rfl, hts, htd⟩ := vp_tup (vp_same s13 a2)
          have lt := vp_len htd
          refine ⟨_, rfl, _, txs.length, rfl, .inr ⟨_, hts, rfl⟩, _, _, rfl, rfl, _, rfl, ?_⟩
          by_cases h3 : tds.length ≤ 3
          · have eB2 : brB m (.tuple [p, q, .tuple tds, cs]) = (formsB m cs && decide (lenD cs = m)) := by
              rw [eB, show decide (lenD (.tuple tds) ≤ 3) = true from decide_eq_true h3, Bool.true_and]
            rw [show decide ((3 : Int) < ((txs.length : Nat) : Int)) = false from decide_eq_false (by omega)]
            refine iteF ?_
            refine ⟨_, rfl, _, rfl, v3, cs, m, rfl, vp_same s13 a3, o3, fun H4 s4 => ⟨_, rfl, ?_⟩⟩
            have s14 := s13.trans s4
            cases hc : formsB m cs with
            | false =>
              rw [hc, Bool.false_and] at eB2
              have z := k H4 s14
              rw [eB2] at z
              exact z
            | true =>
              rw [hc, Bool.true_and] at eB2
              obtain ⟨cds, rfl⟩ := forms_tup hc
              obtain ⟨ca, cxs, rfl, hcs, hcd⟩ := vp_tup (vp_same s14 a3)
              have lc := vp_len hcd
              refine ⟨_, rfl, _, cxs.length, rfl, .inr ⟨_, hcs, rfl⟩, _, rfl, rfl, ?_⟩
              have e5 : decide (V.int ((cxs.length : Nat) : Int) = V.int (m : Int)) = decide (lenD (.tuple cds) = m) := by
                rw [decide_eq_decide, V.int.injEq]
                show _ ↔ cds.length = m
                omega
              rw [e5, ← eB2]
              exact k H4 s14
          · rw [show decide ((3 : Int) < ((txs.length : Nat) : Int)) = true from decide_eq_true (by omega)]
            have eB2 : brB m (.tuple [p, q, .tuple tds, cs]) = false := by
              rw [eB, show decide (lenD (.tuple tds) ≤ 3) = false from decide_eq_false h3, Bool.false_and]
            have z := k H3 s13
            rw [eB2] at z
            exact iteT z
      · refine iteNE (fun e => h4 ?_) ?_
        · have e2 : ((xs.length : Nat) : Int) = 4 := V.int.inj e
          omega
        · rw [brB_len h4] at k0
          exact k0
    | int i => exact k0
    | bool b => exact k0
    | none => exact k0
    | list ds => exact k0
    | str z => exact k0
    | dict ds => exact k0
end
end Pg
set_option Elab.async false
set_option linter.all false
set_option maxRecDepth 100000
set_option maxHeartbeats 8000000
namespace Pg
open PySem PySem.Spec PyProof.Rows L2 Gd Rl Te Nu TL Hy Fx Ow Vd
/-! ### names among nested values -/
/-- no text too long -/
def Sml (d : PyData) : Prop := ∀ z, d = .str z → z.length ≤ 1000
theorem fit_sml {m n : Nat} {d : PyData} (h : Fit m n d) : Sml d := by
  rintro z rfl
  cases n with
  | zero => exact h.elim
  | succ n => exact Nat.le_trans h.1 (by decide)
theorem fit_at {m n : Nat} {ds : List PyData} (h : Fit m n (.tuple ds)) : ds.length ≤ m ∧ ∀ d ∈ ds, Sml d := by
  cases n with
  | zero => exact h.elim
  | succ n => exact ⟨h.1, fun d hd => fit_sml (h.2 d hd)⟩
/-- how wide a tuple is -/
def FitA (m : Nat) (d : PyData) : Prop := ∀ ds, d = .tuple ds → ds.length ≤ m ∧ ∀ e ∈ ds, Sml e
def spNV (K : PySem.W.Frag) : Sp := fun vs H Q _ => ∃ (v : V) (d : PyData), vs = [v] ∧ Vp K H v d ∧ Sml d ∧ ∀ H', Same H H' → Q (.bl (nameB d)) H'
section
variable {P : Program} {w : World} {K : PySem.W.Frag} {mg : Str → Option Value} {base : Heap} {f : Addr} {fd : FuncData}
theorem ok_nameV (F : FnP K "is_name" sName f fd) (T : Mo mg) : FnOk P w K mg base CX0 1 f fd ["value"] (spNV K) := by
  obtain ⟨t1, c1⟩ := T.lname
  obtain ⟨t2, c2⟩ := T.lets
  obtain ⟨t3, c3⟩ := T.figs
  refine F.ok scName (fun vs H Q E h => ?_) (fun cdv A outer s H vs Q E hr h => ?_)
  · obtain ⟨v, d, rfl, _⟩ := h
    rfl
  · obtain ⟨v, d, rfl, hd, ho, k⟩ := h
    refine ⟨_, PSs.nox <| pss_cons (ps_if (PW.pt (pw_or (pt_not (pt_val (pe_callB (call_isV (T := "str")) (by rfl) T.isi boot_isinstance (pa_cons (pv 0) (pa_cons (pe_bltn (v := .ty "str") (by rfl) T.str (by decide +kernel) rfl) pa_nil)))))
        (pw_or1 (pt_not (pt_chain op_le op_le pe_int (pe_callB call_len_str (by rfl) T.len PySem.boot_len (pa_cons (pv 0) pa_nil)) (pe_glob (v := .int 8) (by rfl) c1 ⟨_, rfl⟩)))))) (pss_one (ps_ret pe_bl)) pss_nil)
      <| pss_one (ps_ret (pe_and (pe_cmpR op_in_sign (pe_item_str (pv 0) pe_int (fun _ _ => rfl)) (pe_glob (v := .str letS) (by rfl) c2 ⟨_, rfl⟩) (by rfl))
        (pe_one (pe_callB (cr_all rfl) (by rfl) T.all (by decide +kernel) (pa_cons (pe_lc (own := [("sign", 1)]) (g := gName 1) (tt := tYes) rfl scName.nd (pi_str (pv 0)) (blkOk_by (N := ["value", "sign"]) (sc := defScope sName) (by decide +kernel)) (fun _ _ _ _ _ => pg_name (i := 1) scName.nd rfl (Or.inl rfl)) (fun _ _ _ _ _ => pts_nil)
          (fun _ _ _ _ _ => pe_cmpR op_in_sign (pv 1) (pe_op op_add_str (pe_glob (v := .str letS) (by rfl) c2 ⟨_, rfl⟩) (pe_glob (v := .str figS) (by rfl) c3 ⟨_, rfl⟩)) (by rfl))) pa_nil))))), ?_⟩
    refine ⟨_, rfl, v, d, _, rfl, hd, kit_str d, _, rfl, ?_⟩
    have k0 := k H (Same.refl H)
    cases d with
    | str z =>
      have hv : v = V.str z := by
        cases hd
        rfl
      subst hv
      have hz : z.length ≤ 1000 := ho z rfl
      have lz : (z.length : Int) = (z.cps.toList.length : Nat) := by
        rw [Array.length_toList]
        rfl
      refine iteF ?_
      refine ⟨_, rfl, z, rfl, sz1000 hz, _, _, rfl, rfl, _, rfl, ?_⟩
      refine ite2 (fun h1 => ?_) (fun h1 => ?_)
      · refine ⟨_, _, rfl, rfl, _, rfl, ?_⟩
        have h1' : 1 ≤ z.length := by
          have := of_decide_eq_true h1
          omega
        obtain ⟨c, r, hl⟩ : ∃ c r, z.cps.toList = c :: r := by
          cases hl : z.cps.toList with
          | nil =>
            rw [hl] at lz
            simp at lz
            omega
          | cons c r => exact ⟨c, r, rfl⟩
        have hlen : z.length = (c :: r).length := by
          rw [hl] at lz
          omega
        have hB : nameB (.str z) = (decide ((c :: r).length ≤ 8) && (decide (c ∈ letS.cps.toList) && (c :: r).all fun c => decide (c ∈ (letS ++ figS).cps.toList))) := by
          show nameS z = _
          unfold nameS
          rw [hl]
        by_cases h2 : z.length ≤ 8
        · rw [show decide ((z.length : Int) ≤ 8) = true from decide_eq_true (by omega)]
          refine iteF ?_
          have hc0 : z.cps[(0 : Int).toNat]? = some c := by
            rw [← Array.getElem?_toList, hl]
            rfl
          refine ⟨_, rfl, z, 0, c, rfl, rfl, by decide, by decide, by omega, hc0, c, letS, rfl, rfl, _, rfl, ?_⟩
          rw [show decide ((c :: r).length ≤ 8) = true from decide_eq_true (by omega), Bool.true_and] at hB
          by_cases h3 : c ∈ letS.cps.toList
          · rw [decide_eq_true h3] at hB ⊢
            rw [Bool.true_and] at hB
            refine ⟨_, rfl, z, rfl, lcR walk_str (n1 := hz) (fun _ _ => trivial) (fun i y _ => y = .bl (decide ((c :: r).getD i 0 ∈ (letS ++ figS).cps.toList))) (fun _ _ _ _ _ e => e) ?_ ?_⟩
            · rintro D acc i x Ha Hb K2 hi s nD hD ⟨rfl, c', ec, rfl⟩ kk
              refine ⟨rfl, _, rfl, _, _, rfl, rfl, by decide +kernel, c', _, rfl, rfl, kk _ _ (Same.refl _) ?_⟩
              have e2 : (c :: r)[i]? = some c' := by
                rw [← hl, Array.getElem?_toList]
                exact ec
              rw [List.getD_eq_getElem?_getD, e2]
              rfl
            · rintro D Hb ys nw hlen2 he
              have ey : ys = ((List.range z.cps.size).map fun i => decide ((c :: r).getD i 0 ∈ (letS ++ figS).cps.toList)).map V.bl := by
                rw [List.map_map]
                exact list_of hlen2 he
              refine ⟨D, _, rfl, by rw [← ey]; exact SqL.of nw.2.1, ?_⟩
              have e3 : (((List.range z.cps.size).map fun i => decide ((c :: r).getD i 0 ∈ (letS ++ figS).cps.toList)).all id) = nameB (.str z) := by
                rw [hB, show z.cps.size = (c :: r).length from hlen]
                exact all_getD (c :: r) fun c => decide (c ∈ (letS ++ figS).cps.toList)
              rw [e3]
              exact k Hb nw.2.2
          · rw [decide_eq_false h3] at hB ⊢
            rw [Bool.false_and] at hB
            rw [hB] at k0
            exact k0
        · rw [show decide ((z.length : Int) ≤ 8) = false from decide_eq_false (by omega)]
          refine iteT ?_
          rw [show decide ((c :: r).length ≤ 8) = false from decide_eq_false (by omega), Bool.false_and] at hB
          rw [hB] at k0
          exact k0
      · refine ⟨_, rfl, ?_⟩
        refine iteT ?_
        have h1' : z.length = 0 := by
          have : ¬ (1 : Int) ≤ z.length := fun q => h1 (decide_eq_true q)
          omega
        have hB : nameB (.str z) = false := by
          show nameS z = _
          unfold nameS
          cases hl : z.cps.toList with
          | nil => rfl
          | cons c r =>
            rw [hl] at lz
            simp at lz
            omega
        rw [hB] at k0
        exact k0
    | int i => exact k0
    | bool b => exact k0
    | none => exact k0
    | list ds => exact k0
    | tuple ds => exact k0
    | dict ds => exact k0
end
/-! ### which name is wrong -/
def sameS : PyData → PyData → Bool
  | .str a, .str b => a == b
  | _, _ => false
def badN (ds : List PyData) (j : Nat) : Bool := decide (3 ≤ j) || (!nameB (ds.getD j .none) || (ds.take j).any (sameS (ds.getD j .none)))
def wrongN : PyData → Option (Option Nat)
  | .tuple ds => match ds with
    | [] => some none
    | d :: r => ((List.range (d :: r).length).find? (badN (d :: r))).map some
  | _ => some none
theorem find_first {n j : Nat} {p : Nat → Bool} (h : ∀ i, i < j → p i = false) (hj : p j = true) (hn : j < n) : (List.range n).find? p = some j := by
  rw [List.find?_range_eq_some]
  exact ⟨hj, by simpa using hn, fun i hi => by rw [h i hi]; rfl⟩
theorem find_no {n : Nat} {p : Nat → Bool} (h : ∀ i, i < n → p i = false) : (List.range n).find? p = none := by
  rw [List.find?_eq_none]
  intro i hi
  rw [h i (List.mem_range.mp hi)]
  exact Bool.false_ne_true
theorem wrong_at {ds : List PyData} {j : Nat} (h : ∀ i, i < j → badN ds i = false) (hj : badN ds j = true) (hn : j < ds.length) : wrongN (.tuple ds) = some (some j) := by
  cases ds with
  | nil => simp at hn
  | cons d r =>
    show ((List.range (d :: r).length).find? (badN (d :: r))).map some = _
    rw [find_first h hj hn]
    rfl
theorem wrong_no {ds : List PyData} (h : ∀ i, i < ds.length → badN ds i = false) (hn : ds ≠ []) : wrongN (.tuple ds) = none := by
  cases ds with
  | nil => exact absurd rfl hn
  | cons d r =>
    show ((List.range (d :: r).length).find? (badN (d :: r))).map some = _
    rw [find_no h]
    rfl
theorem getD_at {ds : List PyData} {j : Nat} {d : PyData} (e : ds[j]? = some d) : ds.getD j .none = d := by
  rw [List.getD_eq_getElem?_getD, e]
  rfl
theorem name_is {d : PyData} (h : nameB d = true) : ∃ z, d = .str z ∧ nameS z = true := by
  cases d with
  | str z => exact ⟨z, rfl, h⟩
  | int i => cases h
  | bool b => cases h
  | none => cases h
  | list ds => cases h
  | tuple ds => cases h
  | dict ds => cases h
theorem bad_no {ds : List PyData} {j : Nat} (h : badN ds j = false) : j < 3 ∧ nameB (ds.getD j .none) = true ∧ (ds.take j).any (sameS (ds.getD j .none)) = false := by
  unfold badN at h
  rw [Bool.or_eq_false_iff, Bool.or_eq_false_iff] at h
  obtain ⟨h1, h2, h3⟩ := h
  refine ⟨?_, ?_, h3⟩
  · have := of_decide_eq_false h1
    omega
  · cases e : nameB (ds.getD j .none) with
    | true => rfl
    | false =>
      rw [e] at h2
      cases h2
/-- what stands ahead is names -/
theorem names_ahead {ds : List PyData} : ∀ {j : Nat}, (∀ i, i < j → badN ds i = false) → j ≤ ds.length → ∃ ns : List Str, ds.take j = ns.map PyData.str ∧ ns.length = j ∧ ∀ z ∈ ns, nameS z = true
  | 0, _, _ => ⟨[], rfl, rfl, fun _ h => by cases h⟩
  | j + 1, h, hl => by
    obtain ⟨ns, e, l, hn⟩ := names_ahead (j := j) (fun i hi => h i (by omega)) (by omega)
    obtain ⟨_, h2, _⟩ := bad_no (h j (Nat.lt_succ_self j))
    have ej : ds[j]? = some ds[j] := List.getElem?_eq_getElem (by omega)
    rw [getD_at ej] at h2
    obtain ⟨z, ez, hz⟩ := name_is h2
    refine ⟨ns ++ [z], ?_, by rw [List.length_append, l]; rfl, fun y hy => ?_⟩
    · rw [List.map_append, ← e, List.map_singleton, ← ez]
      exact List.take_succ_eq_append_getElem (by omega)
    · rcases List.mem_append.mp hy with hy | hy
      · exact hn y hy
      · rw [List.mem_singleton.mp hy]
        exact hz
theorem any_same (z : Str) : ∀ ns : List Str, (ns.map PyData.str).any (sameS (.str z)) = ns.contains z
  | [] => rfl
  | n :: ns => by
    rw [List.map_cons, List.any_cons, any_same z ns, List.contains_cons]
    rfl
theorem vp_strs {K : PySem.W.Frag} {H : Hp} : ∀ {ns : List Str} {vs : List V}, VpAll K H vs (ns.map PyData.str) → vs = ns.map V.str
  | [], _, .nil => rfl
  | w :: ws, _, .cons a b => by
    cases a
    rw [vp_strs b]
    rfl
/-- right names -/
theorem right_names {d : PyData} (h : wrongN d = none) : ∃ ns : List Str, d = namesD ns ∧ OkN ns := by
  cases d with
  | tuple ds =>
    have hne : ds ≠ [] := fun e => by
      rw [e] at h
      cases h
    have hall : ∀ i, i < ds.length → badN ds i = false := fun i hi => by
      cases ds with
      | nil => simp at hi
      | cons d r =>
        have h2 : ((List.range (d :: r).length).find? (badN (d :: r))).map some = none := h
        rw [Option.map_eq_none_iff, List.find?_eq_none] at h2
        have := h2 i (List.mem_range.mpr hi)
        cases e : badN (d :: r) i with
        | false => rfl
        | true => exact absurd e this
    obtain ⟨ns, e, l, hn⟩ := names_ahead hall (Nat.le_refl _)
    rw [List.take_length] at e
    subst e
    rw [List.length_map] at hall
    refine ⟨ns, rfl, ?_, ?_, hn, ?_⟩
    · rcases ns with _ | ⟨n, ns⟩
      · exact absurd rfl hne
      · exact Nat.succ_le_succ (Nat.zero_le _)
    · rcases Nat.lt_or_ge 3 ns.length with h3 | h3
      · have := (bad_no (hall 3 h3)).1
        omega
      · exact h3
    · rw [List.nodup_iff_pairwise_ne, List.pairwise_iff_getElem]
      intro i j hi hj hij e
      obtain ⟨_, _, h3⟩ := bad_no (hall j hj)
      have ej : (ns.map PyData.str)[j]? = some (.str ns[j]) := by
        rw [List.getElem?_map, List.getElem?_eq_getElem hj]
        rfl
      rw [getD_at ej, ← List.map_take, any_same] at h3
      have : ns[j] ∈ ns.take j := by
        rw [← e]
        exact List.mem_take_iff_getElem.mpr ⟨i, by omega, rfl⟩
      rw [List.contains_iff_mem.mpr this] at h3
      cases h3
  | int i => cases h
  | none => cases h
  | bool b => cases h
  | str z => cases h
  | list ds => cases h
  | dict ds => cases h
/-- names that are right are not wrong -/
theorem names_right {ns : List Str} (o : OkN ns) : wrongN (namesD ns) = none := by
  refine wrong_no (fun i hi => ?_) (fun e => ?_)
  · rw [List.length_map] at hi
    have ei : (ns.map PyData.str)[i]? = some (.str ns[i]) := by
      rw [List.getElem?_map, List.getElem?_eq_getElem hi]
      rfl
    have h3 := o.three
    unfold badN
    rw [getD_at ei, ← List.map_take, any_same, not_ahead o.nd (List.getElem?_eq_getElem hi), show nameB (.str ns[i]) = true from o.nm _ (List.getElem_mem hi), decide_eq_false (by omega)]
    rfl
  · have h1 := o.one
    have : ns.length = 0 := by
      rw [← List.length_map (f := PyData.str), e]
      rfl
    omega
/-- four names and more -/
theorem wrong_few {d : PyData} {k : Nat} (h : wrongN d = some (some k)) : k ≤ 3 := by
  cases d with
  | tuple ds =>
    cases ds with
    | nil => cases h
    | cons d r =>
      have h2 : ((List.range (d :: r).length).find? (badN (d :: r))).map some = some (some k) := h
      obtain ⟨j, ej, e⟩ := Option.map_eq_some_iff.mp h2
      cases e
      rw [List.find?_range_eq_some] at ej
      obtain ⟨hk, hl, hf⟩ := ej
      rcases Nat.lt_or_ge 3 k with h3 | h3
      · have := hf 3 h3
        unfold badN at this
        cases this
      · exact h3
  | int i => cases h
  | none => cases h
  | bool b => cases h
  | str z => cases h
  | list ds => cases h
  | dict ds => cases h
end Pg
set_option Elab.async false
set_option linter.all false
set_option maxRecDepth 100000
set_option maxHeartbeats 8000000
namespace Hy
open PySem PySem.Spec PyProof.Rows L2 L2H Gd Rl Fx
/-! own errors raised, of which it is known that no other is their context -/
section
variable {X : Cx} {pins : List (Addr × Obj)} {σ : L2.St} {H : Hp} {s : Shared} {B newId initId : String} {bmB : List Value} {C W fI : Addr} {f : Str} {k : Nat}
theorem made_mkN (I : Inv X pins σ H s) (rz : Raises X (.ref C)) {h' : Heap} {tk' : Nat} {a d t1 : Addr} {mA : Str → Option Value} {fs : List (Str × V)} {Q : XK} (old : ∀ b o, s.heap.get? b = some o → h'.get? b = some o) (sa : s.heap.objs.size ≤ a) (sd : s.heap.objs.size ≤ d) (ne : d ≠ a)
    (ea : h'.get? a = some (excD C t1 (some d))) (hn : h'.Ns1 d mA) (rel : ∀ g, RelO (fs.lookup g) (mA g)) (q : ∀ d, H d = none → Q (.ref C) (some d) (upd H d (.xd fs))) : L2N.MkP X pins σ Q (.ref a) { s with heap := h', toks := tk' } ∧ Six (.ref a) { s with heap := h', toks := tk' } := by
  obtain ⟨G, g1, g2⟩ := restrict h' fun b => decide (b ≠ a)
  have gk : ∀ b, b ≠ a → G.get? b = h'.get? b := fun b hb => g1 b (decide_eq_true hb)
  have ge : G.get? a = none := g2 a (by simp)
  have na : H a = none := I.hok.fresh sa
  have nd : H d = none := I.hok.fresh sd
  have kG : ∀ b o, G.get? b = some o → h'.get? b = some o := fun b o e => by
    rcases Classical.em (b = a) with z | z
    · rw [z, ge] at e
      cases e
    · exact (gk b z).symm.trans e
  have oG : ∀ b o, s.heap.get? b = some o → G.get? b = some o := fun b o e => (gk b (Nat.ne_of_lt (Nat.lt_of_lt_of_le (Heap.lt_size e) sa))).trans (old b o e)
  have J : Inv X pins σ (upd H d (.xd fs)) { s with heap := G, toks := tk' } := by
    refine I.laid (t' := tk') (a := d) (o := .xd fs) (h' := G) oG sd ?_
    obtain ⟨o, es, ep, e1, e2⟩ := hn
    exact ⟨mA, ⟨o, es, ep, (gk d ne).trans e1, e2⟩, rel⟩
  refine ⟨⟨a, _, _, { s with heap := G, toks := tk' }, _, .ref C, some d, rfl, J, kG, ge, ea, ⟨rfl, rfl, fun vs e => by cases e; rfl⟩, rfl, rfl, by rw [upd_ne (Ne.symm ne)]; exact na, rfl, I.bare, rz, q d nd⟩, fun a2 oe vs e1 e2 e3 => ?_⟩
  cases e1
  have e4 : h'.get? a = some oe := e2
  rw [ea] at e4
  cases e4
  cases e3
  show (4 : Nat) < 6
  decide
theorem pmk_err5 {x : Str} {e : Expr} {te : TE} {p pos : Pos} (Z : Root B newId initId bmB) (T : Err1 X.prog X.K X.mg newId initId bmB C W fI f) (rz : Raises X (.ref C)) (hr : X.A.depth + 3 * (k + 1) + 5 < recursionLimit) (gC : X.mg x = some (.ref C)) (hg : Gl X x) (he : PE X e te)
    (hs : starEach [e] X.env = (false, eval e X.env) :: starEach [] X.env := by rfl) (hdb : (x == ("__debug__" : Str)) = false := by decide) :
    PMk5 X (.Call (.Name x p) [e] [] pos) (fun σ H Q => te σ H fun y H1 => ∀ d, H1 d = none → Q (.ref C) (some d) (upd H1 d (.xd [(f, y)]))) := by
  intro pins s σ H Q I h
  refine wpAny_Call_Name_kw (ld_glob I hg gC ?_ hdb)
  refine PySem.W.callWith_K (h₀ := X.base) I.ok.mod.kin T.t.kC ?_ hs (by rfl)
  rw [hs]
  refine Calls.spliced_cons (thn (he.run pins s σ H _ I h) fun u s1 ⟨y, H1, I1, r1, q1⟩ => ?_)
  refine Calls.spliced_nil ⟨I1.kIn, ?_⟩
  exact made_raw Z T hr I1 r1 fun h' tk' a d t1 mA old sa sd ne ea hn rel => made_mkN I1 rz old sa sd ne ea hn rel q1
theorem pmk_errN {x : Str} {e : Expr} {te : TE} {p pos : Pos} (Z : Root B newId initId bmB) (T : Err1 X.prog X.K X.mg newId initId bmB C W fI f) (rz : Raises X (.ref C)) (hr : Room (k + 1) X.A) (gC : X.mg x = some (.ref C)) (hg : Gl X x) (he : PE X e te)
    (hs : starEach [e] X.env = (false, eval e X.env) :: starEach [] X.env := by rfl) (hdb : (x == ("__debug__" : Str)) = false := by decide) :
    L2N.PMk X (.Call (.Name x p) [e] [] pos) (fun σ H Q => te σ H fun y H1 => ∀ d, H1 d = none → Q (.ref C) (some d) (upd H1 d (.xd [(f, y)]))) := (pmk_err5 Z T rz hr.dp gC hg he hs hdb).pmk
end
theorem okXN {P : Program} {w : World} {K : PySem.W.Frag} {mg : Str → Option Value} {base : Heap} {x qual : Str} {params : Arguments} {body : List Stmt} {scope : Scope} {dvs : List V} {kws : List (Str × V)} {f : Addr} {fd : FuncData} {N ps : List Str} {k : Nat} {sp : Sp}
    (F : FunD K x qual params body scope dvs kws f fd) (S : FnScope N ps scope) (len : ∀ vs H Q E, sp vs H Q E → vs.length = ps.length)
    (hbody : ∀ (cdv : Value) (A : Around) (outer : List Env) (s : Shared) (H : Hp) (vs : List V) (Q : VK) (E : XK), Room k (A.deeper (envOfC qual scope s.heap.objs.size f cdv)) → sp vs H Q E →
      ∃ t, PSs (cxOf (L2N.CX P w) P w K mg base N qual scope f cdv A outer s H E) body t ∧ t { nx := fun _ H' => Q .non H', rt := Q } (L2.start N vs) H) : FnOk P w K mg base (L2N.CX P w) (k + 1) f fd ps sp := by
  obtain ⟨oc, od, dV, kV, doc, pm, an, cdv, ct, osl, rfl, lk, hcd, _, _⟩ := F.ex
  exact fn_of lk hcd S len fun A outer s H vs Q E hr hsp => hbody cdv A outer s H vs Q E hr hsp
end Hy
set_option Elab.async false
set_option linter.all false
set_option maxRecDepth 100000
set_option maxHeartbeats 8000000
namespace Pg
open PySem PySem.Spec PyProof.Rows L2 Gd Rl Te Nu TL Hy Fx Ow Vd
def idV : Option Nat → V
  | none => .non
  | some k => .int (k : Nat)
abbrev OutI (E : XK) (H : Hp) (CE : Addr) (v : V) : Prop := ∀ H1 dd, Same H H1 → H1 dd = none → E (.ref CE) (some dd) (upd H1 dd (.xd [("index", v)]))
section
variable {P : Program} {w : World} {K : PySem.W.Frag} {mg : Str → Option Value} {base : Heap} {f : Addr} {fd : FuncData}
def spCNX (K : PySem.W.Frag) (CN : Addr) : Sp := fun vs H Q E => ∃ (v : V) (d : PyData) (m : Nat), vs = [v] ∧ Vp K H v d ∧ m ≤ 990 ∧ FitA m d ∧ (wrongN d = none → ∀ H', Same H H' → Q .non H') ∧ (∀ o, wrongN d = some o → OutI E H CN (idV o))
theorem ok_cnX {fN CN WN fE : Addr} {dN : FuncData} (F : FnP K "_check_names" sCN f fd) (T : Mo mg) (FN : FnP K "is_name" sName fN dN) (gN : mg "is_name" = some (.ref fN)) (XE : ErrK P K mg "InvalidNames" CN WN fE "index") : FnOk P w K mg base (L2N.CX P w) 4 f fd ["names"] (spCNX K CN) := by
  have GN : FnOk P w K mg base CX0 1 fN dN ["value"] (spNV K) := ok_nameV FN T
  have bN : Binds K dN ["value"] [] := FN.bindsN fun _ _ _ _ _ _ us hl => match us, hl with | [_], _ => rfl
  obtain ⟨t1, c1⟩ := T.mvar
  refine okXN F scCN (fun vs H Q E h => ?_) (fun cdv A outer s H vs Q E hr h => ?_)
  · obtain ⟨v, d, m, rfl, _⟩ := h
    rfl
  · obtain ⟨v, d, m, rfl, hv, hm, hf, kY, kN⟩ := h
    have hr1 := hr.mono (show 1 ≤ 3 by decide)
    have hr2 := hr.mono (show 2 ≤ 3 by decide)
    refine ⟨_, pss_cons (ps_if (PW.pt (pw_or (pt_not (pt_val (pe_callB (call_isV (T := "tuple")) (by rfl) T.isi boot_isinstance (pa_cons (pv 0) (pa_cons (pe_bltn (v := .ty "tuple") (by rfl) T.tuple (by decide +kernel) rfl) pa_nil)))))
        (pw_or1 (pt_not (pt_truth (pv 0) (by intro _; rfl)))))) (pss_one (L2N.ps_raise rfl (L2N.takes_of rfl rfl rfl rfl) (pmk_errN rootV XE.e (raises_own XE.sub XE.ty) hr2 XE.g (by rfl) pe_non))) pss_nil)
      <| pss_one (ps_for (passes_of rfl) rfl (pi_enumT (by rfl) T.enum (pa_cons (pv 0) pa_nil)) (pg_tup (by rfl) (pgs_cons (pg_name (i := 1) scCN.nd rfl (.inl rfl)) (pgs_cons (pg_name (i := 2) scCN.nd rfl (.inl rfl)) pgs_nil)))
          (pss_one (ps_if (PW.pt (pw_or (pt_cmpR op_ge (pv 1) (pe_glob (v := .int 3) (by rfl) c1 ⟨_, rfl⟩) (nomark _))
            (pw_or (pt_not (pt_val (pe_call GN hr1 (by rfl) gN FN.kp bN .nil pass0 (pa_cons (pv 2) pa_nil)))) (pw_or1 (pt_cmpR op_in_seq (pv 2) (pe_slice (r := rSlTR K) sl_tupR (pv 0) po_none (po_some (pv 1))) (by rfl)))))) (pss_one (L2N.ps_raise rfl (L2N.takes_of rfl rfl rfl rfl) (pmk_errN rootV XE.e (raises_own XE.sub XE.ty) hr2 XE.g (by rfl) (pv 1)))) pss_nil))), ?_⟩
    have bad : wrongN d = some none → OutI E H CN .non := fun e => kN _ e
    refine ⟨_, rfl, v, d, _, rfl, hv, kit_tuple _, _, rfl, ?_⟩
    cases d with
    | tuple ds =>
      refine iteF ?_
      obtain ⟨a, xs, rfl, hs, hxs⟩ := vp_tup hv
      have lx := vp_len hxs
      obtain ⟨fl, fs⟩ := hf ds rfl
      refine ⟨_, rfl, !xs.isEmpty, .inr (.inl ⟨_, hs, ?_⟩), ?_⟩
      · cases xs <;> rfl
      cases hE : xs.isEmpty with
      | true =>
        have e0 : ds = [] := by
          have : xs = [] := List.isEmpty_iff.mp hE
          rw [this] at lx
          exact List.length_eq_zero_iff.mp lx.symm
        subst e0
        exact iteT fun dd nd => bad rfl H dd (Same.refl H) nd
      | false =>
        have hne : ds ≠ [] := fun e0 => by
          subst e0
          have : xs = [] := List.length_eq_zero_iff.mp lx
          rw [this] at hE
          cases hE
        refine iteF ?_
        refine ⟨_, rfl, a, _, rfl, hs, for_it walk_enumT (fun j σ H' => ∃ x1 x2, σ = [some (.ref a), x1, x2] ∧ Same H H' ∧ ∀ i, i < j → badN ds i = false) ⟨_, _, rfl, Same.refl H, fun i hi => absurd hi (Nat.not_lt_zero i)⟩ (fun j σ H' _ ⟨_, _, _, s, _⟩ => Same.seqT s hs) ?_ ?_⟩
        · rintro j x σ H1 H2 hj ⟨x1, x2, rfl, s1, hall⟩ ⟨N, y, z, rfl, nT, rfl, ey, ez⟩
          cases ey
          obtain ⟨dz, edz, hz⟩ := vp_at hxs ez
          have hj2 : j < ds.length := (List.getElem?_eq_some_iff.mp edz).1
          have s2 : Same H (upd H1 N (.tup [.int (j : Nat), z])) := s1.trans (same_new nT)
          have eg := getD_at edz
          refine ⟨N, _, rfl, SqT.of upd_same, rfl, _, _, rfl, _, _, rfl, rfl, ?_⟩
          refine ⟨_, rfl, _, _, rfl, rfl, _, rfl, ?_⟩
          have raise : ∀ {H3 : Hp}, Same H H3 → badN ds j = true → OutI E H3 CN (.int (j : Nat)) := fun s3 hb H4 dd s4 nd => kN _ (wrong_at hall hb hj2) H4 dd (s3.trans s4) nd
          by_cases h3 : (3 : Int) ≤ (j : Nat)
          · refine iteDY h3 ?_
            refine ⟨_, rfl, fun dd nd => raise s2 ?_ _ dd (Same.refl _) nd⟩
            unfold badN
            rw [decide_eq_true (show 3 ≤ j by omega)]
            rfl
          refine iteDN h3 ?_
          refine ⟨_, rfl, z, dz, rfl, vp_same s2 hz, fs dz (List.mem_of_getElem? edz), fun H3 s3 => ⟨_, rfl, ?_⟩⟩
          have s13 := s2.trans s3
          cases hb : nameB dz with
          | false =>
            refine iteT ?_
            refine ⟨_, rfl, fun dd nd => raise s13 ?_ _ dd (Same.refl _) nd⟩
            unfold badN
            rw [eg, hb]
            simp
          | true =>
            refine iteF ?_
            obtain ⟨nm, rfl, hnm⟩ := name_is hb
            cases hz
            obtain ⟨ns, en, ln, hns⟩ := names_ahead hall (Nat.le_of_lt hj2)
            have hx := vp_take j hxs
            rw [en] at hx
            have ex := vp_strs hx
            refine ⟨_, rfl, _, rfl, _, rfl, _, rfl, a, _, rfl, Same.seqT s13 hs, fun p H4 s4 hp => ?_⟩
            rw [cut_take (by omega), ex] at hp
            have s14 := s13.trans s4
            refine ⟨p, _, rfl, .inr hp, rfl, flat_strs _, _, rfl, ?_⟩
            rw [if_neg Bool.false_ne_true, inV_strs]
            have eb : badN ds j = ns.contains nm := by
              unfold badN
              rw [eg, en, any_same, hb, decide_eq_false (by omega)]
              rfl
            cases hc : ns.contains nm with
            | true => exact iteT ⟨_, rfl, fun dd nd => raise s14 (by rw [eb, hc]) _ dd (Same.refl _) nd⟩
            | false =>
              refine iteF ?_
              refine ⟨_, _, rfl, s14, fun i hi => ?_⟩
              rcases Nat.lt_or_ge i j with h | h
              · exact hall i h
              · have : i = j := by omega
                subst this
                rw [eb, hc]
        · rintro σ H' ⟨x1, x2, rfl, s1, hall⟩
          exact kY (wrong_no (fun i hi => hall i (by omega)) hne) H' s1
    | int i => exact iteT fun dd nd => bad rfl H dd (Same.refl H) nd
    | none => exact iteT fun dd nd => bad rfl H dd (Same.refl H) nd
    | bool b => exact iteT fun dd nd => bad rfl H dd (Same.refl H) nd
    | str z => exact iteT fun dd nd => bad rfl H dd (Same.refl H) nd
    | list ds => exact iteT fun dd nd => bad rfl H dd (Same.refl H) nd
    | dict ds => exact iteT fun dd nd => bad rfl H dd (Same.refl H) nd
end
end Pg
set_option Elab.async false
set_option linter.all false
set_option maxRecDepth 100000
set_option maxHeartbeats 8000000
namespace Pg
open PySem PySem.Spec PyProof.Rows L2 Gd Rl Te Nu TL Hy Fx Ow Vd
/-! ### data without dicts -/
mutual
def nodB : PyData → Bool
  | .dict _ => false
  | .list ds => nodAll ds
  | .tuple ds => nodAll ds
  | _ => true
def nodAll : List PyData → Bool
  | [] => true
  | d :: ds => nodB d && nodAll ds
end
mutual
theorem dp_vp {K : PySem.W.Frag} {H : Hp} : ∀ (d : PyData) {v : V}, nodB d = true → Vp K H v d → Dp K H v d
  | .none, _, _, h => by cases h; exact .non
  | .bool b, _, _, h => by cases h; exact .bl b
  | .int i, _, _, h => by cases h; exact .int i
  | .str z, _, _, h => by cases h; exact .str z
  | .list ds, _, n, h => by
    rw [nodB] at n
    cases h with
    | lst hs ha => exact .lst hs (dp_vpAll ds n ha)
  | .tuple ds, _, n, h => by
    rw [nodB] at n
    cases h with
    | tup hs ha => exact .tup hs (dp_vpAll ds n ha)
  | .dict ds, _, n, h => by
    rw [nodB] at n
    cases n
theorem dp_vpAll {K : PySem.W.Frag} {H : Hp} : ∀ (ds : List PyData) {vs : List V}, nodAll ds = true → VpAll K H vs ds → DpAll K H vs ds
  | [], _, _, h => by cases h; exact .nil
  | d :: ds, _, n, h => by
    rw [nodAll, Bool.and_eq_true] at n
    cases h with
    | cons h1 h2 => exact .cons (dp_vp d n.1 h1) (dp_vpAll ds n.2 h2)
end
theorem nod_map {α : Type} {g : α → PyData} (h : ∀ a, nodB (g a) = true) : ∀ l : List α, nodAll (l.map g) = true
  | [] => rfl
  | a :: l => by
    rw [List.map_cons, nodAll, h a, nod_map h l]
    rfl
theorem nod_f (f : List Int) : nodB (fD f) = true := by
  unfold fD
  rw [nodB]
  exact nod_map (fun _ => rfl) f
theorem nod_say (s : Str × List Int) : nodB (sayD s) = true := by
  unfold sayD
  rw [nodB, nodAll, nodAll, nodAll, nod_f]
  rfl
theorem nod_says (ss : List (Str × List Int)) : nodB (saysD ss) = true := by
  unfold saysD
  rw [nodB]
  exact nod_map nod_say ss
/-! ### which saying is wrong -/
theorem nums_is : ∀ {ds : List PyData}, ds.all numB = true → ∃ f : List Int, ds = f.map PyData.int
  | [], _ => ⟨[], rfl⟩
  | d :: ds, h => by
    rw [List.all_cons, Bool.and_eq_true] at h
    obtain ⟨f, rfl⟩ := nums_is h.2
    cases d with
    | int i => exact ⟨i :: f, rfl⟩
    | bool b => cases h.1
    | none => cases h.1
    | str z => cases h.1
    | list es => cases h.1
    | tuple es => cases h.1
    | dict es => cases h.1
theorem form_is {m : Nat} {d : PyData} (h : formB m d = true) : ∃ f : List Int, d = fD f := by
  cases d with
  | tuple ds =>
    have h2 : (decide (ds.length = m + 1) && ds.all numB) = true := h
    obtain ⟨f, rfl⟩ := nums_is (Bool.and_eq_true_iff.mp h2).2
    exact ⟨f, rfl⟩
  | int i => cases h
  | bool b => cases h
  | none => cases h
  | str z => cases h
  | list es => cases h
  | dict es => cases h
theorem say_is {m : Nat} {d : PyData} (h : sayB m d = true) : ∃ s : Str × List Int, d = sayD s := by
  cases d with
  | tuple ds =>
    match ds, h with
    | [], h => cases h
    | [_], h => cases h
    | [p, f], h =>
      have h2 : (nameB p && formB m f) = true := h
      obtain ⟨h3, h4⟩ := Bool.and_eq_true_iff.mp h2
      obtain ⟨z, rfl, _⟩ := name_is h3
      obtain ⟨g, rfl⟩ := form_is h4
      exact ⟨(z, g), rfl⟩
    | _ :: _ :: _ :: _, h => cases h
  | int i => cases h
  | bool b => cases h
  | none => cases h
  | str z => cases h
  | list es => cases h
  | dict es => cases h
def badS (m : Nat) (ds : List PyData) (j : Nat) : Bool := decide (3 ≤ j) || !sayB m (ds.getD j .none)
def wrongS (m : Nat) : PyData → Option (Option Nat)
  | .tuple ds => ((List.range ds.length).find? (badS m ds)).map some
  | _ => some none
theorem wrongS_at {m : Nat} {ds : List PyData} {j : Nat} (h : ∀ i, i < j → badS m ds i = false) (hj : badS m ds j = true) (hn : j < ds.length) : wrongS m (.tuple ds) = some (some j) := by
  show ((List.range ds.length).find? (badS m ds)).map some = _
  rw [find_first h hj hn]
  rfl
theorem wrongS_no {m : Nat} {ds : List PyData} (h : ∀ i, i < ds.length → badS m ds i = false) : wrongS m (.tuple ds) = none := by
  show ((List.range ds.length).find? (badS m ds)).map some = _
  rw [find_no h]
  rfl
theorem badS_no {m : Nat} {ds : List PyData} {j : Nat} (h : badS m ds j = false) : j < 3 ∧ sayB m (ds.getD j .none) = true := by
  unfold badS at h
  rw [Bool.or_eq_false_iff] at h
  obtain ⟨h1, h2⟩ := h
  refine ⟨?_, ?_⟩
  · have := of_decide_eq_false h1
    omega
  · cases e : sayB m (ds.getD j .none) with
    | true => rfl
    | false =>
      rw [e] at h2
      cases h2
theorem all_is {α : Type} {g : α → PyData} : ∀ {ds : List PyData}, (∀ d ∈ ds, ∃ a, d = g a) → ∃ l : List α, ds = l.map g
  | [], _ => ⟨[], rfl⟩
  | d :: ds, h => by
    obtain ⟨a, rfl⟩ := h d (List.mem_cons_self ..)
    obtain ⟨l, rfl⟩ := all_is fun x hx => h x (List.mem_cons_of_mem _ hx)
    exact ⟨a :: l, rfl⟩
/-- right sayings -/
theorem right_says {m : Nat} {d : PyData} (h : wrongS m d = none) : ∃ ss : List (Str × List Int), d = saysD ss ∧ OkS m ss := by
  cases d with
  | tuple ds =>
    have hall : ∀ i, i < ds.length → badS m ds i = false := fun i hi => by
      have h2 : ((List.range ds.length).find? (badS m ds)).map some = none := h
      rw [Option.map_eq_none_iff, List.find?_eq_none] at h2
      have := h2 i (List.mem_range.mpr hi)
      cases e : badS m ds i with
      | false => rfl
      | true => exact absurd e this
    have hsy : ∀ d ∈ ds, sayB m d = true := fun d hd => by
      obtain ⟨i, hi, ei⟩ := List.getElem_of_mem hd
      have := (badS_no (hall i hi)).2
      rw [getD_at (List.getElem?_eq_getElem hi), ei] at this
      exact this
    obtain ⟨ss, rfl⟩ := all_is (g := sayD) fun d hd => say_is (hsy d hd)
    refine ⟨ss, rfl, ?_, fun s hs => hsy _ (List.mem_map_of_mem hs)⟩
    rcases Nat.lt_or_ge 3 ss.length with h3 | h3
    · have := (badS_no (hall 3 (by rw [List.length_map]; exact h3))).1
      omega
    · exact h3
  | int i => cases h
  | none => cases h
  | bool b => cases h
  | str z => cases h
  | list ds => cases h
  | dict ds => cases h
theorem says_right {m : Nat} {ss : List (Str × List Int)} (o : OkS m ss) : wrongS m (saysD ss) = none := by
  refine wrongS_no fun i hi => ?_
  rw [List.length_map] at hi
  have ei : (ss.map sayD)[i]? = some (sayD ss[i]) := by
    rw [List.getElem?_map, List.getElem?_eq_getElem hi]
    rfl
  have h3 := o.three
  unfold badS
  rw [getD_at ei, o.sy _ (List.getElem_mem hi), decide_eq_false (by omega)]
  rfl
theorem wrongS_few {m : Nat} {d : PyData} {k : Nat} (h : wrongS m d = some (some k)) : k ≤ 3 := by
  cases d with
  | tuple ds =>
    have h2 : ((List.range ds.length).find? (badS m ds)).map some = some (some k) := h
    obtain ⟨j, ej, e⟩ := Option.map_eq_some_iff.mp h2
    cases e
    rw [List.find?_range_eq_some] at ej
    obtain ⟨hk, hl, hf⟩ := ej
    rcases Nat.lt_or_ge 3 k with h3 | h3
    · have := hf 3 h3
      unfold badS at this
      cases this
    · exact h3
  | int i => cases h
  | none => cases h
  | bool b => cases h
  | str z => cases h
  | list ds => cases h
  | dict ds => cases h
section
variable {P : Program} {w : World} {K : PySem.W.Frag} {mg : Str → Option Value} {base : Heap} {f C : Addr} {fd : FuncData}
variable {fI fN fF fS fU fCN fCS fCB fY fB fP fX fW fA fO : Addr} {dI dN dF dS dU dCN dCS dCB dY dB dP dX dW dA dO : FuncData}
def spCSX (K : PySem.W.Frag) (CN : Addr) : Sp := fun vs H Q E => ∃ (v : V) (d : PyData) (m : Nat), vs = [v, .int m] ∧ Vp K H v d ∧ okD d = true ∧ (wrongS m d = none → ∀ H', Same H H' → Q .non H') ∧ (∀ o, wrongS m d = some o → OutI E H CN (idV o))
theorem ok_csX {CN WN fE : Addr} (F : FnP K "_check_sayings" sCS f fd) (T : Mo mg) (J : Js K mg fI fN fF fS dI dN dF dS) (FY : FnP K "_is_saying" sSay fY dY) (gY : mg "_is_saying" = some (.ref fY)) (XE : ErrK P K mg "InvalidSayings" CN WN fE "index") : FnOk P w K mg base (L2N.CX P w) 5 f fd ["sayings", "many"] (spCSX K CN) := by
  have GY : FnOk P w K mg base CX0 4 fY dY ["value", "many"] (spV2 K sayB) := ok_sayV FY T J
  have bY : Binds K dY ["value", "many"] [] := FY.bindsN fun _ _ _ _ _ _ us hl => match us, hl with | [_, _], _ => rfl
  obtain ⟨t1, c1⟩ := T.msay
  refine okXN F scCS (fun vs H Q E h => ?_) (fun cdv A outer s H vs Q E hr h => ?_)
  · obtain ⟨v, d, m, rfl, _⟩ := h
    rfl
  · obtain ⟨v, d, m, rfl, hv, ho, kY, kN⟩ := h
    have hr2 := hr.mono (show 2 ≤ 4 by decide)
    refine ⟨_, pss_cons (ps_if (pt_not (pt_val (pe_callB (call_isV (T := "tuple")) (by rfl) T.isi boot_isinstance (pa_cons (pv 0) (pa_cons (pe_bltn (v := .ty "tuple") (by rfl) T.tuple (by decide +kernel) rfl) pa_nil))))) (pss_one (L2N.ps_raise rfl (L2N.takes_of rfl rfl rfl rfl) (pmk_errN rootV XE.e (raises_own XE.sub XE.ty) hr2 XE.g (by rfl) pe_non))) pss_nil)
      <| pss_one (ps_for (passes_of rfl) rfl (pi_enumT (by rfl) T.enum (pa_cons (pv 0) pa_nil)) (pg_tup (by rfl) (pgs_cons (pg_name (i := 2) scCS.nd rfl (.inl rfl)) (pgs_cons (pg_name (i := 3) scCS.nd rfl (.inl rfl)) pgs_nil)))
          (pss_one (ps_if (PW.pt (pw_or (pt_cmpR op_ge (pv 2) (pe_glob (v := .int 3) (by rfl) c1 ⟨_, rfl⟩) (nomark _))
            (pw_or1 (pt_not (pt_val (pe_call GY hr (by rfl) gY FY.kp bY .nil pass0 (pa_cons (pv 3) (pa_cons (pv 1) pa_nil)))))))) (pss_one (L2N.ps_raise rfl (L2N.takes_of rfl rfl rfl rfl) (pmk_errN rootV XE.e (raises_own XE.sub XE.ty) hr2 XE.g (by rfl) (pv 2)))) pss_nil))), ?_⟩
    have bad : wrongS m d = some none → OutI E H CN .non := fun e => kN _ e
    refine ⟨_, rfl, v, d, _, rfl, hv, kit_tuple _, _, rfl, ?_⟩
    cases d with
    | tuple ds =>
      refine iteF ?_
      obtain ⟨a, xs, rfl, hs, hxs⟩ := vp_tup hv
      have lx := vp_len hxs
      obtain ⟨hl, hk⟩ := ok_tup ho
      refine ⟨_, rfl, a, _, rfl, hs, for_it walk_enumT (fun j σ H' => ∃ x1 x2, σ = [some (.ref a), some (.int m), x1, x2] ∧ Same H H' ∧ ∀ i, i < j → badS m ds i = false) ⟨_, _, rfl, Same.refl H, fun i hi => absurd hi (Nat.not_lt_zero i)⟩ (fun j σ H' _ ⟨_, _, _, s, _⟩ => Same.seqT s hs) ?_ ?_⟩
      · rintro j x σ H1 H2 hj ⟨x1, x2, rfl, s1, hall⟩ ⟨N, y, z, rfl, nT, rfl, ey, ez⟩
        cases ey
        obtain ⟨dz, edz, hz⟩ := vp_at hxs ez
        have hj2 : j < ds.length := (List.getElem?_eq_some_iff.mp edz).1
        have s2 : Same H (upd H1 N (.tup [.int (j : Nat), z])) := s1.trans (same_new nT)
        have eg := getD_at edz
        refine ⟨N, _, rfl, SqT.of upd_same, rfl, _, _, rfl, _, _, rfl, rfl, ?_⟩
        refine ⟨_, rfl, _, _, rfl, rfl, _, rfl, ?_⟩
        have raise : ∀ {H3 : Hp}, Same H H3 → badS m ds j = true → OutI E H3 CN (.int (j : Nat)) := fun s3 hb H4 dd s4 nd => kN _ (wrongS_at hall hb hj2) H4 dd (s3.trans s4) nd
        by_cases h3 : (3 : Int) ≤ (j : Nat)
        · refine iteDY h3 ?_
          refine ⟨_, rfl, fun dd nd => raise s2 ?_ _ dd (Same.refl _) nd⟩
          unfold badS
          rw [decide_eq_true (show 3 ≤ j by omega)]
          rfl
        refine iteDN h3 ?_
        refine ⟨_, rfl, _, rfl, z, dz, m, rfl, vp_same s2 hz, ok_at hk edz, fun H3 s3 => ⟨_, rfl, ?_⟩⟩
        have s13 := s2.trans s3
        have eb : badS m ds j = !sayB m dz := by
          unfold badS
          rw [eg, decide_eq_false (show ¬ 3 ≤ j by omega)]
          rfl
        cases hb : sayB m dz with
        | false =>
          refine iteT ?_
          exact ⟨_, rfl, fun dd nd => raise s13 (by rw [eb, hb]; rfl) _ dd (Same.refl _) nd⟩
        | true =>
          refine iteF ?_
          refine ⟨_, _, rfl, s13, fun i hi => ?_⟩
          rcases Nat.lt_or_ge i j with h | h
          · exact hall i h
          · have : i = j := by omega
            subst this
            rw [eb, hb]
            rfl
      · rintro σ H' ⟨x1, x2, rfl, s1, hall⟩
        exact kY (wrongS_no fun i hi => hall i (by omega)) H' s1
    | int i => exact iteT fun dd nd => bad rfl H dd (Same.refl H) nd
    | none => exact iteT fun dd nd => bad rfl H dd (Same.refl H) nd
    | bool b => exact iteT fun dd nd => bad rfl H dd (Same.refl H) nd
    | str z => exact iteT fun dd nd => bad rfl H dd (Same.refl H) nd
    | list ds => exact iteT fun dd nd => bad rfl H dd (Same.refl H) nd
    | dict ds => exact iteT fun dd nd => bad rfl H dd (Same.refl H) nd
end
end Pg
set_option Elab.async false
set_option linter.all false
set_option maxRecDepth 100000
set_option maxHeartbeats 8000000
namespace Pg
open PySem PySem.Spec PyProof.Rows L2 Gd Rl Te Nu TL Hy Fx Ow Vd
theorem nod_arm (a : Arm) : nodB (armD a) = true := by
  have h1 : nodB (.tuple (a.tests.map fD)) = true := by
    rw [nodB]
    exact nod_map nod_f _
  have h2 : nodB (.tuple (a.turns.map fD)) = true := by
    rw [nodB]
    exact nod_map nod_f _
  unfold armD
  rw [nodB, nodAll, nodAll, nodAll, nodAll, nodAll, h1, h2]
  rfl
theorem nod_arms (as : List Arm) : nodB (armsD as) = true := by
  unfold armsD
  rw [nodB]
  exact nod_map nod_arm as
/-! ### which branch is wrong -/
def srcD : PyData → Str
  | .tuple (.str s :: _) => s
  | _ => ""
def tgtD : PyData → Str
  | .tuple (_ :: .str t :: _) => t
  | _ => ""
def standD (ss : List (Str × List Int)) (ds : List PyData) : List Str := ss.map Prod.fst ++ (ds.map fun d => [srcD d, tgtD d]).flatten
theorem stand_arms (ss : List (Str × List Int)) (as : List Arm) : standD ss (as.map armD) = standS ss as := by
  unfold standD standS
  rw [List.map_map]
  rfl
def badA (m : Nat) (ss : List (Str × List Int)) (ds : List PyData) (j : Nat) : Bool := decide (5 ≤ j) || (!brB m (ds.getD j .none) || decide (3 < (firsts (standD ss (ds.take (j + 1)))).length))
def wrongA (m : Nat) (ss : List (Str × List Int)) : PyData → Option (Option Nat)
  | .tuple ds => match ds with
    | [] => some none
    | d :: r => ((List.range (d :: r).length).find? (badA m ss (d :: r))).map some
  | _ => some none
theorem wrongA_at {m : Nat} {ss : List (Str × List Int)} {ds : List PyData} {j : Nat} (h : ∀ i, i < j → badA m ss ds i = false) (hj : badA m ss ds j = true) (hn : j < ds.length) : wrongA m ss (.tuple ds) = some (some j) := by
  cases ds with
  | nil => simp at hn
  | cons d r =>
    show ((List.range (d :: r).length).find? (badA m ss (d :: r))).map some = _
    rw [find_first h hj hn]
    rfl
theorem wrongA_no {m : Nat} {ss : List (Str × List Int)} {ds : List PyData} (h : ∀ i, i < ds.length → badA m ss ds i = false) (hn : ds ≠ []) : wrongA m ss (.tuple ds) = none := by
  cases ds with
  | nil => exact absurd rfl hn
  | cons d r =>
    show ((List.range (d :: r).length).find? (badA m ss (d :: r))).map some = _
    rw [find_no h]
    rfl
theorem badA_no {m : Nat} {ss : List (Str × List Int)} {ds : List PyData} {j : Nat} (h : badA m ss ds j = false) : j < 5 ∧ brB m (ds.getD j .none) = true ∧ (firsts (standD ss (ds.take (j + 1)))).length ≤ 3 := by
  unfold badA at h
  rw [Bool.or_eq_false_iff, Bool.or_eq_false_iff] at h
  obtain ⟨h1, h2, h3⟩ := h
  refine ⟨?_, ?_, ?_⟩
  · have := of_decide_eq_false h1
    omega
  · cases e : brB m (ds.getD j .none) with
    | true => rfl
    | false =>
      rw [e] at h2
      cases h2
  · have := of_decide_eq_false h3
    omega
theorem forms_is {m : Nat} {d : PyData} (h : formsB m d = true) : ∃ fs : List (List Int), d = .tuple (fs.map fD) := by
  obtain ⟨ds, rfl⟩ := forms_tup h
  have h2 : ds.all (formB m) = true := h
  obtain ⟨fs, rfl⟩ := all_is (g := fD) fun d hd => form_is (List.all_eq_true.mp h2 d hd)
  exact ⟨fs, rfl⟩
theorem br_is {m : Nat} {d : PyData} (h : brB m d = true) : ∃ a : Arm, d = armD a ∧ ArmOk m a := by
  have key : ∃ a : Arm, d = armD a := by
    cases d with
    | tuple ds =>
      match ds, h with
      | [], h => cases h
      | [_], h => cases h
      | [_, _], h => cases h
      | [_, _, _], h => cases h
      | [p, q, ts, cs], h =>
        have h2 : (nameB p && (nameB q && ((formsB m ts && decide (lenD ts ≤ 3)) && (formsB m cs && decide (lenD cs = m))))) = true := h
        simp only [Bool.and_eq_true] at h2
        obtain ⟨h3, h4, ⟨h5, _⟩, h6, _⟩ := h2
        obtain ⟨z, rfl, _⟩ := name_is h3
        obtain ⟨y, rfl, _⟩ := name_is h4
        obtain ⟨fs, rfl⟩ := forms_is h5
        obtain ⟨gs, rfl⟩ := forms_is h6
        exact ⟨⟨z, y, fs, gs⟩, rfl⟩
      | _ :: _ :: _ :: _ :: _ :: _, h => cases h
    | int i => cases h
    | bool b => cases h
    | none => cases h
    | str z => cases h
    | list es => cases h
    | dict es => cases h
  obtain ⟨a, rfl⟩ := key
  exact ⟨a, rfl, arm_is.mp h⟩
/-- what stands ahead is branches -/
theorem arms_ahead {m : Nat} {ss : List (Str × List Int)} {ds : List PyData} : ∀ {j : Nat}, (∀ i, i < j → brB m (ds.getD i .none) = true) → j ≤ ds.length → ∃ as : List Arm, ds.take j = as.map armD ∧ as.length = j ∧ ∀ a ∈ as, ArmOk m a
  | 0, _, _ => ⟨[], rfl, rfl, fun _ h => by cases h⟩
  | j + 1, h, hl => by
    obtain ⟨as, e, l, ha⟩ := arms_ahead (ss := ss) (j := j) (fun i hi => h i (by omega)) (by omega)
    have h2 := h j (Nat.lt_succ_self j)
    have ej : ds[j]? = some ds[j] := List.getElem?_eq_getElem (by omega)
    rw [getD_at ej] at h2
    obtain ⟨a, ea, hok⟩ := br_is h2
    refine ⟨as ++ [a], ?_, by rw [List.length_append, l]; rfl, fun y hy => ?_⟩
    · rw [List.map_append, ← e, List.map_singleton, ← ea]
      exact List.take_succ_eq_append_getElem (by omega)
    · rcases List.mem_append.mp hy with hy | hy
      · exact ha y hy
      · rw [List.mem_singleton.mp hy]
        exact hok
theorem right_arms {m : Nat} {ss : List (Str × List Int)} {d : PyData} (h : wrongA m ss d = none) : ∃ as : List Arm, d = armsD as ∧ OkA m ss as := by
  cases d with
  | tuple ds =>
    have hne : ds ≠ [] := fun e => by
      rw [e] at h
      cases h
    have hall : ∀ i, i < ds.length → badA m ss ds i = false := fun i hi => by
      cases ds with
      | nil => simp at hi
      | cons d r =>
        have h2 : ((List.range (d :: r).length).find? (badA m ss (d :: r))).map some = none := h
        rw [Option.map_eq_none_iff, List.find?_eq_none] at h2
        have := h2 i (List.mem_range.mpr hi)
        cases e : badA m ss (d :: r) i with
        | false => rfl
        | true => exact absurd e this
    obtain ⟨as, e, l, ha⟩ := arms_ahead (ss := ss) (fun i hi => (badA_no (hall i hi)).2.1) (Nat.le_refl ds.length)
    rw [List.take_length] at e
    subst e
    rw [List.length_map] at hall
    have l1 : 1 ≤ as.length := by
      rcases as with _ | ⟨n, ns⟩
      · exact absurd rfl hne
      · exact Nat.succ_le_succ (Nat.zero_le _)
    refine ⟨as, rfl, l1, ?_, ha, ?_⟩
    · rcases Nat.lt_or_ge 5 as.length with h3 | h3
      · have := (badA_no (hall 5 h3)).1
        omega
      · exact h3
    · have h3 := (badA_no (hall (as.length - 1) (by omega))).2.2
      rw [show as.length - 1 + 1 = as.length by omega, ← List.map_take, List.take_length, stand_arms] at h3
      exact h3
  | int i => cases h
  | none => cases h
  | bool b => cases h
  | str z => cases h
  | list ds => cases h
  | dict ds => cases h
theorem arms_right {m : Nat} {ss : List (Str × List Int)} {as : List Arm} (o : OkA m ss as) : wrongA m ss (armsD as) = none := by
  refine wrongA_no (fun i hi => ?_) (fun e => ?_)
  · rw [List.length_map] at hi
    have ei : (as.map armD)[i]? = some (armD as[i]) := by
      rw [List.getElem?_map, List.getElem?_eq_getElem hi]
      rfl
    have h5 := o.five
    have h3 := o.pl
    have h4 := places_take ss as (i + 1)
    unfold badA
    rw [getD_at ei, arm_is.mpr (o.arm _ (List.getElem_mem hi)), decide_eq_false (show ¬ 5 ≤ i by omega), ← List.map_take, stand_arms, show firsts (standS ss (as.take (i + 1))) = placesS ss (as.take (i + 1)) from rfl, decide_eq_false (by omega)]
    rfl
  · have h1 := o.one
    have : as.length = 0 := by
      rw [← List.length_map (f := armD), e]
      rfl
    omega
theorem wrongA_few {m : Nat} {ss : List (Str × List Int)} {d : PyData} {k : Nat} (h : wrongA m ss d = some (some k)) : k ≤ 5 := by
  cases d with
  | tuple ds =>
    cases ds with
    | nil => cases h
    | cons d r =>
      have h2 : ((List.range (d :: r).length).find? (badA m ss (d :: r))).map some = some (some k) := h
      obtain ⟨j, ej, e⟩ := Option.map_eq_some_iff.mp h2
      cases e
      rw [List.find?_range_eq_some] at ej
      obtain ⟨hk, hl, hf⟩ := ej
      rcases Nat.lt_or_ge 5 k with h3 | h3
      · have := hf 5 h3
        unfold badA at this
        cases this
      · exact h3
  | int i => cases h
  | none => cases h
  | bool b => cases h
  | str z => cases h
  | list ds => cases h
  | dict ds => cases h
section
variable {P : Program} {w : World} {K : PySem.W.Frag} {mg : Str → Option Value} {base : Heap} {f C : Addr} {fd : FuncData}
variable {fI fN fF fS fU fCN fCS fCB fY fB fP fX fW fA fO : Addr} {dI dN dF dS dU dCN dCS dCB dY dB dP dX dW dA dO : FuncData}
def spCBX (K : PySem.W.Frag) (CN : Addr) : Sp := fun vs H Q E => ∃ (v u : V) (d : PyData) (m : Nat) (ss : List (Str × List Int)), vs = [v, .int m, u] ∧ m ≤ 990 ∧ Vp K H v d ∧ okD d = true ∧ Dp K H u (saysD ss) ∧ ss.length ≤ 3 ∧ (wrongA m ss d = none → ∀ H', Same H H' → Q .non H') ∧ (∀ o, wrongA m ss d = some o → OutI E H CN (idV o))
theorem ok_cbX {CN WN fE : Addr} (F : FnP K "_check_branches" sCB f fd) (T : Mo mg) (J : Js K mg fI fN fF fS dI dN dF dS) (FB : FnP K "_is_branch" sBr fB dB) (gB : mg "_is_branch" = some (.ref fB)) (FP : FnP K "_places_of" sPl fP dP) (gP : mg "_places_of" = some (.ref fP)) (XE : ErrK P K mg "InvalidBranches" CN WN fE "index") : FnOk P w K mg base (L2N.CX P w) 6 f fd ["branches", "many", "sayings"] (spCBX K CN) := by
  have GB : FnOk P w K mg base CX0 5 fB dB ["value", "many"] (spV2 K brB) := ok_brV FB T J
  have GP : FnOk P w K mg base CX0 1 fP dP ["sayings", "branches"] (spPl K) := ok_pl FP T
  have bB : Binds K dB ["value", "many"] [] := FB.bindsN fun _ _ _ _ _ _ us hl => match us, hl with | [_, _], _ => rfl
  have bP : Binds K dP ["sayings", "branches"] [] := FP.bindsN fun _ _ _ _ _ _ us hl => match us, hl with | [_, _], _ => rfl
  obtain ⟨t1, c1⟩ := T.mbra
  obtain ⟨t2, c2⟩ := T.mpla
  refine okXN F scCB (fun vs H Q E h => ?_) (fun cdv A outer s H vs Q E hr h => ?_)
  · obtain ⟨v, u, d, m, ss, rfl, _⟩ := h
    rfl
  · obtain ⟨v, u, d, m, ss, rfl, hm, hv, ho, hu, l3, kY, kN⟩ := h
    have hr1 := hr.mono (show 1 ≤ 5 by decide)
    have hr2 := hr.mono (show 2 ≤ 5 by decide)
    refine ⟨_, pss_cons (ps_if (PW.pt (pw_or (pt_not (pt_val (pe_callB (call_isV (T := "tuple")) (by rfl) T.isi boot_isinstance (pa_cons (pv 0) (pa_cons (pe_bltn (v := .ty "tuple") (by rfl) T.tuple (by decide +kernel) rfl) pa_nil)))))
        (pw_or1 (pt_not (pt_truth (pv 0) (by intro _; rfl)))))) (pss_one (L2N.ps_raise rfl (L2N.takes_of rfl rfl rfl rfl) (pmk_errN rootV XE.e (raises_own XE.sub XE.ty) hr2 XE.g (by rfl) pe_non))) pss_nil)
      <| pss_one (ps_for (passes_of rfl) rfl (pi_enumT (by rfl) T.enum (pa_cons (pv 0) pa_nil)) (pg_tup (by rfl) (pgs_cons (pg_name (i := 3) scCB.nd rfl (.inl rfl)) (pgs_cons (pg_name (i := 4) scCB.nd rfl (.inl rfl)) pgs_nil)))
          (pss_cons (ps_if (PW.pt (pw_or (pt_cmpR op_ge (pv 3) (pe_glob (v := .int 5) (by rfl) c1 ⟨_, rfl⟩) (nomark _))
            (pw_or1 (pt_not (pt_val (pe_call GB hr (by rfl) gB FB.kp bB .nil pass0 (pa_cons (pv 4) (pa_cons (pv 1) pa_nil)))))))) (pss_one (L2N.ps_raise rfl (L2N.takes_of rfl rfl rfl rfl) (pmk_errN rootV XE.e (raises_own XE.sub XE.ty) hr2 XE.g (by rfl) (pv 3)))) pss_nil)
          <| pss_one (ps_if (pt_cmpR op_gt (pe_callB call_len (by rfl) T.len PySem.boot_len (pa_cons (pe_call GP hr1 (by rfl) gP FP.kp bP .nil pass0 (pa_cons (pv 2) (pa_cons (pe_slice (r := rSlTR K) sl_tupR (pv 0) po_none (po_some (pe_op op_add (pv 3) pe_int))) pa_nil))) pa_nil)) (pe_glob (v := .int 3) (by rfl) c2 ⟨_, rfl⟩) (nomark _)) (pss_one (L2N.ps_raise rfl (L2N.takes_of rfl rfl rfl rfl) (pmk_errN rootV XE.e (raises_own XE.sub XE.ty) hr2 XE.g (by rfl) (pv 3)))) pss_nil))), ?_⟩
    have bad : wrongA m ss d = some none → OutI E H CN .non := fun e => kN _ e
    refine ⟨_, rfl, v, d, _, rfl, hv, kit_tuple _, _, rfl, ?_⟩
    cases d with
    | tuple ds =>
      refine iteF ?_
      obtain ⟨a, xs, rfl, hs, hxs⟩ := vp_tup hv
      have lx := vp_len hxs
      obtain ⟨hl, hk⟩ := ok_tup ho
      refine ⟨_, rfl, !xs.isEmpty, .inr (.inl ⟨_, hs, ?_⟩), ?_⟩
      · cases xs <;> rfl
      cases hE : xs.isEmpty with
      | true =>
        have e0 : ds = [] := by
          have : xs = [] := List.isEmpty_iff.mp hE
          rw [this] at lx
          exact List.length_eq_zero_iff.mp lx.symm
        subst e0
        exact iteT fun dd nd => bad rfl H dd (Same.refl H) nd
      | false =>
        have hne : ds ≠ [] := fun e0 => by
          subst e0
          have : xs = [] := List.length_eq_zero_iff.mp lx
          rw [this] at hE
          cases hE
        refine iteF ?_
        refine ⟨_, rfl, a, _, rfl, hs, for_it walk_enumT (fun j σ H' => ∃ x1 x2, σ = [some (.ref a), some (.int m), some u, x1, x2] ∧ Same H H' ∧ ∀ i, i < j → badA m ss ds i = false) ⟨_, _, rfl, Same.refl H, fun i hi => absurd hi (Nat.not_lt_zero i)⟩ (fun j σ H' _ ⟨_, _, _, s, _⟩ => Same.seqT s hs) ?_ ?_⟩
        · rintro j x σ H1 H2 hj ⟨x1, x2, rfl, s1, hall⟩ ⟨N, y, z, rfl, nT, rfl, ey, ez⟩
          cases ey
          obtain ⟨dz, edz, hz⟩ := vp_at hxs ez
          have hj2 : j < ds.length := (List.getElem?_eq_some_iff.mp edz).1
          have s2 : Same H (upd H1 N (.tup [.int (j : Nat), z])) := s1.trans (same_new nT)
          have eg := getD_at edz
          refine ⟨N, _, rfl, SqT.of upd_same, rfl, _, _, rfl, _, _, rfl, rfl, ?_⟩
          refine ⟨_, rfl, _, _, rfl, rfl, _, rfl, ?_⟩
          have raise : ∀ {H3 : Hp}, Same H H3 → badA m ss ds j = true → OutI E H3 CN (.int (j : Nat)) := fun s3 hb H4 dd s4 nd => kN _ (wrongA_at hall hb hj2) H4 dd (s3.trans s4) nd
          by_cases h3 : (5 : Int) ≤ (j : Nat)
          · refine iteDY h3 ?_
            refine ⟨_, rfl, fun dd nd => raise s2 ?_ _ dd (Same.refl _) nd⟩
            unfold badA
            rw [decide_eq_true (show 5 ≤ j by omega)]
            rfl
          refine iteDN h3 ?_
          refine ⟨_, rfl, _, rfl, z, dz, m, rfl, vp_same s2 hz, ok_at hk edz, fun H3 s3 => ⟨_, rfl, ?_⟩⟩
          have s13 := s2.trans s3
          have eb : badA m ss ds j = (!brB m dz || decide (3 < (firsts (standD ss (ds.take (j + 1)))).length)) := by
            unfold badA
            rw [eg, decide_eq_false (show ¬ 5 ≤ j by omega)]
            rfl
          cases hb : brB m dz with
          | false =>
            refine iteT ?_
            exact ⟨_, rfl, fun dd nd => raise s13 (by rw [eb, hb]; rfl) _ dd (Same.refl _) nd⟩
          | true =>
            refine iteF ?_
            rw [hb] at eb
            obtain ⟨as, eas, las, has⟩ := arms_ahead (ss := ss) (ds := ds) (j := j + 1) (fun i hi => by
              rcases Nat.lt_or_ge i j with h | h
              · exact (badA_no (hall i h)).2.1
              · have : i = j := by omega
                subst this
                rw [eg]
                exact hb) hj2
            rw [eas, stand_arms] at eb
            refine ⟨_, rfl, _, rfl, _, rfl, _, _, rfl, rfl, _, rfl, a, _, rfl, Same.seqT s13 hs, fun p H4 s4 hp => ?_⟩
            rw [show ((j : Int) + 1) = ((j + 1 : Nat) : Int) from rfl, cut_take (by omega)] at hp
            have s14 := s13.trans s4
            have hA : Dp K H4 (.ref p) (armsD as) := by
              refine dp_vp _ (nod_arms as) (.tup hp ?_)
              rw [← eas]
              exact vp_take (j + 1) (vp_sameAll s14 hxs)
            refine ⟨u, .ref p, ss, as, rfl, dp_same s14 _ hu, hA, l3, by omega, fun q H5 s5 hq => ?_⟩
            refine ⟨_, _, rfl, .inr ⟨_, hq, rfl⟩, _, _, rfl, rfl, _, rfl, ?_⟩
            have s15 := s14.trans s5
            by_cases h4 : (3 : Int) < (((placesS ss as).map V.str).length : Nat)
            · refine iteDY h4 ?_
              refine ⟨_, rfl, fun dd nd => raise s15 ?_ _ dd (Same.refl _) nd⟩
              rw [List.length_map] at h4
              rw [eb, show firsts (standS ss as) = placesS ss as from rfl, decide_eq_true (show 3 < (placesS ss as).length by omega)]
              rfl
            · refine iteDN h4 ?_
              refine ⟨_, _, rfl, s15, fun i hi => ?_⟩
              rcases Nat.lt_or_ge i j with h | h
              · exact hall i h
              · have : i = j := by omega
                subst this
                rw [List.length_map] at h4
                rw [eb, show firsts (standS ss as) = placesS ss as from rfl, decide_eq_false (show ¬ 3 < (placesS ss as).length by omega)]
                rfl
        · rintro σ H' ⟨x1, x2, rfl, s1, hall⟩
          exact kY (wrongA_no (fun i hi => hall i (by omega)) hne) H' s1
    | int i => exact iteT fun dd nd => bad rfl H dd (Same.refl H) nd
    | none => exact iteT fun dd nd => bad rfl H dd (Same.refl H) nd
    | bool b => exact iteT fun dd nd => bad rfl H dd (Same.refl H) nd
    | str z => exact iteT fun dd nd => bad rfl H dd (Same.refl H) nd
    | list ds => exact iteT fun dd nd => bad rfl H dd (Same.refl H) nd
    | dict ds => exact iteT fun dd nd => bad rfl H dd (Same.refl H) nd
end
end Pg
set_option Elab.async false
set_option linter.all false
set_option maxRecDepth 100000
set_option maxHeartbeats 8000000
namespace Pg
open PySem PySem.Spec PyProof.Rows L2 Gd Rl Te Nu TL Hy Fx Ow Vd
/-! ### how great what is read can be -/
theorem form_few (t : Str) : (formS t).length ≤ t.length + 1 := by
  unfold formS
  split
  · rw [List.length_map]
    exact split_few (by decide +kernel) (by decide +kernel)
  · exact Nat.zero_le _
structure ArmZ (a : Arm) : Prop where
  s : a.src.length ≤ 980
  t : a.tgt.length ≤ 980
  ts : a.tests.length ≤ 990 ∧ ∀ f ∈ a.tests, f.length ≤ 990
  cs : a.turns.length ≤ 990 ∧ ∀ f ∈ a.turns, f.length ≤ 990
structure MsZ (m : Ms) : Prop where
  nm : m.names.length ≤ 990 ∧ ∀ s ∈ m.names, s.length ≤ 980
  sy : ∀ s ∈ m.says, s.1.length ≤ 980 ∧ s.2.length ≤ 990
  ar : ∀ a ∈ m.arms, ArmZ a
  s : m.src.length ≤ 980
  t : m.tgt.length ≤ 980
  ts : ∀ f ∈ m.tests, f.length ≤ 990
theorem mz0 : MsZ m0 := ⟨⟨by decide, fun _ h => by cases h⟩, fun _ h => (by cases h), fun _ h => (by cases h), by decide +kernel, by decide +kernel, fun _ h => (by cases h)⟩
theorem mz_step {m : Ms} {l : Str} (h : MsZ m) (hl : l.length ≤ 980) (hc : cnt m ≤ 990) : MsZ (stepX m l) := by
  have y1 : tl (" " : Str) ≠ [] := by decide +kernel
  have y2 : (" " : Str).cps.all (· < 256) = true := by decide +kernel
  have y3 : tl ("; " : Str) ≠ [] := by decide +kernel
  have y4 : ("; " : Str).cps.all (· < 256) = true := by decide +kernel
  obtain ⟨hw, hr⟩ := part_each (x := l) y1
  unfold stepX lnX
  generalize Txt.partition l " " = pt at hw hr ⊢
  obtain ⟨w, sp, r⟩ := pt
  dsimp only at hw hr ⊢
  obtain ⟨hp1, hp2⟩ := part_each (x := r) y1
  have ff := form_few r
  unfold cnt at hc
  by_cases c1 : V.str w = V.str "vars"
  · rw [if_pos c1]
    have h1 := split_few (x := r) y1 y2
    exact ⟨⟨by show (Txt.split r " ").length ≤ 990; omega, fun s hs => Nat.le_trans (split_each y1 y2 hs) (by omega)⟩, h.sy, h.ar, h.s, h.t, h.ts⟩
  rw [if_neg c1]
  by_cases c2 : V.str w = V.str "say"
  · rw [if_pos c2]
    refine ⟨h.nm, fun s hs => ?_, h.ar, h.s, h.t, h.ts⟩
    rcases List.mem_append.mp hs with hs | hs
    · exact h.sy s hs
    · rw [List.mem_singleton.mp hs]
      have h2 := form_few (Txt.partition r " ").2.2
      exact ⟨by show (Txt.partition r " ").1.length ≤ 980; omega, by show (formS (Txt.partition r " ").2.2).length ≤ 990; omega⟩
  rw [if_neg c2]
  by_cases c3 : V.str w = V.str "branch"
  · rw [if_pos c3]
    exact ⟨h.nm, h.sy, h.ar, by show (Txt.partition r " ").1.length ≤ 980; omega, by show (Txt.partition r " ").2.2.length ≤ 980; omega, fun _ h => by cases h⟩
  rw [if_neg c3]
  by_cases c4 : V.str w = V.str "test"
  · rw [if_pos c4]
    refine ⟨h.nm, h.sy, h.ar, h.s, h.t, fun f hf => ?_⟩
    rcases List.mem_append.mp hf with hf | hf
    · exact h.ts f hf
    · rw [List.mem_singleton.mp hf]
      omega
  rw [if_neg c4]
  by_cases c5 : V.str w = V.str "then"
  · rw [if_pos c5]
    refine ⟨h.nm, h.sy, fun a ha => ?_, h.s, h.t, h.ts⟩
    rcases List.mem_append.mp ha with ha | ha
    · exact h.ar a ha
    · rw [List.mem_singleton.mp ha]
      have h3 := split_few (x := r) y3 y4
      refine ⟨h.s, h.t, ⟨by show m.tests.length ≤ 990; omega, h.ts⟩, ⟨by show ((Txt.split r "; ").map formS).length ≤ 990; rw [List.length_map]; omega, fun f hf => ?_⟩⟩
      obtain ⟨p, hp, rfl⟩ := List.mem_map.mp (show f ∈ (Txt.split r "; ").map formS from hf)
      have h4 := form_few p
      have h5 := split_each y3 y4 hp
      omega
  rw [if_neg c5]
  exact h
theorem mz_fold : ∀ (ls : List Str) (m : Ms), MsZ m → (∀ l ∈ ls, l.length ≤ 980) → cnt m + ls.length ≤ 990 → MsZ (ls.foldl stepX m)
  | [], m, h, _, _ => h
  | l :: ls, m, h, hl, hc => by
    rw [List.length_cons] at hc
    have h1 := cntX_step m l
    exact mz_fold ls _ (mz_step h (hl l (List.mem_cons_self ..)) (by omega)) (fun q hq => hl q (List.mem_cons_of_mem _ hq)) (by omega)
theorem mz_read {t : Str} (r : Read t) : MsZ (readX t) := mz_fold _ _ mz0 r.l (by have := r.n; show 0 + _ ≤ 990; omega)
theorem cnt_read {t : Str} (r : Read t) : cnt (readX t) ≤ 990 := by
  have := cntX_fold (Txt.split t "\n") m0
  have h0 : cnt m0 = 0 := rfl
  have := r.n
  unfold readX
  omega
/-! ### as data -/
theorem okD_f {f : List Int} (h : f.length ≤ 990) : okD (fD f) = true := by
  unfold fD
  rw [okD, ok_all fun d hd => by obtain ⟨i, _, rfl⟩ := List.mem_map.mp hd; rfl, List.length_map, decide_eq_true (by omega)]
  rfl
theorem okD_fs {fs : List (List Int)} (h : fs.length ≤ 990) (h2 : ∀ f ∈ fs, f.length ≤ 990) : okD (.tuple (fs.map fD)) = true := by
  rw [okD, ok_all fun d hd => by obtain ⟨f, hf, rfl⟩ := List.mem_map.mp hd; exact okD_f (h2 f hf), List.length_map, decide_eq_true (by omega)]
  rfl
theorem okD_says {ss : List (Str × List Int)} (h : ss.length ≤ 990) (h2 : ∀ s ∈ ss, s.1.length ≤ 980 ∧ s.2.length ≤ 990) : okD (saysD ss) = true := by
  unfold saysD
  rw [okD, ok_all fun d hd => by
    obtain ⟨s, hs, rfl⟩ := List.mem_map.mp hd
    obtain ⟨k1, k2⟩ := h2 s hs
    unfold sayD
    simp only [okD, okAll, okD_f k2, List.length_cons, List.length_nil]
    simp
    omega, List.length_map, decide_eq_true (by omega)]
  rfl
theorem okD_arms {as : List Arm} (h : as.length ≤ 990) (h2 : ∀ a ∈ as, ArmZ a) : okD (armsD as) = true := by
  unfold armsD
  rw [okD, ok_all fun d hd => by
    obtain ⟨a, ha, rfl⟩ := List.mem_map.mp hd
    have k := h2 a ha
    have k1 := k.s
    have k2 := k.t
    have k3 := k.ts.1
    have k4 := k.cs.1
    have q1 : okD (.str a.src) = true := decide_eq_true (by omega)
    have q2 : okD (.str a.tgt) = true := decide_eq_true (by omega)
    rw [show armD a = .tuple [.str a.src, .str a.tgt, .tuple (a.tests.map fD), .tuple (a.turns.map fD)] from rfl, okD, okAll, okAll, okAll, okAll, okAll, okD_fs k.ts.1 k.ts.2, okD_fs k.cs.1 k.cs.2, q1, q2]
    rfl, List.length_map, decide_eq_true (by omega)]
  rfl
theorem fit_names {ns : List Str} (h : ns.length ≤ 990) (h2 : ∀ s ∈ ns, s.length ≤ 980) : FitA 990 (namesD ns) := by
  rintro ds e
  cases e
  refine ⟨by rw [List.length_map]; exact h, fun d hd => ?_⟩
  obtain ⟨s, hs, rfl⟩ := List.mem_map.mp hd
  rintro z e
  cases e
  have := h2 s hs
  omega
end Pg
set_option Elab.async false
set_option linter.all false
set_option maxRecDepth 100000
set_option maxHeartbeats 8000000
namespace Pg
open PySem PySem.Spec PyProof.Rows L2 Gd Rl Te Nu TL Hy Fx Ow Vd
theorem namesD_inj : ∀ {a b : List Str}, namesD a = namesD b → a = b := fun {a b} e => by
  have h : a.map PyData.str = b.map PyData.str := PyData.tuple.inj e
  clear e
  induction a generalizing b with
  | nil => cases b with | nil => rfl | cons y ys => cases h
  | cons x xs ih =>
    cases b with
    | nil => cases h
    | cons y ys =>
      rw [List.map_cons, List.map_cons] at h
      obtain ⟨h1, h2⟩ := List.cons.inj h
      rw [PyData.str.inj h1, ih h2]
theorem map_inj {α : Type} {g : α → PyData} (hg : ∀ a b, g a = g b → a = b) : ∀ {a b : List α}, a.map g = b.map g → a = b
  | [], [], _ => rfl
  | [], _ :: _, e => by cases e
  | _ :: _, [], e => by cases e
  | x :: xs, y :: ys, e => by
    rw [List.map_cons, List.map_cons] at e
    obtain ⟨h1, h2⟩ := List.cons.inj e
    rw [hg _ _ h1, map_inj hg h2]
theorem fD_inj {a b : List Int} (e : fD a = fD b) : a = b := map_inj (fun _ _ h => PyData.int.inj h) (PyData.tuple.inj e)
theorem fsD_inj {a b : List (List Int)} (e : PyData.tuple (a.map fD) = .tuple (b.map fD)) : a = b := map_inj (fun _ _ h => fD_inj h) (PyData.tuple.inj e)
theorem saysD_inj {a b : List (Str × List Int)} (e : saysD a = saysD b) : a = b := map_inj (fun x y h => by
  have h2 : [PyData.str x.1, fD x.2] = [PyData.str y.1, fD y.2] := PyData.tuple.inj h
  obtain ⟨h3, h4⟩ := List.cons.inj h2
  exact Prod.ext (PyData.str.inj h3) (fD_inj (List.cons.inj h4).1)) (PyData.tuple.inj e)
theorem armsD_inj {a b : List Arm} (e : armsD a = armsD b) : a = b := map_inj (fun x y h => by
  have h2 : [PyData.str x.src, PyData.str x.tgt, .tuple (x.tests.map fD), .tuple (x.turns.map fD)] = [PyData.str y.src, PyData.str y.tgt, .tuple (y.tests.map fD), .tuple (y.turns.map fD)] := PyData.tuple.inj h
  obtain ⟨h3, h4⟩ := List.cons.inj h2
  obtain ⟨h5, h6⟩ := List.cons.inj h4
  obtain ⟨h7, h8⟩ := List.cons.inj h6
  obtain ⟨x1, x2, x3, x4⟩ := x
  obtain ⟨y1, y2, y3, y4⟩ := y
  have k1 := PyData.str.inj h3
  have k2 := PyData.str.inj h5
  have k3 := fsD_inj h7
  have k4 := fsD_inj (List.cons.inj h8).1
  dsimp only at k1 k2 k3 k4
  rw [k1, k2, k3, k4]) (PyData.tuple.inj e)
section
variable {P : Program} {w : World} {K : PySem.W.Frag} {mg : Str → Option Value} {base : Heap} {f C : Addr} {fd : FuncData}
variable {fI fN fF fS fU fCN fCS fCB fY fB fP fX fW fA fO : Addr} {dI dN dF dS dU dCN dCS dCB dY dB dP dX dW dA dO : FuncData}
/-- any names, sayings, branches of the right kinds: a program, or the error of the first that is wrong -/
def spIniA (K : PySem.W.Frag) (C CN CS CB : Addr) : Sp := fun vs H Q E => ∃ (H0 : Hp) (p dx : Addr) (u v z : V) (ns : List Str) (ss : List (Str × List Int)) (as : List Arm), vs = [.ref p, u, v, z] ∧ Same H0 H ∧ H0 p = none ∧ H p = some (.ins C dx []) ∧ Dp K H0 u (namesD ns) ∧ Dp K H0 v (saysD ss) ∧ Dp K H0 z (armsD as) ∧
  FitA 990 (namesD ns) ∧ okD (saysD ss) = true ∧ okD (armsD as) = true ∧
  (OkP ns ss as → ∀ H', Same H0 H' → ProgAt K C H' p ns ss as → Q .non H') ∧ (¬ OkP ns ss as → ∀ ce v, ce = CN ∨ ce = CS ∨ ce = CB → OutI E H0 ce v)
theorem ok_iniA {CN WN fE CS WS fE2 CB WB fE3 : Addr} (F : FunP K "__init__" "Program.__init__" sIni f fd) (T : Mo mg) (X : Txt K mg C) (XN : ErrK P K mg "InvalidNames" CN WN fE "index") (XS : ErrK P K mg "InvalidSayings" CS WS fE2 "index") (XB : ErrK P K mg "InvalidBranches" CB WB fE3 "index") (D : Defs K mg fI fN fF fS fU fCN fCS fCB fY fB fP fX fW fA fO dI dN dF dS dU dCN dCS dCB dY dB dP dX dW dA dO) : FnOk P w K mg base (L2N.CX P w) 7 f fd ["self", "names", "sayings", "branches"] (spIniA K C CN CS CB) := by
  have GN : FnOk P w K mg base (L2N.CX P w) 4 fCN dCN ["names"] (spCNX K CN) := ok_cnX D.cn T D.J.n D.J.gn XN
  have GS : FnOk P w K mg base (L2N.CX P w) 5 fCS dCS ["sayings", "many"] (spCSX K CS) := ok_csX D.cs T D.J D.y D.gy XS
  have GB : FnOk P w K mg base (L2N.CX P w) 6 fCB dCB ["branches", "many", "sayings"] (spCBX K CB) := ok_cbX D.cb T D.J D.b D.gb D.p D.gp XB
  have GP : FnOk P w K mg base CX0 1 fP dP ["sayings", "branches"] (spPl K) := ok_pl D.p T
  have GX : FnOk P w K mg base CX0 2 fX dX ["names", "sayings", "branches"] (spTx K) := ok_tx D.x T D.w D.gw
  have bN : Binds K dCN ["names"] [] := D.cn.bindsN fun _ _ _ _ _ _ us hl => match us, hl with | [_], _ => rfl
  have bS : Binds K dCS ["sayings", "many"] [] := D.cs.bindsN fun _ _ _ _ _ _ us hl => match us, hl with | [_, _], _ => rfl
  have bB : Binds K dCB ["branches", "many", "sayings"] [] := D.cb.bindsN fun _ _ _ _ _ _ us hl => match us, hl with | [_, _, _], _ => rfl
  have bP : Binds K dP ["sayings", "branches"] [] := D.p.bindsN fun _ _ _ _ _ _ us hl => match us, hl with | [_, _], _ => rfl
  have bX : Binds K dX ["names", "sayings", "branches"] [] := D.x.bindsN fun _ _ _ _ _ _ us hl => match us, hl with | [_, _, _], _ => rfl
  refine okXN F scIni (fun vs H Q E h => ?_) (fun cdv A outer s H vs Q E hr h => ?_)
  · obtain ⟨H0, p, dx, u, v, z, ns, ss, as, rfl, _⟩ := h
    rfl
  · obtain ⟨H0, p, dx, u, v, z, ns, ss, as, rfl, s0, n0, hp, hu, hv, hz, fN0, oS, oB, kY, kN⟩ := h
    have hr5 := hr.mono (show 5 ≤ 6 by decide)
    have hr4 := hr.mono (show 4 ≤ 6 by decide)
    have hr2 := hr.mono (show 2 ≤ 6 by decide)
    have hr1 := hr.mono (show 1 ≤ 6 by decide)
    refine ⟨_, pss_cons (ps_expr (pe_callS GN hr4 (by rfl) D.gcn D.cn.kp bN (fun σ => L2N.passAt (L2N.takes_of rfl rfl rfl rfl) σ) (pa_cons (pv 1) pa_nil)))
      <| pss_cons (ps_expr (pe_callS GS hr5 (by rfl) D.gcs D.cs.kp bS (fun σ => L2N.passAt (L2N.takes_of rfl rfl rfl rfl) σ) (pa_cons (pv 2) (pa_cons (pe_callB call_len (by rfl) T.len PySem.boot_len (pa_cons (pv 1) pa_nil)) pa_nil))))
      <| pss_cons (ps_expr (pe_callS GB hr (by rfl) D.gcb D.cb.kp bB (fun σ => L2N.passAt (L2N.takes_of rfl rfl rfl rfl) σ) (pa_cons (pv 3) (pa_cons (pe_callB call_len (by rfl) T.len PySem.boot_len (pa_cons (pv 1) pa_nil)) (pa_cons (pv 2) pa_nil)))))
      <| pss_cons (ps_fld (pv 0) (pv 1) rfl)
      <| pss_cons (ps_fld (pv 0) (pv 2) rfl)
      <| pss_cons (ps_fld (pv 0) (pv 3) rfl)
      <| pss_cons (ps_fld (pv 0) (pe_call GP hr1 (by rfl) D.gp D.p.kp bP .nil pass0 (pa_cons (pv 2) (pa_cons (pv 3) pa_nil))) rfl)
      <| pss_one (ps_fld (pv 0) (pe_call GX hr2 (by rfl) D.gx D.x.kp bX .nil pass0 (pa_cons (pv 1) (pa_cons (pv 2) (pa_cons (pv 3) pa_nil)))) rfl), ?_⟩
    refine ⟨_, rfl, u, namesD ns, 990, rfl, vp_dp _ (dp_same s0 _ hu), by decide, fN0, fun e1 H1 s1 => ?_, fun o e H1 dd s1 nd => kN (fun ok => by have := names_right ok.n; rw [this] at e; cases e) CN _ (.inl rfl) H1 dd (s0.trans s1) nd⟩
    have okn : OkN ns := by
      obtain ⟨ns2, e2, okn⟩ := right_names e1
      rw [namesD_inj e2]
      exact okn
    have n3 := okn.three
    have lnN : ∀ {H' : Hp}, Same H0 H' → ∃ a, u = .ref a ∧ ∃ xs, SqT K H' a xs ∧ xs.length = ns.length := fun s => by
      obtain ⟨a, e, xs, h1, h2⟩ := dp_lenN (dp_same s _ hu)
      exact ⟨a, e, xs, h1, by rw [h2, List.length_map]⟩
    have s01 := s0.trans s1
    obtain ⟨a, ea, xs, hx, lx⟩ := lnN s01
    subst ea
    refine ⟨_, rfl, _, rfl, _, _, rfl, .inr ⟨_, hx, rfl⟩, ?_⟩
    rw [lx]
    refine ⟨v, saysD ss, ns.length, rfl, vp_dp _ (dp_same s01 _ hv), oS, fun e2 H2 s2 => ?_, fun o e H2 dd s2 nd => kN (fun ok => by have := says_right ok.s; rw [this] at e; cases e) CS _ (.inr (.inl rfl)) H2 dd (s01.trans s2) nd⟩
    have oks : OkS ns.length ss := by
      obtain ⟨ss2, e3, oks⟩ := right_says e2
      rw [saysD_inj e3]
      exact oks
    have s02 := s01.trans s2
    refine ⟨_, rfl, _, rfl, _, _, rfl, .inr ⟨_, Same.seqT s2 hx, rfl⟩, ?_⟩
    rw [lx]
    refine ⟨_, rfl, z, v, armsD as, ns.length, ss, rfl, by omega, vp_dp _ (dp_same s02 _ hz), oB, dp_same s02 _ hv, oks.three, fun e3 H3 s3 => ?_, fun o e H3 dd s3 nd => kN (fun ok => by have := arms_right ok.a; rw [this] at e; cases e) CB _ (.inr (.inr rfl)) H3 dd (s02.trans s3) nd⟩
    have oka : OkA ns.length ss as := by
      obtain ⟨as2, e4, oka⟩ := right_arms e3
      rw [armsD_inj e4]
      exact oka
    have ok : OkP ns ss as := ⟨okn, oks, oka⟩
    have k := kY ok
    have okT := ok.t
    have s03 := s02.trans s3
    have hp3 := s3 _ _ (s2 _ _ (s1 _ _ hp))
    refine ⟨_, rfl, _, rfl, p, C, dx, _, rfl, hp3, X.cl, X.n, (by decide), ?_⟩
    refine ⟨_, rfl, _, rfl, p, C, dx, _, rfl, upd_same, X.cl, X.s, Nat.lt_of_le_of_lt (putF_len _ _ _) (by decide), ?_⟩
    refine ⟨_, rfl, _, rfl, p, C, dx, _, rfl, upd_same, X.cl, X.b, Nat.lt_of_le_of_lt (putF_len _ _ _) (Nat.lt_of_le_of_lt (Nat.succ_le_succ (putF_len _ _ _)) (by decide)), ?_⟩
    have l3 : (putF ("_branches" : Str) z (putF "_sayings" v (putF "_names" (V.ref a) []))).length ≤ 3 := by
      have h1 := putF_len "_branches" z (putF "_sayings" v (putF "_names" (V.ref a) []))
      have h2 := putF_len "_sayings" v (putF "_names" (V.ref a) [])
      have h3 := putF_len "_names" (V.ref a) []
      simp only [List.length_nil] at h3
      omega
    generalize hG : upd (upd (upd H3 p (.ins C dx (putF "_names" (V.ref a) []))) p (.ins C dx (putF "_sayings" v (putF "_names" (V.ref a) [])))) p (.ins C dx (putF "_branches" z (putF "_sayings" v (putF "_names" (V.ref a) [])))) = H4
    have s04 : Same H0 H4 := by
      rw [← hG]
      exact same_put (same_put (same_put s03 n0) n0) n0
    have hp4 : H4 p = some (.ins C dx (putF "_branches" z (putF "_sayings" v (putF "_names" (V.ref a) [])))) := by
      rw [← hG]
      exact upd_same
    clear hG
    refine ⟨_, rfl, _, rfl, v, z, ss, as, rfl, dp_same s04 _ hv, dp_same s04 _ hz, ok.s.three, ok.a.five, fun d H5 s5 hd => ?_⟩
    refine ⟨_, rfl, p, C, dx, _, rfl, s5 _ _ hp4, X.cl, X.p, by omega, ?_⟩
    have s06 : Same H0 (upd H5 p (.ins C dx (putF "_places" (V.ref d) (putF "_branches" z (putF "_sayings" v (putF "_names" (V.ref a) [])))))) := same_put (s04.trans s5) n0
    have l4 : (putF ("_places" : Str) (V.ref d) (putF "_branches" z (putF "_sayings" v (putF "_names" (V.ref a) [])))).length ≤ 4 := by
      have h1 := putF_len "_places" (V.ref d) (putF "_branches" z (putF "_sayings" v (putF "_names" (V.ref a) [])))
      omega
    refine ⟨_, rfl, _, rfl, _, rfl, .ref a, v, z, ns.length, ns, ss, as, rfl, dp_same s06 _ hu, dp_same s06 _ hv, dp_same s06 _ hz, okT, fun H7 s7 => ?_⟩
    refine ⟨_, rfl, p, C, dx, _, rfl, s7 _ _ upd_same, X.cl, X.t, by omega, ?_⟩
    have s08 : Same H0 (upd H7 p (.ins C dx (pfP (.ref a) v z (.ref d) (.str (textS ns ss as))))) := same_put (s06.trans s7) n0
    refine k _ s08 ⟨dx, .ref a, v, z, d, upd_same, dp_same s08 _ hu, dp_same s08 _ hv, dp_same s08 _ hz, ?_⟩
    exact seqT_ins (s7 _ _ upd_same) (Same.seqT s7 (seqT_ins (s5 _ _ hp4) hd))
end
end Pg
set_option Elab.async false
set_option linter.all false
set_option maxRecDepth 100000
set_option maxHeartbeats 8000000
namespace Pg
open PySem PySem.Spec PyProof.Rows L2 Gd Rl Te Nu TL Hy Fx Ow Vd
/-! ### a right text is read back -/
theorem nu_right {i : Int} (hi : -1000000 ≤ i ∧ i ≤ 1000000) : nuB (numS i) = true := by
  unfold nuB
  rw [rm_num]
  have hd : digS (figsS i) = true := List.all_eq_true.mpr fun c hc => decide_eq_true (fig_mem.mpr (numL_digits _ c hc))
  have hne : (figsS i).cps.toList ≠ [] := numL_ne _
  have he : (figsS i).cps.toList.isEmpty = false := by
    cases h : (figsS i).cps.toList with
    | nil => exact absurd h hne
    | cons c r => rfl
  rw [hd, he]
  by_cases hz : i = 0
  · subst hz
    decide +kernel
  · obtain ⟨c, r, e, h49⟩ := numL_head i.natAbs (by omega)
    have hh : (figsS i).cps.toList.head? = some c := by
      show (numL i.natAbs).head? = some c
      rw [e]
      rfl
    rw [hh, decide_eq_false (fun q : some c = some 48 => by have := Option.some.inj q; omega)]
    rfl
theorem word_right {i : Int} (hi : -1000000 ≤ i ∧ i ≤ 1000000) : wordB (numS i) = true := by
  unfold wordB
  rw [nu_right hi, decide_eq_true (num_len hi)]
  rfl
theorem numV_right {i : Int} (hi : -1000000 ≤ i ∧ i ≤ 1000000) : numV (numS i) = i := by
  have h1 := (word_num (word_right hi)).1
  rw [num_read hi] at h1
  exact (Option.some.inj h1).symm
theorem form_right {f : List Int} (ok : OkF f) (hne : f ≠ []) : formS (wordsS f) = f := by
  unfold formS
  rw [words_split hne, if_pos (List.all_eq_true.mpr fun s hs => by
    obtain ⟨i, hi, rfl⟩ := List.mem_map.mp hs
    exact word_right (ok.nums i hi)), List.map_map]
  have : f.map (numV ∘ numS) = f.map id := List.map_congr_left fun i hi => numV_right (ok.nums i hi)
  rw [this, List.map_id]
theorem ln_right {l : Ln} (h : OkL l) : lnX (txtL l) = some l := by
  unfold lnX
  rw [line_part h]
  cases l with
  | v ns =>
    show (if V.str "vars" = V.str "vars" then _ else _) = _
    rw [if_pos rfl, show (restL (.v ns)) = Txt.join " " ns from rfl, names_split h]
  | s p f =>
    show (if V.str "say" = V.str "vars" then _ else if V.str "say" = V.str "say" then _ else _) = _
    rw [if_neg (neV (by decide +kernel)), if_pos rfl]
    show some (Ln.s (Txt.partition (p ++ " " ++ wordsS f) " ").1 (formS (Txt.partition (p ++ " " ++ wordsS f) " ").2.2)) = _
    rw [two_part h.1, form_right h.2.1 h.2.2]
  | b s t =>
    show (if V.str "branch" = V.str "vars" then _ else if V.str "branch" = V.str "say" then _ else if V.str "branch" = V.str "branch" then _ else _) = _
    rw [if_neg (neV (by decide +kernel)), if_neg (neV (by decide +kernel)), if_pos rfl]
    show some (Ln.b (Txt.partition (s ++ " " ++ t) " ").1 (Txt.partition (s ++ " " ++ t) " ").2.2) = _
    rw [two_part h.1]
  | t f =>
    show (if V.str "test" = V.str "vars" then _ else if V.str "test" = V.str "say" then _ else if V.str "test" = V.str "branch" then _ else if V.str "test" = V.str "test" then some (Ln.t (formS (wordsS f))) else _) = _
    rw [if_neg (neV (by decide +kernel)), if_neg (neV (by decide +kernel)), if_neg (neV (by decide +kernel)), if_pos rfl, form_right h.1 h.2]
  | e fs =>
    show (if V.str "then" = V.str "vars" then _ else if V.str "then" = V.str "say" then _ else if V.str "then" = V.str "branch" then _ else if V.str "then" = V.str "test" then _ else if V.str "then" = V.str "then" then some (Ln.e ((Txt.split (Txt.join "; " (fs.map wordsS)) "; ").map formS)) else _) = _
    rw [if_neg (neV (by decide +kernel)), if_neg (neV (by decide +kernel)), if_neg (neV (by decide +kernel)), if_neg (neV (by decide +kernel)), if_pos rfl, turns_split h.1, List.map_map]
    have : fs.map (formS ∘ wordsS) = fs.map id := List.map_congr_left fun f hf => form_right (h.2.2 f hf).1 (h.2.2 f hf).2
    rw [this, List.map_id]
theorem fold_right : ∀ (ls : List Ln) (m : Ms), (∀ l ∈ ls, OkL l) → (ls.map txtL).foldl stepX m = ls.foldl stepM m
  | [], m, _ => rfl
  | l :: ls, m, h => by
    rw [List.map_cons, List.foldl_cons, List.foldl_cons]
    have e : stepX m (txtL l) = stepM m l := by
      unfold stepX
      rw [ln_right (h l (List.mem_cons_self ..))]
    rw [e]
    exact fold_right ls _ fun q hq => h q (List.mem_cons_of_mem _ hq)
theorem read_right {ns : List Str} {ss : List (Str × List Int)} {as : List Arm} (ok : OkP ns ss as) : (readX (textS ns ss as)).names = ns ∧ (readX (textS ns ss as)).says = ss ∧ (readX (textS ns ss as)).arms = as := by
  unfold readX
  rw [text_split ok.n.one ok.t, fold_right _ _ (all_okL ok.n.one ok.t)]
  obtain ⟨s, t, te, e⟩ := fold_all ns ss as
  rw [e]
  exact ⟨rfl, rfl, rfl⟩
end Pg
set_option Elab.async false
set_option linter.all false
set_option maxRecDepth 100000
set_option maxHeartbeats 8000000
namespace Hy
open PySem PySem.Spec PyProof.Rows L2 L2H Gd Rl Fx
/-! try: .. except (A, B, C) as n: .. -/
/-- what the clause wishes of an error of the body: slot i is n's -/
def wAs3 (K : PySem.W.Frag) (cs : List Value) (i m : Nat) (ts : Addr → Value → Option Addr → TS) (Wout : WX) (D : Ends) : WX := fun cls d σ H =>
  ∃ b, PySem.W.exmAny K cls cs = some b ∧ (b = true → ∀ a, H a = none → σ.length = m → ts a cls d { nx := fun σ' H' => D.nx (σ'.set i none) H', rt := D.rt, bk := fun σ' H' => D.bk (σ'.set i none) H', ct := fun σ' H' => D.ct (σ'.set i none) H' } (σ.set i (some (.ref a))) H) ∧ (b = false → Wout cls d σ H)
theorem stays_push {B h : Heap} {o : Obj} (k : B.StaysIn h) : B.StaysIn (h.push o) := fun b u e => Heap.get?_push_of_some _ (k b u e)
theorem flying_push {B h : Heap} {l : List Env} {a : Addr} {Z : Obj → Prop} {o : Obj} (x : HandSPX.FlyingZ B l a Z h) : HandSPX.FlyingZ B l a Z (h.push o) := by
  obtain ⟨x1, x2, x3, oe, vs, T, oT, ts, e1, e2, e3, e4, e5, e6, e7, e8⟩ := x
  exact ⟨stays_push x1, x2, x3.of_keeps fun b u e _ => ⟨u, Heap.get?_push_of_some _ e, rfl⟩, oe, vs, T, oT, ts, Heap.get?_push_of_some _ e1, e2, e3, e4, e5, e6, Heap.get?_push_of_some _ e7, e8⟩
section
variable {X : Cx} {n : Str} {i : Nat} {body suite : List Stmt} {b₀ : Stmt} {pos pos' : Pos} {tb : WX → TS} {ts : Addr → Value → Option Addr → TS} {Wout : WX} {x1 x2 x3 : Str} {c1 c2 c3 : Value} {p1 p2 p3 tp : Pos} {kk : Nat}
/-- the classes of the clause are read: a new tuple holds them -/
theorem three_read {pn : List (Addr × Obj)} {a : Addr} {σ : L2.St} {H : Hp} {s : Shared} {q : Addr × Obj} {Q : Value → Shared → Prop} {E : Value → Shared → Prop} (S : Inv (X.suite a (q :: pn)) [] σ H s) (n1 : Names X x1 c1) (n2 : Names X x2 c2) (n3 : Names X x3 c3)
    (h : Q (.ref s.heap.objs.size) { s with heap := s.heap.push { cls := .type "tuple", data := .seq [c1, c2, c3].toArray } }) :
    wpAny (model X.prog X.w) (X.A.mark (some (.ref a))) (eval (.Tuple [.Name x1 p1, .Name x2 p2, .Name x3 p3] kk tp) X.env) Q E s := by
  have one : ∀ {x : Str} {c : Value} {p : Pos} {Q : Value → Shared → Prop}, Names X x c → Q c s → wpAny (model X.prog X.w) (X.A.mark (some (.ref a))) (eval (.Name x p) X.env) Q E s := fun {x c p Q} hn q0 => by
    obtain ⟨hg, hdbg, hm | ⟨hm, hv, hnn⟩⟩ := hn
    · exact ld_glob (X := X.suite a (q :: pn)) S hg hm q0 hdbg
    · exact ld_blt (X := X.suite a (q :: pn)) S hg hm hv q0 hnn hdbg
  refine wpAny_Tuple (wpAny_items_cons (one n1 (wpAny_items_cons (one n2 (wpAny_items_cons (one n3 (wpAny_items_nil ⟨by size_fits, h⟩)))))))
theorem ps_try3 (hs : X.stack = X.env :: X.outer) (hf : X.env.frame = some X.env.locals) (hN : X.N.Nodup) (hi : X.N[i]? = some n) (hln : X.env.kindOf n = some .local) (n1 : Names X x1 c1) (n2 : Names X x2 c2) (n3 : Names X x3 c3) (tk : Takes X Wout)
    (hb : ∀ (W : WX) (pn : List (Addr × Obj)) (xe : Value → Shared → Prop), Takes (X.tr pn xe) W → PassesOwn (model X.prog X.w) X.A X.env xe → PSs (X.tr pn xe) body (tb W))
    (hsu : ∀ (a : Addr) (oe : Obj) (cls : Value) (d : Option Addr) (pn : List (Addr × Obj)), Zc cls d oe → (∃ vs, oe.data = .fields vs) → PSs (X.suite a ((a, oe) :: pn)) (b₀ :: suite) (ts a cls d)) :
    PS X (.Try body [.ExceptHandler (some (.Tuple [.Name x1 p1, .Name x2 p2, .Name x3 p3] kk tp)) (some n) (b₀ :: suite) pos'] [] [] pos) (fun D σ H => tb (wAs3 X.K [c1, c2, c3] i X.N.length ts Wout D) D σ H) := by
  refine ⟨fun pins s σ H D I h => ?_⟩
  have ok := I.ok
  have hfr : X.A.frames = some (X.env :: X.outer) := by rw [ok.frames, hs]
  have hloc : Loc X.env.scope n := .inl hln
  refine wpAny_Try_except (wpAny_mono ((hb (wAs3 X.K [c1, c2, c3] i X.N.length ts Wout D) (X.pn ++ pins) (fun e s₁ => wpAny (model X.prog X.w) X.A (noteFrame e X.env) (fun _ s₂ => wpAny (model X.prog X.w) X.A (setFlight e none) (fun _ s₃ =>
    wpAny (model X.prog X.w) X.A (handleBy e X.env [.ExceptHandler (some (.Tuple [.Name x1 p1, .Name x2 p2, .Name x3 p3] kk tp)) (some n) (b₀ :: suite) pos']) (SP X pins D) X.xe s₃) X.xe s₂) X.xe s₁) (fun u s' xx => ?_) PassesOwn.looking).run [] s σ H D (I.toTry _) h) (fun f s1 hsp => ?_) fun e s1 he => he)
  · obtain ⟨a, B, sI, pins', σ', H', cls, d, rfl, J', nb, up, sky, na, os, ag, b, hb1, hyes, hno⟩ := xx
    have J : Inv X pins σ' H' sI := J'.ofTry ok
    have sky' : Sky B (X.env :: X.outer) a (Zc cls d) X.env.locals s'.heap := by rw [← hs]; exact sky
    refine Sky.land Zc.steady hfr hf sky' fun h3 fl3 up3 => ?_
    have J3 : Inv X pins σ' H' { s' with heap := h3 } := J.landed nb fl3.1 (up.trans up3) os ag
    obtain ⟨oe3, vs3, he3, hz3, hd3⟩ := fl3.there
    have nfr : a ∉ frs (X.env :: X.outer) := fun hm => by
      obtain ⟨_, o', e', hnf⟩ := fl3.2.2.1.mem hm
      rw [he3] at e'
      cases e'
      exact hnf _ hd3
    have nL : a ≠ X.env.locals := fun z => nfr (List.mem_filterMap.mpr ⟨X.env, List.mem_cons_self, by rw [hf, z]⟩)
    have nF : a ∉ X.fs := fun hm => by
      obtain ⟨e, he, q⟩ := List.mem_filterMap.mp hm
      exact nfr (List.mem_filterMap.mpr ⟨e, List.mem_cons_of_mem _ he, q⟩)
    have S3 := J3.suite he3 hd3 na nL nF
    refine wpAny_handleBy_cons (codeAny_handlers_test ?_) (by intro q; cases q)
    refine three_read S3 n1 n2 n3 ?_
    have kp : ∀ b o, h3.get? b = some o → (h3.push { cls := .type "tuple", data := .seq [c1, c2, c3].toArray }).get? b = some o := fun b o e => Heap.get?_push_of_some _ e
    have LT : PySem.W.Looks (model X.prog X.w) (h3.push { cls := .type "tuple", data := .seq [c1, c2, c3].toArray }) (typeOf (.ref a)) cls := fun A Q E s k q => wpAny_typeOf_ref (k _ _ (kp _ _ he3)) (by rw [hz3.1]; exact q)
    have LM := PySem.W.exm_tup3 (M := model X.prog X.w) (J3.kIn.keeps kp) LT (Heap.get?_push_size h3 rfl) hb1
    have flp : HandSPX.FlyingZ B (X.env :: X.outer) a (Zc cls d) (h3.push { cls := .type "tuple", data := .seq [c1, c2, c3].toArray }) := flying_push fl3
    have upp : s'.heap.UpToSlots (h3.push { cls := .type "tuple", data := .seq [c1, c2, c3].toArray }) := up3.trans (Heap.UpToSlots.of_keeps kp)
    refine LM.here ?_
    generalize h3.push { cls := .type "tuple", data := .seq [c1, c2, c3].toArray } = h3' at flp upp
    cases b with
    | true =>
      refine codeAny_handlers_suite_as (HandSPX.lands_againZ flp fun h4 fl4 up4 => ?_)
      have J4 : Inv X pins σ' H' { s' with heap := h4 } := J.landed nb fl4.1 ((up.trans upp).trans up4) os ag
      obtain ⟨oe4, vs4, he4, hz4, hd4⟩ := fl4.there
      have S4 := J4.suite he4 hd4 na nL nF
      refine store_ok (X := X.suite a ((a, oe4) :: (X.pn ++ pins))) (v := .ref a) S4 hN hi hloc rfl (fun s5 S5 => ?_) (.inr hln)
      refine wpAny_mono ((hsu a oe4 cls d (X.pn ++ pins) hz4 ⟨_, hd4⟩).run [] s5 _ H' _ S5 (hyes rfl a na J.len)) (fun f s6 hsp => ?_) (fun _ _ z => False.elim z)
      have last : ∀ {σ6 : L2.St} {H6 : Hp} {Q : Shared → Prop}, Inv (X.suite a ((a, oe4) :: (X.pn ++ pins))) [] σ6 H6 s6 → (∀ s7, Inv X pins (σ6.set i none) H6 s7 → Q s7) →
          wpAny (model X.prog X.w) X.A (do bindName X.env n .none; unbindBehindTheSuite X.env n pos') (fun _ s7 => Q s7) X.xe s6 := fun {σ6 H6 Q} S6 hq => gone_ok (S6.unsuite ok) hN hi hln hq
      cases f with
      | next =>
        obtain ⟨σ6, H6, S6, q6⟩ := hsp
        exact last S6 fun s7 J7 => ⟨_, _, J7, q6⟩
      | brk =>
        obtain ⟨σ6, H6, S6, q6⟩ := hsp
        exact last S6 fun s7 J7 => ⟨_, _, J7, q6⟩
      | cont =>
        obtain ⟨σ6, H6, S6, q6⟩ := hsp
        exact last S6 fun s7 J7 => ⟨_, _, J7, q6⟩
      | ret u =>
        obtain ⟨v6, σ6, H6, S6, r6, q6⟩ := hsp
        exact last S6 fun s7 J7 => ⟨_, _, _, J7, r6, q6⟩
    | false =>
      refine wpAny_handleBy_nil ?_
      obtain ⟨k1, k2, k3, oe, vs, T, oT, ts', he, hz, hd, h1, hr⟩ := id flp
      unfold PySem.passOn
      refine wpAny_bind (wpAny_field he hd h1 ?_)
      rw [if_neg (show ¬ ((Value.ref T == Value.none) = true) from by simp)]
      have fin : wpAny (model X.prog X.w) X.A (setFlight (.ref a) X.env.frame) (fun _ s4 => wpAny (model X.prog X.w) X.A (throw (.ref a) : Sem Flow) (SP X pins D) X.xe s4) X.xe { s' with heap := h3' } := by
        rw [hf]
        refine HandSPX.setFlight_upZ flp fun h4 hh4 up4 => wpAny_throw (tk _ _ ⟨a, B, sI, pins, σ', H', cls, d, rfl, J, nb, (up.trans upp).trans up4, .inr (.inr (by rw [hs]; exact hh4)), na, os, ag, hno rfl⟩)
      first
        | exact wpAny_bind (wpAny_pure (wpAny_bind fin))
        | exact wpAny_bind fin
  · cases f with
    | next =>
      obtain ⟨σ', H', J', q⟩ := hsp
      exact wpAny_execs_nil ⟨σ', H', J'.ofTry ok, q⟩
    | brk =>
      obtain ⟨σ', H', J', q⟩ := hsp
      exact ⟨σ', H', J'.ofTry ok, q⟩
    | cont =>
      obtain ⟨σ', H', J', q⟩ := hsp
      exact ⟨σ', H', J'.ofTry ok, q⟩
    | ret u =>
      obtain ⟨v, σ', H', J', r, q⟩ := hsp
      exact ⟨v, σ', H', J'.ofTry ok, r, q⟩
end
end Hy
set_option Elab.async false
set_option linter.all false
set_option maxRecDepth 100000
set_option maxHeartbeats 8000000
namespace Hy
open PySem PySem.Spec PyProof.Rows L2 L2H Gd Rl Fx HotX
/-! try: .. except (A, B, C): a suite that raises out of it -/
def wOnly3 (K : PySem.W.Frag) (cs : List Value) (ts : Addr → Value → Option Addr → TS) (Wout : WX) (D : Ends) : WX := fun cls d σ H =>
  ∃ b, PySem.W.exmAny K cls cs = some b ∧ (b = true → ∀ a, H a = none → ts a cls d D σ H) ∧ (b = false → Wout cls d σ H)
section
variable {X : Cx} {pins : List (Addr × Obj)} {D : Ends} {f : Flow} {s : Shared}
/-- how a suite ends is how the statement ends -/
theorem sp_suite {a : Addr} {oe : Obj} (ok : X.Ok) (h : SP (suiteX X a ((a, oe) :: (X.pn ++ pins))) [] D f s) : SP X pins D f s := by
  cases f with
  | next => exact h.elim fun σ z => z.elim fun H y => ⟨σ, H, unsuiteX y.1 ok, y.2⟩
  | brk => exact h.elim fun σ z => z.elim fun H y => ⟨σ, H, unsuiteX y.1 ok, y.2⟩
  | cont => exact h.elim fun σ z => z.elim fun H y => ⟨σ, H, unsuiteX y.1 ok, y.2⟩
  | ret u => exact h.elim fun v z => z.elim fun σ y => y.elim fun H x => ⟨v, σ, H, unsuiteX x.1 ok, x.2⟩
variable {Wout : WX}
/-- an error flies on behind the clauses -/
theorem fly_on (hs : X.stack = X.env :: X.outer) (hf : X.env.frame = some X.env.locals) (tk : L2.Takes X Wout) {a : Addr} {B : Heap} {sI : Shared} {σ : L2.St} {H : Hp} {cls : Value} {d : Option Addr} {h3 : Heap} (J : Inv X pins σ H sI)
    (nb : ∀ b o, sI.heap.get? b = some o → b ∉ frs X.stack → B.get? b = some o) (up : sI.heap.UpToSlots h3) (fl : HandSPX.FlyingZ B (X.env :: X.outer) a (Zc cls d) h3) (na : H a = none) (os : s.os = sI.os) (ag : AllBare s.gens) (wish : Wout cls d σ H) :
    wpAny (model X.prog X.w) X.A (handleBy (.ref a) X.env []) (SP X pins D) X.xe { s with heap := h3 } := by
  have thrown : wpAny (model X.prog X.w) X.A (setFlight (.ref a) X.env.frame) (fun _ z => wpAny (model X.prog X.w) X.A (throw (.ref a) : Sem Flow) (SP X pins D) X.xe z) X.xe { s with heap := h3 } := by
    rw [hf]
    exact HandSPX.setFlight_upZ fl fun h4 air up4 => wpAny_throw (tk _ _ ⟨a, B, sI, pins, σ, H, cls, d, rfl, J, nb, up.trans up4, .inr (.inr (by rw [hs]; exact air)), na, os, ag, wish⟩)
  obtain ⟨_, _, _, oe, vs, T, oT, _, he, _, hd, h1, _⟩ := id fl
  refine wpAny_handleBy_nil (wpAny_bind (wpAny_field he hd h1 ?_))
  rw [if_neg (by simp)]
  first | exact wpAny_bind (wpAny_pure (wpAny_bind thrown)) | exact wpAny_bind thrown
end
section
variable {X : Cx} {body suite : List Stmt} {b₀ : Stmt} {pos pos' : Pos} {tb : WX → TS} {ts : Addr → Value → Option Addr → TS} {Wout : WX} {x1 x2 x3 : Str} {c1 c2 c3 : Value} {p1 p2 p3 tp : Pos} {kk : Nat}
theorem ps_try3X (hs : X.stack = X.env :: X.outer) (hf : X.env.frame = some X.env.locals) (n1 : Names X x1 c1) (n2 : Names X x2 c2) (n3 : Names X x3 c3) (hpa : ∀ hd : Option Value, PassesOwnAt (model X.prog X.w) (X.A.mark hd) X.A X.env X.xe) (tk : L2.Takes X Wout)
    (hb : ∀ (W : WX) (pn : List (Addr × Obj)) (xe : Value → Shared → Prop), L2N.Takes (X.tr pn xe) W → PassesOwn (model X.prog X.w) X.A X.env xe → PSs (X.tr pn xe) body (tb W))
    (hsu : ∀ (a : Addr) (oe : Obj) (cls : Value) (d : Option Addr) (pn : List (Addr × Obj)), L2.Takes (suiteX X a ((a, oe) :: pn)) Wout → HotC (suiteX X a ((a, oe) :: pn)) → PSs (suiteX X a ((a, oe) :: pn)) (b₀ :: suite) (ts a cls d)) :
    PS X (.Try body [.ExceptHandler (some (.Tuple [.Name x1 p1, .Name x2 p2, .Name x3 p3] kk tp)) none (b₀ :: suite) pos'] [] [] pos) (fun D σ H => tb (wOnly3 X.K [c1, c2, c3] ts Wout D) D σ H) := ⟨fun pins s σ H D I h => by
  have ok := I.ok
  have fr : X.A.frames = some (X.env :: X.outer) := ok.frames.trans (by rw [hs])
  refine wpAny_Try_except (wpAny_mono ((hb (wOnly3 X.K [c1, c2, c3] ts Wout D) (X.pn ++ pins) (fun e sa => wpAny (model X.prog X.w) X.A (noteFrame e X.env) (fun _ sb => wpAny (model X.prog X.w) X.A (setFlight e none) (fun _ sc =>
    wpAny (model X.prog X.w) X.A (handleBy e X.env [.ExceptHandler (some (.Tuple [.Name x1 p1, .Name x2 p2, .Name x3 p3] kk tp)) none (b₀ :: suite) pos']) (SP X pins D) X.xe sc) X.xe sb) X.xe sa) (fun u s' air => ?_) PassesOwn.looking).run [] s σ H D (I.toTry _) h) (fun fl s1 q => ?_) fun _ _ z => z)
  · obtain ⟨a, B, sI, _, σ', H', cls, d, rfl, J', nb, up, sky, na, os, ag, b, hit, yes, no⟩ := air
    have J := J'.ofTry ok
    rw [hs] at sky
    refine L2N.Sky.land L2N.Zn.steady fr hf sky fun h3 fl3 up3 => ?_
    have out : ∀ {h : Heap} {o : Obj} {vs : Array Value}, h.FunFrames B (X.env :: X.outer) → h.get? a = some o → o.data = .fields vs → a ≠ X.env.locals ∧ a ∉ X.fs := fun {h o vs} ff e dd => by
      have nf : a ∉ frs (X.env :: X.outer) := fun m => (ff.mem m).elim fun _ z => z.elim fun o' y => by
        rw [e] at y
        cases y.1
        exact y.2 _ dd
      refine ⟨fun z => nf (List.mem_filterMap.mpr ⟨X.env, List.mem_cons_self, by rw [hf, z]⟩), fun m => ?_⟩
      obtain ⟨e', he', q⟩ := List.mem_filterMap.mp m
      exact nf (List.mem_filterMap.mpr ⟨e', List.mem_cons_of_mem _ he', q⟩)
    have J3 : Inv X pins σ' H' { s' with heap := h3 } := J.landed nb fl3.1 (up.trans up3) os ag
    obtain ⟨oe3, vs3, he3, hz3, hd3⟩ := fl3.there
    obtain ⟨nL, nF⟩ := out fl3.2.2.1 he3 hd3
    refine wpAny_handleBy_cons (codeAny_handlers_test (three_read (J3.suite he3 hd3 na nL nF) n1 n2 n3 ?_)) (by intro q; cases q)
    have kp : ∀ b o, h3.get? b = some o → (h3.push { cls := .type "tuple", data := .seq [c1, c2, c3].toArray }).get? b = some o := fun _ _ => Heap.get?_push_of_some _
    refine (PySem.W.exm_tup3 (M := model X.prog X.w) (J3.kIn.keeps kp) (fun A Q E z kz q => wpAny_typeOf_ref (kz _ _ (kp _ _ he3)) (by rw [hz3.1]; exact q)) (Heap.get?_push_size h3 rfl) hit).here ?_
    have flp : HandSPX.FlyingZ B (X.env :: X.outer) a (L2N.Zn cls d) (h3.push { cls := .type "tuple", data := .seq [c1, c2, c3].toArray }) := flying_push fl3
    have upp := (up.trans up3).trans (Heap.UpToSlots.of_keeps kp)
    generalize h3.push { cls := .type "tuple", data := .seq [c1, c2, c3].toArray } = h4 at flp upp
    cases b with
    | false => exact fly_on (s := s') hs hf tk J nb upp (flyingZ_imp (fun _ z => z.zc) flp) na os ag (no rfl)
    | true =>
      refine codeAny_handlers_suite (HandSPX.lands_againZ flp fun h5 fl5 up5 => ?_)
      obtain ⟨oe, vs, he, hz, hd⟩ := fl5.there
      have J5 : Inv X pins σ' H' { s' with heap := h5 } := J.landed nb fl5.1 (upp.trans up5) os ag
      have S := J5.suite he hd na nL nF
      have tkS : L2.Takes (suiteX X a ((a, oe) :: (X.pn ++ pins))) Wout := fun u2 s2 air2 => by
        obtain ⟨a2, B2, sI2, _, σ2, H2, cls2, d2, e2, I2, rest⟩ := air2
        exact tk u2 s2 ⟨a2, B2, sI2, pins, σ2, H2, cls2, d2, e2, unsuiteX I2 ok, rest⟩
      exact wpAny_mono ((hsu a oe cls d (X.pn ++ pins) tkS ⟨(a, oe), ⟨rfl, vs, hd, hz.2.2 vs hd⟩, List.mem_cons_self⟩).run [] _ _ H' _ (suiteX_of S) (yes rfl a na)) (fun _ _ q => sp_suite ok q) fun e6 s6 z => hpa (some (.ref a)) e6 s6 z
  · cases fl with
    | next => exact q.elim fun σ' z => z.elim fun H' y => wpAny_execs_nil ⟨σ', H', y.1.ofTry ok, y.2⟩
    | brk => exact q.elim fun σ' z => z.elim fun H' y => ⟨σ', H', y.1.ofTry ok, y.2⟩
    | cont => exact q.elim fun σ' z => z.elim fun H' y => ⟨σ', H', y.1.ofTry ok, y.2⟩
    | ret u => exact q.elim fun v z => z.elim fun σ' y => y.elim fun H' x => ⟨v, σ', H', x.1.ofTry ok, x.2⟩⟩
end
end Hy
set_option Elab.async false
set_option linter.all false
set_option maxRecDepth 100000
set_option maxHeartbeats 8000000
namespace Hy
open PySem PySem.Spec PyProof.Rows L2 L2H Gd Rl Fx Ow
/-! a thing made by a class in a slot, whose __init__ may raise what the slots are told of -/
section
variable {X : Cx} {CX : CXT} {k : Nat} {f C : Addr} {fd : FuncData} {ps : List Str} {sp : Sp} {dvs : List V} {ds : List Value}
theorem run_makeAt {E : XK} {pins : List (Addr × Obj)} {σ : L2.St} {H : Hp} {s : Shared} {Q : VK} {us : List Value} {vs : List V} (M : Mk X.K C f) (F : FnOk X.prog X.w X.K X.mg X.base CX k f fd ps sp) (hr : Room (k + 1) X.A) (hb : Binds X.K fd ps ds) (hd : Vals dvs ds)
    (hx : PassesAt CX X σ E) (I : Inv X pins σ H s) (r : Vals vs us)
    (h : ∀ x dx, H x = none → H dx = none → dx ≠ x → sp (.ref x :: (vs ++ dvs)) (upd (upd H dx (.own x)) x (.ins C dx [])) (fun v H2 => v = .non ∧ Q (.ref x) H2) E) :
    wpAny (model X.prog X.w) X.A (call (.ref C) us) (EP X pins σ Q) X.xe s := by
  generalize hn : s.heap.objs.size = n
  have new : ∀ j, n ≤ j → H j = none := fun j hj => I.hok.fresh (by omega)
  have q := h (n + 1) n (new _ (Nat.le_succ _)) (new _ (Nat.le_refl _)) (Nat.ne_of_lt (Nat.lt_succ_self _))
  have J := Inv.made (C := C) I
  rw [hn] at J
  have rr : Vals (V.ref (n + 1) :: (vs ++ dvs)) (Value.ref (n + 1) :: (us ++ ds)) := .cons rfl (r.append hd)
  have len : (Value.ref (n + 1) :: us ++ ds).length = ps.length := (F.len _ _ _ _ q ▸ rr.length).symm
  refine wpAny_call (make_map (f := f) I.kIn M.makes M.init (beq_iff_eq.mp M.fn) ?_)
  rw [hn]
  refine codeAny_mono (F.run _ X.stack _ _ ⟨Value.ref (n + 1) :: us, []⟩ (Value.ref (n + 1) :: (us ++ ds)) _ _ E (hr.make C us []) (J.env0.make C us []) (hb _ (Value.ref (n + 1) :: us) J.kIn len) rr q) fun res s' z => ?_
  match res, z with
  | .error e, z => exact hx pins _ _ e s' J z
  | .ok (.ret u), z =>
    obtain ⟨_, H', J', rv, e, q3⟩ := J.after z
    rw [e] at rv
    exact ⟨rv, ⟨.ref (n + 1), H', J', rfl, q3⟩⟩
/-- x(e, ..), the i-th slot holds the class at C -/
def tMakeLS (i : Nat) (C : Addr) (sp : Sp) (dvs : List V) (E : L2.St → XK) (t : TA) : TE := fun σ H Q => σ[i]? = some (some (.ref C)) ∧ tMake C sp dvs (E σ) t σ H Q
theorem pe_makeLS {i : Nat} {E : L2.St → XK} {x : Str} {p pos : Pos} {e : Expr} {es : List Expr} {t : TA} (M : Mk X.K C f) (F : FnOk X.prog X.w X.K X.mg X.base CX k f fd ps sp) (hr : Room (k + 1) X.A) (hN : X.N[i]? = some x) (hv : Vis X.env.scope x) (hb : Binds X.K fd ps ds) (hd : Vals dvs ds)
    (hx : ∀ σ, PassesAt CX X σ (E σ)) (ha : PA X (e :: es) t) (hdb : (x == ("__debug__" : Str)) = false := by decide) (hcd : (x == ("__classdict__" : Str)) = false := by decide)
    (he : starEach (e :: es) X.env = (false, eval e X.env) :: starEach es X.env := by rfl) (hpl : (backTo pos (starEach es X.env)).any (·.1) = false := by rfl) : PE X (.Call (.Name x p) (e :: es) [] pos) (tMakeLS i C sp dvs E t) :=
  ⟨fun pins s σ H Q I ⟨h1, h2⟩ => wpAny_Call_Name_kw (thn ((pe_var (pos := p) hN hv hdb hcd).run pins s σ H (fun v H1 => v = .ref C ∧ H1 = H) I ⟨.ref C, h1, rfl, rfl⟩) fun u s1 ⟨v, H1, I1, r1, q1⟩ => by
    obtain ⟨rfl, rfl⟩ := q1
    cases r1
    exact PySem.W.callWith_K (h₀ := X.base) I.ok.mod.kin M.kp (thn (ha.run pos pins s1 σ _ _ I1 h2) fun us s2 ⟨vs, H2, I2, r, q⟩ => ⟨I2.kIn, run_makeAt M F hr hb hd (hx σ) I2 r q⟩) he hpl)⟩
end
end Hy
set_option Elab.async false
set_option linter.all false
set_option maxRecDepth 100000
set_option maxHeartbeats 8000000
namespace Pg
open PySem PySem.Spec PyProof.Rows L2 L2H HotX Gd Rl Te Nu TL Hy Fx Ow Vd
/-- the three errors that are caught there -/
structure Cat3 (K : PySem.W.Frag) (mg : Str → Option Value) (CN CS CB : Addr) : Prop where
  gn : mg "InvalidNames" = some (.ref CN)
  gs : mg "InvalidSayings" = some (.ref CS)
  gb : mg "InvalidBranches" = some (.ref CB)
  n : PySem.W.exmAny K (.ref CN) [.ref CN, .ref CS, .ref CB] = some true
  s : PySem.W.exmAny K (.ref CS) [.ref CN, .ref CS, .ref CB] = some true
  b : PySem.W.exmAny K (.ref CB) [.ref CN, .ref CS, .ref CB] = some true
section
variable {P : Program} {w : World} {K : PySem.W.Frag} {mg : Str → Option Value} {base : Heap} {f C : Addr} {fd : FuncData}
variable {fI fN fF fS fU fCN fCS fCB fY fB fP fX fW fA fO : Addr} {dI dN dF dS dU dCN dCS dCB dY dB dP dX dW dA dO : FuncData}
/-- any text: the program whose text it is, or InvalidText -/
def spRdX (K : PySem.W.Frag) (C CE : Addr) : Sp := fun vs H Q E => ∃ t : Str, vs = [.ref C, .str t] ∧ Read t ∧ (∀ ns ss as, t = textS ns ss as → OkP ns ss as → ∀ x H', Same H H' → ProgAt K C H' x ns ss as → Q (.ref x) H') ∧
  ((∀ ns ss as, OkP ns ss as → t ≠ textS ns ss as) → ∀ H1 dd, Same H H1 → H1 dd = none → E (.ref CE) (some dd) (upd H1 dd (.xd [("given", .str t)])))
theorem ok_rdX {fIni fStr CN WN fE CS WS fE2 CB WB fE3 CE WE' fE4 : Addr} {dIni dStr : FuncData} (F : FunP K "read" "Program.read" sRd f fd) (T : Mo mg) (X : Txt K mg C) (D : Defs K mg fI fN fF fS fU fCN fCS fCB fY fB fP fX fW fA fO dI dN dF dS dU dCN dCS dCB dY dB dP dX dW dA dO) (M : Mkr K C fIni fStr dIni dStr)
    (XN : ErrK P K mg "InvalidNames" CN WN fE "index") (XS : ErrK P K mg "InvalidSayings" CS WS fE2 "index") (XB : ErrK P K mg "InvalidBranches" CB WB fE3 "index") (XT : ErrK P K mg "InvalidText" CE WE' fE4 "given") (Ct : Cat3 K mg CN CS CB) : FnOk P w K mg base (L2.CX P w) 9 f fd ["cls", "text"] (spRdX K C CE) := by
  have GI : FnOk P w K mg base (L2N.CX P w) 7 fIni dIni ["self", "names", "sayings", "branches"] (spIniA K C CN CS CB) := ok_iniA M.i T X XN XS XB D
  have GS : FnOk P w K mg base CX0 1 fStr dStr ["self"] (spGet K C fun ns ss as v _ => v = .str (textS ns ss as)) := ok_str M.s T X
  have GA : FnOk P w K mg base CX0 3 fA dA ["text"] (spPaX K) := ok_paX D.a T D.o D.go D.u D.gu
  have bI : Binds K dIni ["self", "names", "sayings", "branches"] [] := M.i.bindsN fun _ _ _ _ _ _ us hl => match us, hl with | [_, _, _, _], _ => rfl
  have bS : Binds K dStr ["self"] [] := M.s.bindsN fun _ _ _ _ _ _ us hl => match us, hl with | [_], _ => rfl
  have bA : Binds K dA ["text"] [] := D.a.bindsN fun _ _ _ _ _ _ us hl => match us, hl with | [_], _ => rfl
  refine okX F scRd (fun vs H Q E h => ?_) (fun cdv A outer s H vs Q E hr h => ?_)
  · obtain ⟨t, rfl, _⟩ := h
    rfl
  · obtain ⟨t, rfl, ok, kY, kN⟩ := h
    have hr3 := hr.mono (show 3 ≤ 8 by decide)
    have hr2 := hr.mono (show 2 ≤ 8 by decide)
    refine ⟨_, pss_cons (ps_if (pt_not (pt_val (pe_callB (call_isD (T := "str")) (by rfl) T.isi boot_isinstance (pa_cons (pv 1) (pa_cons (pe_bltn (v := .ty "str") (by rfl) T.str (by decide +kernel) rfl) pa_nil))))) (pss_one ps_never) pss_nil)
      <| pss_cons (ps_asg (pe_call GA hr3 (by rfl) D.ga D.a.kp bA .nil pass0 (pa_cons (pv 1) pa_nil)) (pg_tup (by rfl) (pgs_cons (pg_name (i := 2) scRd.nd rfl (.inl rfl)) (pgs_cons (pg_name (i := 3) scRd.nd rfl (.inl rfl)) (pgs_cons (pg_name (i := 4) scRd.nd rfl (.inl rfl)) pgs_nil)))))
      <| pss_cons (ps_try3X rfl rfl ⟨by rfl, by decide, .inl Ct.gn⟩ ⟨by rfl, by decide, .inl Ct.gs⟩ ⟨by rfl, by decide, .inl Ct.gb⟩ (passesAt_of rfl) (takes_of rfl rfl rfl rfl)
          (fun W pn xe tkW _ => pss_one (ps_set (i := 5) scRd.nd rfl (.inl rfl) (pe_makeLS (i := 0) M.m GI hr rfl (.inl rfl) bI .nil (fun σ => L2N.passAt tkW σ) (pa_cons (pv 2) (pa_cons (pv 3) (pa_cons (pv 4) pa_nil))))))
          (fun a oe cls d pn tkS hot => pss_one (ps_raiseHN hot tkS (pmk_err5 (k := 1) rootV XT.e (raises_own XT.sub XT.ty) hr2.dp XT.g (by rfl) (pv 1)))))
      <| pss_cons (ps_if (pt_cmpR op_ne (pe_callTy (call_strO GS hr3 bS M.ds) (by rfl) T.str (by decide +kernel) (pa_cons (pv 5) pa_nil)) (pv 1) (nomark _)) (pss_one (ps_raise rfl (takes_of rfl rfl rfl rfl) (pmk_err rootV XT.e (raises_own XT.sub XT.ty) hr2 XT.g (by rfl) (pv 1)))) pss_nil)
      <| pss_one (ps_ret (pv 5)), ?_⟩
    refine ⟨_, rfl, _, .str t, _, rfl, .inl (.str _), kit_str _, _, rfl, ?_⟩
    refine iteF ?_
    refine ⟨_, rfl, t, rfl, ok, fun p a b c H1 s1 hp ha hb hc => ?_⟩
    refine ⟨p, _, rfl, hp, rfl, _, _, rfl, _, _, rfl, _, _, rfl, rfl, ?_⟩
    have zz := mz_read ok
    have cz := cnt_read ok
    unfold cnt at cz
    have no : ¬ OkP (readX t).names (readX t).says (readX t).arms → ∀ ns ss as, OkP ns ss as → t ≠ textS ns ss as := fun nok ns ss as okp e => by
      obtain ⟨r1, r2, r3⟩ := read_right okp
      rw [← e] at r1 r2 r3
      rw [r1, r2, r3] at nok
      exact nok okp
    have yes : OkP (readX t).names (readX t).says (readX t).arms → textS (readX t).names (readX t).says (readX t).arms ≠ t → ∀ ns ss as, OkP ns ss as → t ≠ textS ns ss as := fun _ ne ns ss as okp e => by
      obtain ⟨r1, r2, r3⟩ := read_right okp
      rw [← e] at r1 r2 r3
      rw [r1, r2, r3] at ne
      exact ne e.symm
    generalize readX t = m at *
    refine ⟨rfl, _, rfl, _, rfl, _, rfl, fun x dx nx ndx nex => ?_⟩
    have s2 : Same H1 (upd (upd H1 dx (.own x)) x (.ins C dx [])) := fun q o e => by
      rw [upd_ne (ne_of_none e nx), upd_ne (ne_of_none e ndx)]
      exact e
    refine ⟨H1, x, dx, _, _, _, m.names, m.says, m.arms, rfl, s2, nx, upd_same, ha, hb, hc, fit_names zz.nm.1 zz.nm.2, okD_says (by omega) zz.sy, okD_arms (by omega) zz.ar, fun okp H3 s3 g => ⟨rfl, ?_⟩, fun nok ce v hce H3 dd s3 nd => ?_⟩
    · have g' := g
      obtain ⟨dx3, a3, b3, c3, d3, hx3, rest⟩ := g
      refine ⟨_, rfl, x, dx3, _, rfl, hx3, x, m.names, m.says, m.arms, rfl, g', okp, fun v ev => ⟨⟨_, ev⟩, ?_⟩⟩
      subst ev
      refine ⟨_, rfl, rfl, _, rfl, ?_⟩
      by_cases e : textS m.names m.says m.arms = t
      · refine iteNS (by rw [e]) ?_
        exact ⟨_, rfl, kY _ _ _ e.symm okp x H3 (s1.trans s3) g'⟩
      · rw [show (!decide (V.str (textS m.names m.says m.arms) = V.str t)) = true by rw [decide_eq_false (fun q => e (V.str.inj q))]; rfl]
        exact iteT ⟨_, rfl, fun d2 nd2 => kN (yes okp e) _ d2 (s1.trans s3) nd2⟩
    · refine ⟨true, ?_, fun _ a' na => ?_, fun z => Bool.noConfusion z⟩
      · rcases hce with rfl | rfl | rfl
        · exact Ct.n
        · exact Ct.s
        · exact Ct.b
      · exact ⟨_, rfl, fun d2 nd2 => kN (no nok) _ d2 ((s1.trans s3).trans (same_new nd)) nd2⟩
end
end Pg
set_option Elab.async false
set_option linter.all false
set_option maxRecDepth 100000
set_option maxHeartbeats 8000000
namespace Pg
open PySem PySem.Spec PyProof.Rows L2 L2H HotX Gd Rl Te Nu TL Hy Fx Ow Vd
section
variable {P : Program} {w : World} {K : PySem.W.Frag} {mg : Str → Option Value} {base : Heap} {f C : Addr} {fd : FuncData}
variable {fI fN fF fS fU fCN fCS fCB fY fB fP fX fW fA fO : Addr} {dI dN dF dS dU dCN dCS dCB dY dB dP dX dW dA dO : FuncData}
/-- any value: the program whose text it is, or InvalidText -/
def spRdV (K : PySem.W.Frag) (C CE : Addr) : Sp := fun vs H Q E => spRdX K C CE vs H Q E ∨ ∃ (v : V) (d : PyData), vs = [.ref C, v] ∧ Rp K H v d ∧ (∀ z, d ≠ .str z) ∧ ∀ dd, H dd = none → E (.ref CE) (some dd) (upd H dd (.xd [("given", v)]))
theorem ok_rdV {fIni fStr CN WN fE CS WS fE2 CB WB fE3 CE WE' fE4 : Addr} {dIni dStr : FuncData} (F : FunP K "read" "Program.read" sRd f fd) (T : Mo mg) (X : Txt K mg C) (D : Defs K mg fI fN fF fS fU fCN fCS fCB fY fB fP fX fW fA fO dI dN dF dS dU dCN dCS dCB dY dB dP dX dW dA dO) (M : Mkr K C fIni fStr dIni dStr)
    (XN : ErrK P K mg "InvalidNames" CN WN fE "index") (XS : ErrK P K mg "InvalidSayings" CS WS fE2 "index") (XB : ErrK P K mg "InvalidBranches" CB WB fE3 "index") (XT : ErrK P K mg "InvalidText" CE WE' fE4 "given") (Ct : Cat3 K mg CN CS CB) : FnOk P w K mg base (L2.CX P w) 9 f fd ["cls", "text"] (spRdV K C CE) := by
  have GI : FnOk P w K mg base (L2N.CX P w) 7 fIni dIni ["self", "names", "sayings", "branches"] (spIniA K C CN CS CB) := ok_iniA M.i T X XN XS XB D
  have GS : FnOk P w K mg base CX0 1 fStr dStr ["self"] (spGet K C fun ns ss as v _ => v = .str (textS ns ss as)) := ok_str M.s T X
  have GA : FnOk P w K mg base CX0 3 fA dA ["text"] (spPaX K) := ok_paX D.a T D.o D.go D.u D.gu
  have bI : Binds K dIni ["self", "names", "sayings", "branches"] [] := M.i.bindsN fun _ _ _ _ _ _ us hl => match us, hl with | [_, _, _, _], _ => rfl
  have bS : Binds K dStr ["self"] [] := M.s.bindsN fun _ _ _ _ _ _ us hl => match us, hl with | [_], _ => rfl
  have bA : Binds K dA ["text"] [] := D.a.bindsN fun _ _ _ _ _ _ us hl => match us, hl with | [_], _ => rfl
  refine okX F scRd (fun vs H Q E h => ?_) (fun cdv A outer s H vs Q E hr h => ?_)
  · rcases h with ⟨t, rfl, _⟩ | ⟨v, d, rfl, _⟩ <;> rfl
  ·
    have hr3 := hr.mono (show 3 ≤ 8 by decide)
    have hr2 := hr.mono (show 2 ≤ 8 by decide)
    refine ⟨_, pss_cons (ps_if (pt_not (pt_val (pe_callB (call_isD (T := "str")) (by rfl) T.isi boot_isinstance (pa_cons (pv 1) (pa_cons (pe_bltn (v := .ty "str") (by rfl) T.str (by decide +kernel) rfl) pa_nil))))) (pss_one (ps_raise rfl (takes_of rfl rfl rfl rfl) (pmk_err rootV XT.e (raises_own XT.sub XT.ty) hr2 XT.g (by rfl) (pv 1)))) pss_nil)
      <| pss_cons (ps_asg (pe_call GA hr3 (by rfl) D.ga D.a.kp bA .nil pass0 (pa_cons (pv 1) pa_nil)) (pg_tup (by rfl) (pgs_cons (pg_name (i := 2) scRd.nd rfl (.inl rfl)) (pgs_cons (pg_name (i := 3) scRd.nd rfl (.inl rfl)) (pgs_cons (pg_name (i := 4) scRd.nd rfl (.inl rfl)) pgs_nil)))))
      <| pss_cons (ps_try3X rfl rfl ⟨by rfl, by decide, .inl Ct.gn⟩ ⟨by rfl, by decide, .inl Ct.gs⟩ ⟨by rfl, by decide, .inl Ct.gb⟩ (passesAt_of rfl) (takes_of rfl rfl rfl rfl)
          (fun W pn xe tkW _ => pss_one (ps_set (i := 5) scRd.nd rfl (.inl rfl) (pe_makeLS (i := 0) M.m GI hr rfl (.inl rfl) bI .nil (fun σ => L2N.passAt tkW σ) (pa_cons (pv 2) (pa_cons (pv 3) (pa_cons (pv 4) pa_nil))))))
          (fun a oe cls d pn tkS hot => pss_one (ps_raiseHN hot tkS (pmk_err5 (k := 1) rootV XT.e (raises_own XT.sub XT.ty) hr2.dp XT.g (by rfl) (pv 1)))))
      <| pss_cons (ps_if (pt_cmpR op_ne (pe_callTy (call_strO GS hr3 bS M.ds) (by rfl) T.str (by decide +kernel) (pa_cons (pv 5) pa_nil)) (pv 1) (nomark _)) (pss_one (ps_raise rfl (takes_of rfl rfl rfl rfl) (pmk_err rootV XT.e (raises_own XT.sub XT.ty) hr2 XT.g (by rfl) (pv 1)))) pss_nil)
      <| pss_one (ps_ret (pv 5)), ?_⟩
    rcases h with ⟨t, rfl, ok, kY, kN⟩ | ⟨v, d, rfl, hv, hd, kN⟩
    rotate_left
    · refine ⟨_, rfl, _, d, _, rfl, hv, kit_str d, _, rfl, ?_⟩
      have e : (match d with | .str _ => true | _ => false) = false := by
        cases d with
        | str z => exact absurd rfl (hd z)
        | _ => rfl
      cases d with
      | str z => exact absurd rfl (hd z)
      | _ => exact iteT ⟨_, rfl, fun dd nd => kN dd nd⟩
    refine ⟨_, rfl, _, .str t, _, rfl, .inl (.str _), kit_str _, _, rfl, ?_⟩
    refine iteF ?_
    refine ⟨_, rfl, t, rfl, ok, fun p a b c H1 s1 hp ha hb hc => ?_⟩
    refine ⟨p, _, rfl, hp, rfl, _, _, rfl, _, _, rfl, _, _, rfl, rfl, ?_⟩
    have zz := mz_read ok
    have cz := cnt_read ok
    unfold cnt at cz
    have no : ¬ OkP (readX t).names (readX t).says (readX t).arms → ∀ ns ss as, OkP ns ss as → t ≠ textS ns ss as := fun nok ns ss as okp e => by
      obtain ⟨r1, r2, r3⟩ := read_right okp
      rw [← e] at r1 r2 r3
      rw [r1, r2, r3] at nok
      exact nok okp
    have yes : OkP (readX t).names (readX t).says (readX t).arms → textS (readX t).names (readX t).says (readX t).arms ≠ t → ∀ ns ss as, OkP ns ss as → t ≠ textS ns ss as := fun _ ne ns ss as okp e => by
      obtain ⟨r1, r2, r3⟩ := read_right okp
      rw [← e] at r1 r2 r3
      rw [r1, r2, r3] at ne
      exact ne e.symm
    generalize readX t = m at *
    refine ⟨rfl, _, rfl, _, rfl, _, rfl, fun x dx nx ndx nex => ?_⟩
    have s2 : Same H1 (upd (upd H1 dx (.own x)) x (.ins C dx [])) := fun q o e => by
      rw [upd_ne (ne_of_none e nx), upd_ne (ne_of_none e ndx)]
      exact e
    refine ⟨H1, x, dx, _, _, _, m.names, m.says, m.arms, rfl, s2, nx, upd_same, ha, hb, hc, fit_names zz.nm.1 zz.nm.2, okD_says (by omega) zz.sy, okD_arms (by omega) zz.ar, fun okp H3 s3 g => ⟨rfl, ?_⟩, fun nok ce v hce H3 dd s3 nd => ?_⟩
    · have g' := g
      obtain ⟨dx3, a3, b3, c3, d3, hx3, rest⟩ := g
      refine ⟨_, rfl, x, dx3, _, rfl, hx3, x, m.names, m.says, m.arms, rfl, g', okp, fun v ev => ⟨⟨_, ev⟩, ?_⟩⟩
      subst ev
      refine ⟨_, rfl, rfl, _, rfl, ?_⟩
      by_cases e : textS m.names m.says m.arms = t
      · refine iteNS (by rw [e]) ?_
        exact ⟨_, rfl, kY _ _ _ e.symm okp x H3 (s1.trans s3) g'⟩
      · rw [show (!decide (V.str (textS m.names m.says m.arms) = V.str t)) = true by rw [decide_eq_false (fun q => e (V.str.inj q))]; rfl]
        exact iteT ⟨_, rfl, fun d2 nd2 => kN (yes okp e) _ d2 (s1.trans s3) nd2⟩
    · refine ⟨true, ?_, fun _ a' na => ?_, fun z => Bool.noConfusion z⟩
      · rcases hce with rfl | rfl | rfl
        · exact Ct.n
        · exact Ct.s
        · exact Ct.b
      · exact ⟨_, rfl, fun d2 nd2 => kN (no nok) _ d2 ((s1.trans s3).trans (same_new nd)) nd2⟩
end
end Pg
set_option Elab.async false
set_option linter.all false
set_option maxRecDepth 100000
set_option maxHeartbeats 8000000
namespace Ow
open PySem PySem.Spec PyProof.Rows L2 Gd Rl
/-! xs.count(x) of flat items; o.m(k = v) -/
section
variable {X : Cx}
def rCntF (K : PySem.W.Frag) : V → List V → Hp → VK → Prop := fun x xs H Q => ∃ (p : Addr) (ys : List V) (y : V), x = .ref p ∧ xs = [y] ∧ SqL K H p ys ∧ flatV y = true ∧ ys.all flatV = true ∧ Q (.int (ys.countP fun z => eqV z y : Nat)) H
theorem count_eqU {y : V} : ∀ {xs : List V} {us : List Value}, Vals xs us → xs.all flatV = true → us.countP (eqU y) = xs.countP fun z => eqV z y
  | _, _, .nil, _ => rfl
  | _, _, .cons r rr, h => by
    obtain ⟨h1, h2⟩ := Bool.and_eq_true_iff.mp (by rw [List.all_cons] at h; exact h)
    rw [List.countP_cons, List.countP_cons, count_eqU rr h2, eqU_of r h1]
theorem mem_vals {u : Value} : ∀ {xs : List V} {us : List Value}, Vals xs us → xs.all flatV = true → u ∈ us → ∃ z, RelV z u ∧ flatV z = true
  | _, _, .nil, _, hu => by cases hu
  | _, _, .cons (a := x) r rr, h, hu => by
    obtain ⟨h1, h2⟩ := Bool.and_eq_true_iff.mp (by rw [List.all_cons] at h; exact h)
    rcases List.mem_cons.mp hu with e | hu
    · rw [e]
      exact ⟨x, r, h1⟩
    · exact mem_vals rr h2 hu
theorem mt_lcountF : MtR X "list.count" (rCntF X.K) := by
  intro pins s σ H x xs v us Q I rx rxs h
  obtain ⟨p, ys, y, rfl, rfl, hs, fy, fys, q⟩ := h
  cases rx
  obtain ⟨u, rfl, ru⟩ := rxs.one
  obtain ⟨its, rv, ⟨⟨cls, dd, data, sl⟩, n, ho, hc, hdn, hd⟩, hlen⟩ := I.list hs
  simp only at hc hd
  subst hc hd
  refine call_meets PySem.F.slot_list_count ⟨_, ho, rfl⟩ PySem.F.entry_list_count (PySem.F.args_list_count_2 _ _)
    (SeqAt.list_countAt p its.toArray n dd sl u (eqU y)) ⟨ho, fun z hz => ?_, ?_⟩
  · obtain ⟨z1, rz, fz⟩ := mem_vals rv fys (by simpa using hz)
    rw [eqU_of rz fz]
    exact eqAt_V rz ru fz fy
  · refine ⟨.int (ys.countP fun z => eqV z y : Nat), H, I.tok _, ⟨s.toks, ?_⟩, q⟩
    show Value.int ((its.toArray.toList.countP (eqU y) : Nat) : Int) s.toks = _
    rw [show its.toArray.toList = its from rfl, count_eqU rv fys]
end
section
variable {X : Cx} {CX : CXT} {k : Nat} {C g : Addr} {sp : Sp} {E : XK} {o : Expr} {m : Str} {pos apos : Pos} {ta : TE} {tk : TA} {pl : Sem Bool} {fd : FuncData} {ps ks : List Str} {kws : List Keyword} {gg : List Value → List Value → List Value} {gV : List V → List V → List V}
/-- o.m(k = v, ..), o an own object -/
def tMethK (C : Addr) (m : Str) (n : Nat) (sp : Sp) (gV : List V → List V → List V) (E : XK) (ta : TE) (tk : TA) : TE := fun σ H Q => ta σ H fun x H1 => ∃ a dx fs, x = .ref a ∧ H1 a = some (.ins C dx fs) ∧ fs.lookup m = none ∧ tk σ H1 fun zs H2 => zs.length = n ∧ sp (gV [.ref a] zs) H2 Q E
theorem pe_methK (he : PE X o ta) (c : Cls X.K C) (hm : Meth X.K C m g) (F : FnOk X.prog X.w X.K X.mg X.base CX k g fd ps sp) (hr : Room k X.A) (hb : KBn X.K fd ps 1 ks gg gV) (hx : Passes CX X E) (hkw : PK X kws tk)
    (hall : (backToKw pos (keywordEach kws X.env)).all (·.1.isSome) = true := by rfl) (hks : (backToKw pos (keywordEach kws X.env)).filterMap (·.1) = ks := by rfl)
    (hpl : ((backTo pos (starEach [] X.env)).any (·.1) || (backToKw pos (keywordEach kws X.env)).any (·.1.isNone)) = false := by rfl)
    (ht : eval (.Call (.Attribute o m apos) [] kws pos) X.env = (do
      let v ← eval o X.env
      standAt apos.atName
      let (f, first) ← holding [v] (getMethod v m pl)
      callWith pos f first (backTo pos (starEach [] X.env)) (backToKw pos (keywordEach kws X.env))) := by rfl) :
    PE X (.Call (.Attribute o m apos) [] kws pos) (tMethK C m ks.length sp gV E ta tk) := by
  refine ⟨fun pins s σ H Q I h => ?_⟩
  refine PySem.W.methodCall_KW (pl := pl) (thn (he.run pins s σ H _ I h) fun u s1 ⟨x, H1, I1, rx, a, dx, fs, ex, ea, l, q⟩ => ?_) ht
  subst ex
  cases (show u = Value.ref a from rx)
  refine getmeth_ok I1 ea c hm l ?_
  refine PySem.W.callWith_KW0 (first := [.ref a]) (h₀ := X.base) I.ok.mod.kin hm.kp hall ?_ hpl
  refine thn (hkw.run pos pins s1 σ H1 _ I1 q) fun ws s2 ⟨zs, H2, I2, rz, l2, q2⟩ => ⟨I2.kIn, ?_⟩
  rw [hks]
  refine wpAny_call (codeAny_mono (F.run X.A X.stack s2 H2 ⟨[.ref a], ks.zip ws⟩ (gg [.ref a] ws) (gV [.ref a] zs) Q E hr I2.env0 (hb.to s2 [.ref a] ws I2.kIn rfl (rz.length.symm.trans l2)) (hb.rel (.cons rfl .nil) rz) q2) fun r s' hq => ?_)
  cases r with
  | error e => exact hx pins σ H2 s2 e s' I2 hq
  | ok fl =>
    cases fl with
    | ret u => exact I2.after hq
    | next => exact False.elim hq
    | brk => exact False.elim hq
    | cont => exact False.elim hq
end
end Ow
set_option Elab.async false
set_option linter.all false
set_option maxRecDepth 100000
set_option maxHeartbeats 16000000
namespace K5
open PySem PySem.Spec PyProof.Rows L2 L2H Gd Rl Hy Fx Ow
open Pg (Mo top FnP)
abbrev sAns : Stmt := top 51
abbrev sSort : Stmt := top 63
/-- the three bases -/
structure Bas (K : PySem.W.Frag) (mg : Str → Option Value) (b0 b1 b2 : Addr) : Prop where
  g0 : mg "WrongValue" = some (.ref b0)
  g1 : mg "WrongName" = some (.ref b1)
  g2 : mg "NotPossible" = some (.ref b2)
/-- what isinstance says of an error of the class C, of this kind -/
structure ErS (K : PySem.W.Frag) (C b0 b1 b2 : Addr) (kind : Nat) (f : Str) : Prop where
  i : IsC K C
  x : XfC K C
  no : PySem.W.findIn K (.ref C) f = some none
  few : kind < 3
  k0 : PySem.W.kitOne K (.ref C) (.ref b0) = some (kind == 0)
  k1 : PySem.W.kitOne K (.ref C) (.ref b1) = some (kind == 1)
  k2 : PySem.W.kitOne K (.ref C) (.ref b2) = some (kind == 2)
  p0 : PySem.W.kitOne K (.ref C) (.type "ValueError") = some (kind == 0)
  p1 : PySem.W.kitOne K (.ref C) (.type "LookupError") = some (kind == 1)
  p2 : PySem.W.kitOne K (.ref C) (.type "ArithmeticError") = some (kind == 2)
  any : PySem.W.exmAny K (.ref C) [.ref b0, .ref b1, .ref b2] = some true
structure BlS (mg : Str → Option Value) : Prop where
  isi : mg "isinstance" = none
  repr : mg "repr" = none
  len : mg "len" = none
  ve : mg "ValueError" = none
  le : mg "LookupError" = none
  ae : mg "ArithmeticError" = none
/-- the errors that are known: where, name, field -/
structure Errs (K : PySem.W.Frag) (mg : Str → Option Value) (b0 b1 b2 c0 : Addr) : Prop where
  g0 : mg "InvalidText" = some (.ref c0)
  s0 : ErS K c0 b0 b1 b2 0 "given"
  m0_0 : PySem.W.kitOne K (.ref c0) (.ref c0) = some true
def known (c0 : Addr) : List (Addr × Str × Str) := [(c0, "InvalidText", "given")]
/-- a value that can be shown -/
def Shw (K : PySem.W.Frag) (H : Hp) (v : V) (d : PyData) : Prop := Rp K H v d ∧ PyData.showable d = true ∧ d.depth ≤ 20 ∧ d.shown.length ≤ sizeLine
theorem rp_same {K : PySem.W.Frag} {H H' : Hp} {v : V} {d : PyData} (s : Same H H') (h : Rp K H v d) : Rp K H' v d := by
  rcases h with h | ⟨a, kvs, ds, e, h1, h2, h3⟩
  · exact .inl (dp_same s _ h)
  · exact .inr ⟨a, kvs, ds, e, s _ _ h1, h2, h3⟩
theorem Shw.same {K : PySem.W.Frag} {H H' : Hp} {v : V} {d : PyData} (h : Shw K H v d) (s : Same H H') : Shw K H' v d := ⟨rp_same s h.1, h.2⟩
/-- an error of a known class, told: its name and what it holds -/
def Told (K : PySem.W.Frag) (es : List (Addr × Str × Str)) (c : Value) (d : Option Addr) (H : Hp) (Q : VK) : Prop := ∃ (t : Addr × Str × Str) (dd : Addr) (v : V) (dv : PyData), t ∈ es ∧ c = .ref t.1 ∧ d = some dd ∧ H dd = some (.xd [(t.2.2, v)]) ∧ Shw K H v dv ∧ ∀ l H', New H l (.lst [.str t.2.1, .str dv.shown]) H' → Q (.ref l) H'
def spSort (K : PySem.W.Frag) (es : List (Addr × Str × Str)) : Addr → Value → Option Addr → Sp := fun a c d vs H Q _ => vs = [.ref a] ∧ Told K es c d H Q
abbrev nSort : List Str := ["_law_e", "_law_bases", "_law_plain", "_law_found"]
theorem scSort : FnScope nSort ["_law_e"] (defScope sSort) := ⟨rfl, rfl, rfl, by decide +kernel, rfl, by decide +kernel, by decide +kernel⟩
abbrev nAns : List Str := ["_law_call_here", "_law_got", "_law_e"]
theorem scAns : FnScope nAns ["_law_call_here"] (defScope sAns) := ⟨rfl, rfl, rfl, by decide +kernel, rfl, by decide +kernel, by decide +kernel⟩
theorem flags_one {kind : Nat} (h : kind < 3) : (([V.bl (kind == 0), V.bl (kind == 1), V.bl (kind == 2)].countP fun z => eqV z (.bl true) : Nat) : Int) = 1 := by
  match kind, h with
  | 0, _ => decide +kernel
  | 1, _ => decide +kernel
  | 2, _ => decide +kernel
theorem flags_eq {kind : Nat} (h : kind < 3) : PyData.eqv (.list [.bool (kind == 0), .bool (kind == 1), .bool (kind == 2)]) (.list [.bool (kind == 0), .bool (kind == 1), .bool (kind == 2)]) = true := by
  match kind, h with
  | 0, _ => decide +kernel
  | 1, _ => decide +kernel
  | 2, _ => decide +kernel
theorem flags_shp {kind : Nat} (h : kind < 3) : SeqAt.shaped (.list [.bool (kind == 0), .bool (kind == 1), .bool (kind == 2)]) = true := by
  match kind, h with
  | 0, _ => decide +kernel
  | 1, _ => decide +kernel
  | 2, _ => decide +kernel
section
variable {P : Program} {w : World} {K : PySem.W.Frag} {mg : Str → Option Value} {base : Heap} {f b0 b1 b2 c0 : Addr} {fd : FuncData}
theorem ok_sort (F : FnP K "_law_sort" sSort f fd) (B : Bas K mg b0 b1 b2) (U : BlS mg) (T : Errs K mg b0 b1 b2 c0) : FnQ P w K mg base 1 f fd ["_law_e"] (spSort K (known c0)) := by
  refine okQ F scSort (fun a c d vs H Q E h => ?_) (fun cdv A outer s H vs Q E a oe c d hgd hr hz hf h => ?_)
  · obtain ⟨rfl, _⟩ := h
    rfl
  · obtain ⟨rfl, t, dd, v, dv, ht, rfl, rfl, hd, hv, k⟩ := h
    have hu : (A.deeper (envOfC (Str.ofString "_law_sort") (defScope sSort) s.heap.objs.size f cdv)).units + 64 < cLine := by
      have := hr.un
      omega
    have hp : (a, oe) ∈ (cxH CX0 P w K mg base nSort (Str.ofString "_law_sort") (defScope sSort) f cdv A outer s H E (a, oe)).pn := List.mem_cons_self
    simp only [known, List.mem_cons, List.not_mem_nil, or_false] at ht
    rcases ht with rfl
    · refine ⟨_, PSs.nox <| pss_cons (ps_set (i := 1) scSort.nd rfl (.inl rfl) (pe_lstR (pa_cons (pe_callB (call_isP hp hz hf T.s0.i) (by rfl) U.isi boot_isinstance (pa_cons (pv 0) (pa_cons (pe_glob (v := .ref b0) (by rfl) B.g0 rfl) pa_nil))) (pa_cons (pe_callB (call_isP hp hz hf T.s0.i) (by rfl) U.isi boot_isinstance (pa_cons (pv 0) (pa_cons (pe_glob (v := .ref b1) (by rfl) B.g1 rfl) pa_nil))) (pa_cons (pe_callB (call_isP hp hz hf T.s0.i) (by rfl) U.isi boot_isinstance (pa_cons (pv 0) (pa_cons (pe_glob (v := .ref b2) (by rfl) B.g2 rfl) pa_nil))) pa_nil)))))
        <| pss_cons (ps_set (i := 2) scSort.nd rfl (.inl rfl) (pe_lstR (pa_cons (pe_callB (call_isP hp hz hf T.s0.i) (by rfl) U.isi boot_isinstance (pa_cons (pv 0) (pa_cons (pe_bltn (v := .ty "ValueError") (by rfl) U.ve (by decide +kernel) rfl) pa_nil))) (pa_cons (pe_callB (call_isP hp hz hf T.s0.i) (by rfl) U.isi boot_isinstance (pa_cons (pv 0) (pa_cons (pe_bltn (v := .ty "LookupError") (by rfl) U.le (by decide +kernel) rfl) pa_nil))) (pa_cons (pe_callB (call_isP hp hz hf T.s0.i) (by rfl) U.isi boot_isinstance (pa_cons (pv 0) (pa_cons (pe_bltn (v := .ty "ArithmeticError") (by rfl) U.ae (by decide +kernel) rfl) pa_nil))) pa_nil)))))
        <| pss_cons (ps_set (i := 3) scSort.nd rfl (.inl rfl) (pe_lstR pa_nil))
        <| pss_cons (ps_if (pt_val (pe_callB (call_isP hp hz hf T.s0.i) (by rfl) U.isi boot_isinstance (pa_cons (pv 0) (pa_cons (pe_glob (v := .ref c0) (by rfl) T.g0 rfl) pa_nil)))) (pss_one (ps_expr (pe_bm PySem.F.plainAttrs_list PySem.F.slot_list_append PySem.F.type_list_append mt_append (pv 3) (pa_cons (pe_lstR (pa_cons pe_str (pa_cons (pe_callB (call_repr hgd hu) (by rfl) U.repr boot_repr (pa_cons (pe_xp T.s0.x T.s0.no hp hz hf (pv 0)) pa_nil)) pa_nil))) pa_nil)))) pss_nil)
        <| pss_one (ps_ret (pe_ifExp (PW.pt (pw_and (pt_cmpR op_eq (pe_callB call_len (by rfl) U.len PySem.boot_len (pa_cons (pv 3) pa_nil)) pe_int (nomark _)) (pw_and (pt_cmpR (op_eqD hu) (pv 1) (pv 2) (nomark _)) (pw_and1 (pt_cmpR op_eq (pe_bm PySem.F.plainAttrs_list PySem.F.slot_list_count PySem.F.type_list_count mt_lcountF (pv 1) (pa_cons pe_bl pa_nil)) pe_int (nomark _))))))
            (pe_ix ix_list (pv 3) pe_int (fun _ _ => rfl)) (pe_lstR (pa_cons pe_str (pa_cons pe_str pa_nil))))), ?_⟩
      have sE := T.s0
      refine ⟨_, rfl, .ref b0, .ref b0, _, _, rfl, .own _, hd, sE.k0, ⟨_, rfl, .ref b1, .ref b1, _, _, rfl, .own _, hd, sE.k1, ⟨_, rfl, .ref b2, .ref b2, _, _, rfl, .own _, hd, sE.k2, ⟨(show 3 ≤ 1000 by decide), fun l1 H1 n1 => ?_⟩⟩⟩⟩
      have hd1 := n1.2.2 _ _ hd
      refine ⟨_, rfl, .ty "ValueError", .type "ValueError", _, _, rfl, .ty _, hd1, sE.p0, ⟨_, rfl, .ty "LookupError", .type "LookupError", _, _, rfl, .ty _, hd1, sE.p1, ⟨_, rfl, .ty "ArithmeticError", .type "ArithmeticError", _, _, rfl, .ty _, hd1, sE.p2, ⟨(show 3 ≤ 1000 by decide), fun l2 H2 n2 => ?_⟩⟩⟩⟩
      refine ⟨(show 0 ≤ 1000 by decide), fun l3 H3 n3 => ?_⟩
      have s13 := n2.2.2.trans n3.2.2
      have s3 := n1.2.2.trans s13
      have hd3 := s3 _ _ hd
      have e1 := s13 _ _ n1.2.1
      have e2 := n3.2.2 _ _ n2.2.1
      have e3 := n3.2.1
      have hv3 := hv.same s3
      have na : ∀ {b : Addr} {o : HO}, H b = some o → b ≠ l3 := fun e => ne_of_none (n2.2.2 _ _ (n1.2.2 _ _ e)) n3.1
      have n13 : l1 ≠ l3 := ne_of_none (n2.2.2 _ _ n1.2.1) n3.1
      have n23 : l2 ≠ l3 := ne_of_none n2.2.1 n3.1
      clear n1 n2 hd1
      refine ⟨_, rfl, .ref c0, .ref c0, _, _, rfl, .own _, hd3, T.m0_0, _, rfl, iteT ?_⟩
      refine ⟨_, rfl, .inl ⟨rfl, _, SqL.of e3⟩, _, rfl, _, v, rfl, hd3, rfl, v, dv, rfl, hv3.1, hv3.2.1, hv3.2.2.1, hv3.2.2.2, ⟨(show 2 ≤ 1000 by decide), fun l4 H4 n4 => ⟨l3, _, _, rfl, rfl, n4.2.2 _ _ e3, small1000 (by decide), ?_⟩⟩⟩
      have n43 : l4 ≠ l3 := fun z => by
        rw [z] at n4
        rw [n4.1] at e3
        cases e3
      have f3 : (upd H4 l3 (.lst ([] ++ [.ref l4]))) l3 = some (.lst [.ref l4]) := upd_same
      have f1 : (upd H4 l3 (.lst ([] ++ [.ref l4]))) l1 = some _ := (upd_ne n13).trans (n4.2.2 _ _ e1)
      have f2 : (upd H4 l3 (.lst ([] ++ [.ref l4]))) l2 = some _ := (upd_ne n23).trans (n4.2.2 _ _ e2)
      have f4 : (upd H4 l3 (.lst ([] ++ [.ref l4]))) l4 = some _ := (upd_ne n43).trans n4.2.1
      have fd : (upd H4 l3 (.lst ([] ++ [.ref l4]))) dd = some _ := (upd_ne (na hd)).trans (n4.2.2 _ _ hd3)
      have s5 : Same H (upd H4 l3 (.lst ([] ++ [.ref l4]))) := fun b o e => (upd_ne (na e)).trans (n4.2.2 _ _ (s3 _ _ e))
      have nH : H l4 = none := by
        cases z : H l4 with
        | none => rfl
        | some u =>
          have z2 := s3 _ _ z
          rw [n4.1] at z2
          cases z2
      generalize upd H4 l3 (.lst ([] ++ [.ref l4])) = H5 at f1 f2 f3 f4 fd s5
      refine ⟨_, rfl, _, _, rfl, .inl ⟨_, SqL.of f3, rfl⟩, rfl, _, rfl, iteT ?_⟩
      refine ⟨_, rfl, _, rfl, _, _, .lst (SqL.of f1) (.cons (.bl _) (.cons (.bl _) (.cons (.bl _) .nil))), .lst (SqL.of f2) (.cons (.bl _) (.cons (.bl _) (.cons (.bl _) .nil))), flags_shp sE.few, flags_shp sE.few, _, rfl, ?_⟩
      rw [flags_eq sE.few]
      refine iteT ?_
      refine ⟨_, rfl, .inl ⟨rfl, _, SqL.of f1⟩, l1, _, .bl true, rfl, rfl, SqL.of f1, rfl, rfl, rfl, _, rfl, ?_⟩
      rw [flags_one sE.few]
      refine iteT ?_
      exact ⟨_, rfl, l3, _, 0, _, rfl, rfl, SqL.of f3, rfl, k l4 H5 ⟨nH, f4, s5⟩⟩
/-- what answer makes of what it calls -/
def TTans (K : PySem.W.Frag) (es : List (Addr × Str × Str)) : (XK → Hp → VK → Prop) → Hp → VK → Prop := fun tl H Q => tl (fun c d H' => Told K es c d H' Q) H fun v H' => ∃ x, (some (some v) : Option (Option V)) = some (some x) ∧ ([V.str "back", x] : List V).length ≤ 1000 ∧ ∀ l H2, New H' l (.lst [.str "back", x]) H2 → Q (.ref l) H2
theorem ans_gives {X : Cx} {g fS : Addr} {cdg : Value} {q : Str} {dS : FuncData} (hK : X.K = K) (hmg : X.mg = mg) (hr : Room 2 X.A) (hgd : X.A.guards = some []) (B : Bas K mg b0 b1 b2) (T : Errs K mg b0 b1 b2 c0) (FS : FnP K "_law_sort" sSort fS dS) (gS : mg "_law_sort" = some (.ref fS))
    (GS : FnQ X.prog X.w X.K X.mg X.base 1 fS dS ["_law_e"] (spSort K (known c0))) : LamX.GivesTo X nAns "_law_answer" (defScope sAns) g cdg (defBody sAns) "_law_call_here" q (TTans K (known c0)) := by
  subst hK hmg
  intro f c' s H Q tl act hc h
  have bS : Binds X.K dS ["_law_e"] [] := FS.bindsN fun _ _ _ _ _ _ us hl => match us, hl with | [_], _ => rfl
  have hr1 : RoomH 1 (X.A.deeper (envOfC "_law_answer" (defScope sAns) s.heap.objs.size g cdg)) := roomH_of (hr.deeper _)
  have hg1 : (X.A.deeper (envOfC "_law_answer" (defScope sAns) s.heap.objs.size g cdg)).guards = some [] := deeper_guards hgd
  refine ⟨_, pss_cons (ps_try3 (X := (cxOf C8.CX0 X.prog X.w X.K X.mg X.base nAns "_law_answer" (defScope sAns) g cdg X.A X.stack s H C8.E0).nox) (i := 2)
      (tb := fun W D σ H => ∃ Ech : XK, (∀ cls d σ' H', Ech cls d H' → W cls d σ' H') ∧ σ[0]? = some (some (.ref f)) ∧ H c' = some (LamX.CodeO c' q) ∧ tl Ech H fun v H' => D.nx (σ.set 1 (some v)) H')
      rfl rfl scAns.nd rfl rfl ⟨by rfl, by decide, .inl B.g0⟩ ⟨by rfl, by decide, .inl B.g1⟩ ⟨by rfl, by decide, .inl B.g2⟩ L2.takes0 (fun W pn xe tk _ => ?_)
      (fun a oe cls d pn hz hf => pss_one (ps_ret (pe_callQ GS hg1 ⟨hr1.dp, hr1.un⟩ List.mem_cons_self hz hf (by rfl) gS FS.kp bS (pa_cons (pv 2) pa_nil)))))
    <| pss_one (ps_ret (pe_lstR (pa_cons pe_str (pa_cons (pv 1) pa_nil)))), ?_⟩
  · refine ⟨fun pins s' σ H' D I h' => ?_⟩
    obtain ⟨Ech, hW, h1, h2, h3⟩ := h'
    exact (pss_one (ps_set (i := 1) scAns.nd rfl (.inl rfl) (act W pn xe Ech _ _ tk hW))).run pins s' σ H' D I ⟨h1, h2, h3⟩
  · refine ⟨fun c d H' => Told X.K (known c0) c d H' Q, fun cls d σ' H' hT => ?_, rfl, hc, ?_⟩
    · refine ⟨true, ?_, fun _ a na hl => ?_, fun z => Bool.noConfusion z⟩
      · obtain ⟨t, dd, v, dv, ht, rfl, rest⟩ := hT
        simp only [known, List.mem_cons, List.not_mem_nil, or_false] at ht
        rcases ht with rfl
        · exact T.s0.any
      · exact ⟨_, List.getElem?_set_self (by rw [hl]; exact (show 2 < 3 by decide)), rfl, hT⟩
    · exact h
end
end K5
set_option Elab.async false
set_option linter.all false
set_option maxRecDepth 100000
set_option maxHeartbeats 8000000
namespace K5
open PySem PySem.Spec PyProof.Rows L2 Gd Rl LamX
/-! what stays while tables of code objects grow; a def that knows where its code is -/
theorem codeO_lst {c : Addr} {q : Str} (xs : List V) : CodeO c q ≠ .lst xs := fun z => by
  unfold CodeO at z
  cases z
/-- all stands but perhaps what is at p, and tables -/
def ButT (p : Addr) (H H' : Hp) : Prop := ∀ b o, H b = some o → b ≠ p → (∀ ps, o ≠ .tbl ps) → H' b = some o
theorem ButT.refl {p : Addr} {H : Hp} : ButT p H H := fun _ _ e _ _ => e
theorem ButT.trans {p : Addr} {H H1 H2 : Hp} (a : ButT p H H1) (b : ButT p H1 H2) : ButT p H H2 := fun c o e n t => b c o (a c o e n t) n t
theorem But.t {p : Addr} {H H' : Hp} (b : But p H H') : ButT p H H' := fun c o e n _ => b c o e n
theorem ext_t {p : Addr} {H H' : Hp} (b : ExtN H H') : ButT p H H' := fun c o e _ t => b c o e t
theorem same_ext {H H' : Hp} (s : Same H H') : ExtN H H' := fun b o e _ => s b o e
theorem Pail.ext {H H' : Hp} {p : Addr} (h : Pail H p) (e : ExtN H H') : Pail H' p := by
  obtain ⟨o, st, c, h1, h2⟩ := h
  exact ⟨o, st, c, e _ _ h1 (fun _ q => nomatch q), h2⟩
theorem tabs_but {T : List (Addr × Str)} {p : Addr} {H H' : Hp} (t : Tabs T H) (hp : Pail H p) (b : But p H H') : Tabs T H' := fun q hq => by
  have nl := b.nl hp
  obtain ⟨ps, h1, h2, h3⟩ := t q hq
  refine ⟨ps, nl _ _ h1 (fun _ z => nomatch z), h2, fun pos cv hc => ?_⟩
  obtain ⟨c, e1, e2⟩ := h3 pos cv hc
  exact ⟨c, e1, nl _ _ e2 codeO_lst⟩
theorem tabs_same {T : List (Addr × Str)} {H H' : Hp} (t : Tabs T H) (s : Same H H') : Tabs T H' := t.ext s
/-- a list is put otherwise: the tables stay -/
theorem tabs_upd {T : List (Addr × Str)} {H : Hp} {l : Addr} {X Y : List V} (t : Tabs T H) (h : H l = some (.lst X)) : Tabs T (upd H l (.lst Y)) := fun q hq => by
  have nl := nl_upd (Y := Y) h
  obtain ⟨ps, h1, h2, h3⟩ := t q hq
  refine ⟨ps, nl _ _ h1 (fun _ z => nomatch z), h2, fun pos cv hc => ?_⟩
  obtain ⟨c, e1, e2⟩ := h3 pos cv hc
  exact ⟨c, e1, nl _ _ e2 codeO_lst⟩
theorem seqL_ext {K : PySem.W.Frag} {H H' : Hp} {a : Addr} {xs : List V} (e : ExtN H H') (h : SqL K H a xs) : SqL K H' a xs := by
  rcases h with (h | ⟨o, h⟩) | h
  · exact .inl (.inl (e _ _ h fun _ z => nomatch z))
  · exact .inl (.inr ⟨o, e _ _ h fun _ z => nomatch z⟩)
  · exact .inr h
theorem seqT_ext {K : PySem.W.Frag} {H H' : Hp} {a : Addr} {xs : List V} (e : ExtN H H') (h : SqT K H a xs) : SqT K H' a xs := by
  rcases h with (h | ⟨o, h⟩) | h
  · exact .inl (.inl (e _ _ h fun _ z => nomatch z))
  · exact .inl (.inr ⟨o, e _ _ h fun _ z => nomatch z⟩)
  · exact .inr h
mutual
theorem dp_ext {K : PySem.W.Frag} {H H' : Hp} (e : ExtN H H') : ∀ (d : PyData) {v : V}, Dp K H v d → Dp K H' v d
  | .none, _, h => by cases h; exact .non
  | .bool b, _, h => by cases h; exact .bl b
  | .int i, _, h => by cases h; exact .int i
  | .str z, _, h => by cases h; exact .str z
  | .list ds, _, h => by
    cases h with
    | lst hs ha => exact .lst (seqL_ext e hs) (dp_extAll e ds ha)
  | .tuple ds, _, h => by
    cases h with
    | tup hs ha => exact .tup (seqT_ext e hs) (dp_extAll e ds ha)
  | .dict _, _, h => by cases h
theorem dp_extAll {K : PySem.W.Frag} {H H' : Hp} (e : ExtN H H') : ∀ (ds : List PyData) {vs : List V}, DpAll K H vs ds → DpAll K H' vs ds
  | [], _, h => by cases h; exact .nil
  | d :: ds, _, h => by
    cases h with
    | cons h1 h2 => exact .cons (dp_ext e d h1) (dp_extAll e ds h2)
end
theorem rp_ext {K : PySem.W.Frag} {H H' : Hp} (e : ExtN H H') {d : PyData} {v : V} (h : Rp K H v d) : Rp K H' v d := by
  rcases h with h | ⟨a, kvs, ds, rfl, ha, hp, rfl⟩
  · exact .inl (dp_ext e d h)
  · exact .inr ⟨a, kvs, ds, rfl, e _ _ ha (fun _ z => nomatch z), hp, rfl⟩
/-- the def's code object is at c -/
def CodeAt (K : PySem.W.Frag) (f c : Addr) : Prop := ∃ (oc : Value) (od : Option Addr) (osl : Array (Option Value)) (fd : FuncData), K.lookup f = some ⟨oc, od, .func fd, osl⟩ ∧ fd.code = .ref c
theorem CodeAt.of {K : PySem.W.Frag} {p : Str × Option Str} {c : Addr} (h : CodeAt K (He.fAd K p) c) : (He.cT K p).1 = c := by
  obtain ⟨oc, od, osl, fd, lk, e⟩ := h
  exact He.codeOf_eq lk e
section
variable {P : Program} {w : World} {K : PySem.W.Frag} {mg : Str → Option Value} {base : Heap} {x qual : Str} {params : Arguments} {body : List Stmt} {scope : Scope} {dvs : List V} {kws : List (Str × V)} {f : Addr} {fd : FuncData}
/-- as okG, the code's place told -/
theorem okGc {N ps : List Str} {k : Nat} {sp : Sp} (F : FunD K x qual params body scope dvs kws f fd) (S : FnScope N ps scope) (len : ∀ vs H Q E, sp vs H Q E → vs.length = ps.length)
    (hbody : ∀ (c : Addr) (A : Around) (outer : List Env) (s : Shared) (H : Hp) (vs : List V) (Q : VK) (E : XK), CodeAt K f c → (A.deeper (envOfC qual scope s.heap.objs.size f (.ref c))).guards = some [] → Room k (A.deeper (envOfC qual scope s.heap.objs.size f (.ref c))) → sp vs H Q E →
      ∃ t, PSs (cxOf CX0 P w K mg base N qual scope f (.ref c) A outer s H E) body t ∧ t { nx := fun _ H' => Q .non H', rt := Q } (L2.start N vs) H) : FnG P w K mg base (k + 1) f fd ps sp := by
  have F2 := F
  obtain ⟨oc, od, dV, kV, doc, pm, an, cdv, ct, osl, rfl, lk, hcd, _, _⟩ := F.ex
  obtain ⟨c, rfl⟩ := He.codeIn_ref hcd
  have hc : CodeAt K f c := ⟨_, _, _, _, lk, rfl⟩
  refine ⟨len, fun A outer s H args us vs Q E hgd hr e0 hb r hsp => ?_⟩
  have hlv := len _ _ _ _ hsp
  have KX : K.In s.heap := e0.mod.kin.keeps fun b o e => (e0.bs b o e).1
  have lim : s.heap.NoLimit := e0.mod.nolimit.keeps fun b o e => (e0.bs b o e).1
  have hkd : ∀ y ∈ ps.zip us, scope.names.lookup y.1 = some .local ∨ (scope.names.lookup y.1 = some .cell ∧ ((cellsFrom (s.heap.objs.size + 1) scope.names []).lookup y.1).isSome = true) := fun ⟨n, v⟩ hy => by
    rcases S.par n (List.of_mem_zip hy).1 with q | q
    · exact .inl q
    · exact .inr ⟨q, PySem.W.cellsFrom_some _ _ _ (.inl q)⟩
  refine codeAny_call_function hr.depth (KX _ _ lk) rfl S.co S.gen rfl (PySem.W.codeRec_of KX hcd) (hb _ _ _ _ ?_)
  refine wpAny_newFunctionEnv_cells S.kind hkd fun env he s1 z => ?_
  subst he
  refine ⟨lim.keeps z.toInCall.keep, codeAny_func ?_⟩
  obtain ⟨t, ht, hq⟩ := hbody c A outer s H vs Q E hc (deeper_guards hgd) (hr.deeper _) hsp
  have I : Inv (cxOf CX0 P w K mg base N qual scope f (.ref c) A outer s H E) [] (L2.start N vs) H s1 := inv_start S hr.hd e0 hlv r z
  refine wpAny_mono (ht.run [] s1 (L2.start N vs) H _ I hq) (fun fl s' hs => ?_) fun e s' hs => hs
  cases fl with
  | ret u =>
    obtain ⟨v, σ', H', J, rv, q⟩ := hs
    exact ⟨v, H', J.os, J.bare, J.base, J.hok, rv, q⟩
  | next =>
    obtain ⟨σ', H', J, q⟩ := hs
    exact ⟨V.non, H', J.os, J.bare, J.base, J.hok, rfl, q⟩
  | brk =>
    obtain ⟨_, _, _, q⟩ := hs
    exact q.elim
  | cont =>
    obtain ⟨_, _, _, q⟩ := hs
    exact q.elim
end
end K5
set_option Elab.async false
set_option linter.all false
set_option maxRecDepth 100000
set_option maxHeartbeats 8000000
namespace Pg
open PySem PySem.Spec PyProof.Rows L2 Gd Rl Te Nu TL
abbrev sSp : Stmt := top 49
/-! ### the places, found one by one -/
theorem firsts_snoc (l : List Str) (z : Str) : firsts (l ++ [z]) = if l.contains z = true then firsts l else firsts l ++ [z] := by
  unfold firsts
  rw [List.length_append, List.length_singleton, List.range_succ, List.filter_append, List.map_append]
  have e1 : ((List.range l.length).filter (firstB (l ++ [z]))).map (fun i => (l ++ [z]).getD i "") = ((List.range l.length).filter (firstB l)).map fun i => l.getD i "" := by
    have ef : (List.range l.length).filter (firstB (l ++ [z])) = (List.range l.length).filter (firstB l) := by
      apply List.filter_congr
      intro i hi
      have hi2 : i < l.length := List.mem_range.mp hi
      unfold firstB
      rw [List.take_append_of_le_length (Nat.le_of_lt hi2), List.getD_eq_getElem?_getD, List.getD_eq_getElem?_getD, List.getElem?_append_left hi2]
    rw [ef]
    apply List.map_congr_left
    intro i hi
    have hi2 : i < l.length := List.mem_range.mp (List.mem_filter.mp hi).1
    rw [List.getD_eq_getElem?_getD, List.getD_eq_getElem?_getD, List.getElem?_append_left hi2]
  have e2 : (l ++ [z]).getD l.length "" = z := by
    rw [List.getD_eq_getElem?_getD, List.getElem?_append_right (Nat.le_refl _), Nat.sub_self]
    rfl
  have e3 : firstB (l ++ [z]) l.length = !l.contains z := by
    unfold firstB
    rw [e2, List.take_left]
  rw [e1, List.filter_cons, e3]
  cases h : l.contains z with
  | true => simp
  | false =>
    simp only [Bool.not_false, if_true, List.filter_nil, List.map_cons, List.map_nil, e2]
    rw [if_neg Bool.false_ne_true]
theorem mem_firsts : ∀ (n : Nat) (l : List Str), l.length = n → ∀ z ∈ l, z ∈ firsts l
  | 0, l, h, z, hz => by
    rw [List.length_eq_zero_iff.mp h] at hz
    cases hz
  | n + 1, l, h, z, hz => by
    have hne : l ≠ [] := fun e => by rw [e] at h; cases h
    have e := List.dropLast_concat_getLast hne
    rw [← e] at hz ⊢
    rw [firsts_snoc]
    have hl : l.dropLast.length = n := by
      rw [List.length_dropLast, h]
      rfl
    by_cases hm : z ∈ l.dropLast
    · have ih := mem_firsts n l.dropLast hl z hm
      split
      · exact ih
      · exact List.mem_append_left _ ih
    · rcases List.mem_append.mp hz with hz | hz
      · exact absurd hz hm
      · have ez := List.mem_singleton.mp hz
        rw [if_neg]
        · exact List.mem_append_right _ hz
        · intro hc
          have : l.getLast hne ∈ l.dropLast := by simpa using hc
          exact hm (by rw [ez]; exact this)
theorem firsts_same (l : List Str) (z : Str) : (firsts l).contains z = l.contains z := by
  rw [Bool.eq_iff_iff]
  simp only [List.contains_iff_mem]
  exact ⟨fun h => K5.firsts_mem z h, fun h => mem_firsts l.length l rfl z h⟩
section
variable {P : Program} {w : World} {K : PySem.W.Frag} {mg : Str → Option Value} {base : Heap} {f : Addr} {fd : FuncData}
abbrev nSp : List Str := ["_law_parts_here", "_law_found", "_law_spot", "_law_some", "_law_arm"]
theorem scSp : FnScope nSp ["_law_parts_here"] (defScope sSp) := ⟨rfl, rfl, rfl, by decide +kernel, rfl, by decide +kernel, by decide +kernel⟩
def spSp (K : PySem.W.Frag) : Sp := fun vs H Q _ => ∃ (r : Addr) (u v z : V) (ss : List (Str × List Int)) (as : List Arm), vs = [.ref r] ∧ H r = some (.lst [u, v, z]) ∧ Dp K H v (saysD ss) ∧ Dp K H z (armsD as) ∧ ss.length ≤ 3 ∧ as.length ≤ 5 ∧ ∀ q H', Same H H' → SqT K H' q ((placesS ss as).map V.str) → Q (.ref q) H'
theorem ok_sp (F : FnP K "_law_spots" sSp f fd) (T : Mo mg) : FnOk P w K mg base CX0 1 f fd ["_law_parts_here"] (spSp K) := by
  refine F.ok scSp (fun vs H Q E h => ?_) (fun cdv A outer s H vs Q E hr h => ?_)
  · obtain ⟨r, u, v, z, ss, as, rfl, _⟩ := h
    rfl
  · obtain ⟨r, u, v, z, ss, as, rfl, hr0, hv, hz, s3, a5, k⟩ := h
    refine ⟨_, PSs.nox <| pss_cons (ps_set (i := 1) scSp.nd rfl (.inl rfl) (pe_lstR pa_nil))
      <| pss_cons (ps_for PassesOwn.never rfl (pi_tup (pe_ix ix_list (pv 0) pe_int (fun _ _ => rfl))) (pg_tup (by rfl) (pgs_cons (pg_name (i := 2) scSp.nd rfl (.inl rfl)) (pgs_cons (pg_name (i := 3) scSp.nd rfl (.inl rfl)) pgs_nil)))
          (pss_one (ps_if (pt_cmpR (r := rIn K true) op_notIn_seq (pv 2) (pv 1) (by rfl)) (pss_one (ps_expr (pe_bm PySem.F.plainAttrs_list PySem.F.slot_list_append PySem.F.type_list_append mt_append (pv 1) (pa_cons (pv 2) pa_nil)))) pss_nil)))
      <| pss_cons (ps_for PassesOwn.never rfl (pi_tup (pe_ix ix_list (pv 0) pe_int (fun _ _ => rfl))) (pg_name (i := 4) scSp.nd rfl (.inl rfl))
          (pss_one (ps_for PassesOwn.never rfl (pi_tup (pe_slice (r := rSlTR K) sl_tupR (pv 4) po_none (po_some pe_int))) (pg_name (i := 2) scSp.nd rfl (.inl rfl))
            (pss_one (ps_if (pt_cmpR (r := rIn K true) op_notIn_seq (pv 2) (pv 1) (by rfl)) (pss_one (ps_expr (pe_bm PySem.F.plainAttrs_list PySem.F.slot_list_append PySem.F.type_list_append mt_append (pv 1) (pa_cons (pv 2) pa_nil)))) pss_nil)))))
      <| pss_one (ps_ret (pe_callTy call_tuple_of (by rfl) T.tuple (by decide +kernel) (pa_cons (pv 1) pa_nil))), ?_⟩
    obtain ⟨b, ys, rfl, hb, hbs⟩ := rp_tup (.inl hv)
    obtain ⟨c, zs, rfl, hc, hcs⟩ := rp_tup (.inl hz)
    have ly := dp_len hbs
    have lz := dp_len hcs
    rw [List.length_map] at ly lz
    have few : ∀ {l : List Str}, l.length ≤ 20 → ((firsts l).map V.str).length < sizeLine := fun {l} h => small1000 (by have := firsts_le l; rw [List.length_map]; omega)
    have eB : ∀ (l : List Str) (y : Str), (if true = true then !inV (V.str y) ((firsts l).map V.str) else inV (V.str y) ((firsts l).map V.str)) = !l.contains y := fun l y => by
      rw [if_pos rfl, inV_strs, firsts_same]
    refine ⟨(show 0 ≤ 1000 by decide), fun l H2 n2 => ?_⟩
    have g2 : Grow H l (firsts []) H2 := ⟨n2.1, n2.2.2, n2.2.1⟩
    refine ⟨_, rfl, r, _, 1, _, rfl, rfl, SqL.of (g2.s _ _ hr0), rfl, b, rfl, ⟨_, Same.seqT g2.s hb⟩, for_tup (Pv := fun i σ H' => ∃ x2 x3 x4, σ = [some (.ref r), some (.ref l), x2, x3, x4] ∧ Grow H l (firsts ((ss.take i).map Prod.fst)) H') ⟨_, _, _, rfl, g2⟩ (fun i σ H' _ ⟨_, _, _, _, g⟩ => Same.seqT g.s hb) ?_ ?_⟩
    · rintro i x σ H3 ex ⟨x2, x3, x4, rfl, g3⟩
      obtain ⟨sy, es, hx⟩ := map_at hbs ex
      obtain ⟨p, ws, rfl, hp, hws⟩ := rp_tup (.inl hx)
      cases hws with
      | @cons w0 _ _ _ z0 hw1 =>
      cases hw1 with
      | @cons w1 _ _ _ z1 hw2 =>
      cases hw2
      cases z0
      refine ⟨p, _, rfl, Same.seqT g3.s hp, rfl, _, _, rfl, _, _, rfl, rfl, ?_⟩
      refine ⟨_, rfl, _, rfl, l, _, rfl, .inl (SqL.of g3.e), rfl, flat_strs _, _, rfl, ?_⟩
      have et : (ss.take (i + 1)).map Prod.fst = (ss.take i).map Prod.fst ++ [sy.1] := by
        rw [List.take_add_one, es]
        simp
      cases hm : ((ss.take i).map Prod.fst).contains sy.1 with
      | true =>
        refine iteBF ((eB _ _).trans (by rw [hm]; rfl)) ?_
        refine ⟨_, _, _, rfl, ?_⟩
        rw [et, firsts_snoc, if_pos hm]
        exact g3
      | false =>
        refine iteBT ((eB _ _).trans (by rw [hm]; rfl)) ?_
        refine ⟨_, rfl, .inl ⟨rfl, _, SqL.of g3.e⟩, _, rfl, l, _, _, rfl, rfl, g3.e, few (by rw [List.length_map, List.length_take]; omega), ?_⟩
        refine ⟨_, _, _, rfl, ?_⟩
        rw [et, firsts_snoc, if_neg (by rw [hm]; exact Bool.false_ne_true)]
        exact g3.put sy.1
    · rintro σ H3 ⟨x2, x3, x4, rfl, g3⟩
      rw [ly, List.take_length] at g3
      have e0 : placesS ss (as.take 0) = firsts (ss.map Prod.fst) := by
        unfold placesS standS
        simp
      refine ⟨_, rfl, r, _, 2, _, rfl, rfl, SqL.of (g3.s _ _ hr0), rfl, c, rfl, ⟨_, Same.seqT g3.s hc⟩, for_tup (Pv := fun i σ H' => ∃ x2 x3 x4, σ = [some (.ref r), some (.ref l), x2, x3, x4] ∧ Grow H l (placesS ss (as.take i)) H') ⟨_, _, _, rfl, by rw [e0]; exact g3⟩ (fun i σ H' _ ⟨_, _, _, _, g⟩ => Same.seqT g.s hc) ?_ ?_⟩
      · rintro i x σ H4 ex ⟨x2, x3, x4, rfl, g4⟩
        obtain ⟨ar, ea, hx⟩ := map_at hcs ex
        obtain ⟨p, ws, rfl, hp, hws⟩ := rp_tup (.inl hx)
        cases hws with
        | @cons w0 _ _ _ z0 hw1 =>
        cases hw1 with
        | @cons w1 _ _ _ z1 hw2 =>
        cases hw2 with
        | @cons w2 _ _ _ z2 hw3 =>
        cases hw3 with
        | @cons w3 _ _ _ z3 hw4 =>
        cases hw4
        cases z0
        cases z1
        refine ⟨_, rfl, 2, rfl, p, _, rfl, Same.seqT g4.s hp, fun q H5 s5 hq => ?_⟩
        have g5 := g4.keep s5
        replace hq : SqT K H5 q ([ar.src, ar.tgt].map V.str) := hq
        have lst := stand_len ss (as.take i)
        rw [List.length_take] at lst
        refine ⟨q, rfl, ⟨_, hq⟩, for_tup (xs := [ar.src, ar.tgt].map V.str) (Pv := fun j σ H' => ∃ x2 x3, σ = [some (.ref r), some (.ref l), x2, x3, some (.ref p)] ∧ SqT K H' q ([ar.src, ar.tgt].map V.str) ∧ Grow H l (firsts (standS ss (as.take i) ++ [ar.src, ar.tgt].take j)) H') ⟨_, _, rfl, hq, by simpa [placesS] using g5⟩ (fun j σ H' _ ⟨_, _, _, h, _⟩ => h) ?_ ?_⟩
        · rintro j x σ H6 ex ⟨x2, x3, rfl, h6, g6⟩
          obtain ⟨y, ey, rfl⟩ := strs_at ex
          have hj : j < 2 := (List.getElem?_eq_some_iff.mp ey).1
          refine ⟨_, rfl, _, rfl, l, _, rfl, .inl (SqL.of g6.e), rfl, flat_strs _, _, rfl, ?_⟩
          have et : standS ss (as.take i) ++ [ar.src, ar.tgt].take (j + 1) = standS ss (as.take i) ++ [ar.src, ar.tgt].take j ++ [y] := by
            rw [List.take_add_one, ey, List.append_assoc]
            rfl
          cases hm : (standS ss (as.take i) ++ [ar.src, ar.tgt].take j).contains y with
          | true =>
            refine iteBF ((eB _ _).trans (by rw [hm]; rfl)) ?_
            refine ⟨_, _, rfl, h6, ?_⟩
            rw [et, firsts_snoc, if_pos hm]
            exact g6
          | false =>
            refine iteBT ((eB _ _).trans (by rw [hm]; rfl)) ?_
            refine ⟨_, rfl, .inl ⟨rfl, _, SqL.of g6.e⟩, _, rfl, l, _, _, rfl, rfl, g6.e, few (by rw [List.length_append, lst, List.length_take]; show _ + min j 2 ≤ 20; omega), ?_⟩
            refine ⟨_, _, rfl, seqT_upd g6.e h6, ?_⟩
            rw [et, firsts_snoc, if_neg (by rw [hm]; exact Bool.false_ne_true)]
            exact g6.put y
        · rintro σ H6 ⟨x2, x3, rfl, h6, g6⟩
          refine ⟨_, _, _, rfl, ?_⟩
          have e2 : placesS ss (as.take (i + 1)) = firsts (standS ss (as.take i) ++ [ar.src, ar.tgt].take 2) := by
            unfold placesS
            congr 1
            rw [List.take_add_one, ea]
            unfold standS
            simp
          rw [e2]
          exact g6
      · rintro σ H4 ⟨x2, x3, x4, rfl, g4⟩
        rw [lz, List.take_length] at g4
        refine ⟨_, rfl, l, _, rfl, .inl ⟨SqL.of g4.e, fun q nq => ?_⟩⟩
        exact k q _ (g4.s.trans (same_new nq)) (SqT.of upd_same)
end
end Pg
set_option Elab.async false
set_option linter.all false
set_option maxRecDepth 100000
set_option maxHeartbeats 8000000
namespace HT
open PySem PySem.Spec PyProof.Rows
/-! t[::-1] of a tuple -/
section
variable {prog : Program} {w : World} {A : Around} {E : Value → Shared → Prop} {s : Shared}
theorem sliceApplied_rev {sl : Addr} {vk : Value} {n : Nat} {Q : Int × Int × Nat → Shared → Prop} (hs : s.heap.IsSliceOf sl .none .none vk) (pk : IsPart vk (some (-1)))
    (h : Q ((n : Int) - 1, -1, n) s) : wpAny (model prog w) A (Builtin.Slice.sliceApplied (.ref sl) (pure (n : Int))) Q E s := by
  obtain ⟨os, hos, hcs, hds⟩ := id hs
  unfold Builtin.Slice.sliceApplied Builtin.Slice.sliceFields
  refine wpAny_bind (wpAny_bind (wpAny_field hos hds (x := .none) rfl (wpAny_bind (wpAny_field hos hds (x := .none) rfl (wpAny_bind (wpAny_field hos hds (x := vk) rfl (wpAny_pure ?_)))))))
  refine wpAny_bind (slicePart_ pk ?_)
  show wpAny _ _ (if ((-1 : Int) == 0) = true then _ else _) _ _ s
  rw [if_neg (by decide)]
  refine wpAny_bind (slicePart_none (wpAny_bind (slicePart_none (wpAny_bind (wpAny_pure ?_)))))
  show wpAny _ _ (match Builtin.Slice.sliceAdjust none none (-1) (n : Int) with | (lo, hi) => pure (lo, (-1 : Int), Builtin.Slice.slicePlaces lo hi (-1))) _ _ s
  have e : Builtin.Slice.sliceAdjust none none (-1) (n : Int) = ((n : Int) - 1, -1) := rfl
  rw [e]
  show wpAny _ _ (pure ((n : Int) - 1, (-1 : Int), Builtin.Slice.slicePlaces ((n : Int) - 1) (-1) (-1))) _ _ s
  have e2 : Builtin.Slice.slicePlaces ((n : Int) - 1) (-1) (-1) = n := by
    unfold Builtin.Slice.slicePlaces
    have h1 : ¬ ((-1 : Int) > 0) := by omega
    simp only [h1, if_false]
    split
    · rw [show (-(-1) : Int) = 1 from rfl, Int.ediv_one]
      omega
    · omega
  rw [e2]
  exact wpAny_pure h
theorem filter_at {α : Type} : ∀ (l : List Nat) (g : Nat → Option α) (k : Nat → α), (∀ m ∈ l, g m = some (k m)) → l.filterMap g = l.map k
  | [], _, _, _ => rfl
  | m :: l, g, k, h => by
    rw [List.filterMap_cons, h m (List.mem_cons_self ..), List.map_cons, filter_at l g k fun x hx => h x (List.mem_cons_of_mem _ hx)]
theorem pick_rev (xs : Array Value) : ((List.range xs.size).filterMap fun (m : Nat) => xs[(((xs.size : Nat) : Int) - 1 + (m : Int) * (-1)).toNat]?).toArray = xs.toList.reverse.toArray := by
  refine congrArg List.toArray ?_
  have e : ∀ m ∈ List.range xs.size, xs[(((xs.size : Nat) : Int) - 1 + (m : Int) * (-1)).toNat]? = some (xs.toList.reverse.getD m .none) := by
    intro m hm
    have hm := List.mem_range.mp hm
    have e1 : (((xs.size : Nat) : Int) - 1 + (m : Int) * (-1)).toNat = xs.size - 1 - m := by omega
    rw [e1, List.getD_eq_getElem?_getD, List.getElem?_reverse (by rw [Array.length_toList]; exact hm), Array.length_toList, Array.getElem?_toList, Array.getElem?_eq_getElem (by omega)]
    rfl
  rw [filter_at _ _ _ e]
  refine List.ext_getElem (by rw [List.length_map, List.length_range, List.length_reverse, Array.length_toList]) fun n h1 h2 => ?_
  rw [List.getElem_map, List.getElem_range, List.getD_eq_getElem?_getD, List.getElem?_eq_getElem h2]
  rfl
theorem getItem_tuple_rev {t sl : Addr} {items : Array Value} {vk : Value} {Q : Value → Shared → Prop} (ht : IsTup s.heap t items) (hs : s.heap.IsSliceOf sl .none .none vk) (pk : IsPart vk (some (-1)))
    (h : Q (.ref s.heap.objs.size) { s with heap := s.heap.push { cls := .type "tuple", data := .seq items.toList.reverse.toArray } })
    (hsz : items.size ≤ sizeLine) : wpAny (model prog w) A (getItem (.ref t) (.ref sl)) Q E s := by
  have htake : sizeOk (.seq items.toList.reverse.toArray) := by
    show items.toList.reverse.toArray.size ≤ sizeLine
    rw [List.size_toArray, List.length_reverse, Array.length_toList]
    exact hsz
  obtain ⟨os, hos, hcs, hds⟩ := id hs
  have hTs : s.TypeIs (.ref sl) "slice" := ⟨os, hos, hcs⟩
  unfold getItem
  try with_reducible refine wpAny_holding ?_
  first | refine wpAny_bind (wpAny_pure ?_) | skip
  refine wpAny_bind (wpAny_sequenceKey ht.typeIs (by decide) ?_)
  refine wpAny_bind (wpAny_callSpecial?_slot (name := Str.ofString "__getitem__") ht.typeIs PyProof.Rows.slot_tuple_getitem
    (wpAny_call_entry PyProof.Rows.slot_tuple_getitem ht.typeIs entry_tuple_getitem ?_ (args_tuple_getitem _ _)))
  show wpAny _ _ (Builtin.Tuple.tupleItemsOf (.ref t) >>= _) _ _ s
  refine wpAny_bind (tupleItemsOf_ ht ?_)
  refine wpAny_bind (wpAny_typeOf hTs ?_)
  rw [if_pos (by decide)]
  refine wpAny_bind (sliceApplied_rev hs pk ?_)
  have hno : ¬ (((((items.size : Nat) : Int) - 1) == 0 && (-1 : Int) == 1 && items.size == items.size) = true) := by
    intro q
    rw [Bool.and_eq_true, Bool.and_eq_true] at q
    exact absurd q.1.2 (by decide)
  show wpAny _ _ (if ((((items.size : Nat) : Int) - 1) == 0 && (-1 : Int) == 1 && items.size == items.size) = true then _ else _) _ _ s
  rw [if_neg hno, pick_rev]
  first
    | exact wpAny_bind (m := Builtin.Tuple.tupleExact _) (wpAny_newObj_type (wpAny_pure ⟨_, rfl, wpAny_pure h⟩) htake)
    | exact wpAny_bind (m := Builtin.Tuple.tupleExact _) (wpAny_newObj_type (wpAny_bind (wpAny_pure (wpAny_pure ⟨_, rfl, wpAny_pure h⟩))) htake)
    | exact wpAny_bind (wpAny_bind (m := Builtin.Tuple.tupleExact _) (wpAny_newObj_type (wpAny_pure (wpAny_pure ⟨_, rfl, wpAny_pure h⟩)) htake))
    | exact wpAny_bind (wpAny_bind (m := Builtin.Tuple.tupleExact _) (wpAny_newObj_type (wpAny_pure ⟨_, rfl, wpAny_pure h⟩) htake))
end
end HT
namespace L2
open PySem PySem.Spec PyProof.Rows
section
variable {X : Cx}
def tRevT (K : PySem.W.Frag) (te : TE) : TE := fun σ H Q => te σ H fun x H1 => ∃ a xs, x = .ref a ∧ SqT K H1 a xs ∧ ∀ p, H1 p = none → Q (.ref p) (upd H1 p (.tup xs.reverse))
theorem pe_revT {e : Expr} {te : TE} {k : Nat} {p1 p2 p3 pos : Pos} (he : PE X e te) : PE X (.Subscript e (.Slice none none (some (.UnaryOp .USub (.Constant (.int 1) k p1) p2)) p3) pos) (tRevT X.K te) := by
  refine ⟨fun pins s σ H Q I h => ?_⟩
  refine Subscript_ (thn (he.run pins s σ H _ I h) fun v s1 ⟨x, H1, I1, r1, q1⟩ => ?_)
  obtain ⟨a, xs, ex, hx, q⟩ := q1
  subst ex
  cases r1
  have hst : PO X (some (.UnaryOp .USub (.Constant (.int 1) k p1) p2)) (tPart (tUn (rU fun i => .int (-i)) (tC (.int 1)))) := po_some (pe_un un_neg pe_int)
  refine wpAny_Slice (thn (po_none.run pins s1 σ H1 (fun o H2 => o = none ∧ H2 = H1) I1 ⟨rfl, rfl⟩) fun vl s2 ⟨l, H2, I2, pl, el, e2⟩ => ?_)
  subst el e2
  refine thn (po_none.run pins s2 σ H2 (fun o H3 => o = none ∧ H3 = H2) I2 ⟨rfl, rfl⟩) fun vu s3 ⟨u, H3, I3, pu, eu, e3⟩ => ?_
  subst eu e3
  refine thn (hst.run pins s3 σ H3 (fun o H4 => o = some (-1) ∧ H4 = H3) I3 ⟨1, rfl, -1, rfl, rfl, rfl⟩) fun vs s4 ⟨o, H4, I4, ps, eo, e4⟩ => ?_
  subst eo e4
  cases pl
  cases pu
  have I5 : Inv X pins σ H4 { s4 with heap := s4.heap.push { cls := .type "slice", data := .fields #[.none, .none, vs] } } := I4.kept (t' := s4.toks) fun b ob q => Heap.get?_push_of_some _ q
  obtain ⟨its, r, ht, hz⟩ := I5.tuple hx
  have hlen := r.length
  show wpAny (model X.prog X.w) X.A (subscriptTail e (.Slice none none (some (.UnaryOp .USub (.Constant (.int 1) k p1) p2)) p3) (.ref a) (.ref s4.heap.objs.size)) (EP X pins σ Q) X.xe { s4 with heap := s4.heap.push { cls := .type "slice", data := .fields #[.none, .none, vs] } }
  refine tail_any (ops := [.ref a, .ref s4.heap.objs.size]) ht.typeIs (PyProof.Rows.slot_tuple_getitem.lookup) ?_ (by with_unfolding_all rfl)
  refine HT.getItem_tuple_rev ht (Heap.IsSliceOf.new _ .none .none vs) ps ?_ (by rw [List.size_toArray]; omega)
  refine ⟨.ref _, _, I5.laid (t' := s4.toks) (o := .tup xs.reverse) (fun b ob q => Heap.get?_push_of_some _ q) (Nat.le_refl _) ?_, rfl, q _ (I5.hok.fresh (Nat.le_refl _))⟩
  exact ⟨by rw [List.length_reverse]; exact hz, _, r.reverse, IsTup.new _ _⟩
end
end L2
set_option Elab.async false
set_option linter.all false
set_option maxRecDepth 100000
set_option maxHeartbeats 8000000
namespace K5
open PySem PySem.Spec PyProof.Rows L2 Gd Rl Vd
open Pg (top FnP Mo)
/-- stands while the pail goes on -/
theorem same_to {p : Addr} {H : Hp} : Same (delH H p) H := fun a o e => by
  by_cases h : a = p
  · rw [h, delH_same] at e
    cases e
  · rw [delH_ne h] at e
    exact e
theorem vpd_but {K : PySem.W.Frag} {p : Addr} {H H' : Hp} {v : V} {d : PyData} (b : But p H H') (h : Vp K (delH H p) v d) : Vp K (delH H' p) v d := vp_same (same_dels b) h
theorem vpd_same {K : PySem.W.Frag} {p : Addr} {H H' : Hp} {v : V} {d : PyData} (s : Same H H') (h : Vp K (delH H p) v d) : Vp K (delH H' p) v d := vpd_but (but_same s) h
theorem vpd_to {K : PySem.W.Frag} {p : Addr} {H : Hp} {v : V} {d : PyData} (h : Vp K (delH H p) v d) : Vp K H v d := vp_same same_to h
/-- a tuple laid apart from the pail -/
theorem vpd_tup {K : PySem.W.Frag} {p a : Addr} {H : Hp} {xs : List V} {ds : List PyData} (hp : Pail H p) (h : SqT K H a xs) (hs : VpAll K (delH H p) xs ds) : Vp K (delH H p) (.ref a) (.tuple ds) := by
  refine .tup ?_ hs
  have ne : ∀ o, H a = some o → (∀ ys, o ≠ .lst ys) → a ≠ p := fun o e n q => by
    obtain ⟨o1, st, c, h1, _⟩ := hp
    rw [q, h1] at e
    cases e
    exact n _ rfl
  rcases h with (h | ⟨o, h⟩) | h
  · exact .inl (.inl ((delH_ne (ne _ h fun _ q => nomatch q)).trans h))
  · exact .inl (.inr ⟨o, (delH_ne (ne _ h fun _ q => nomatch q)).trans h⟩)
  · exact .inr h
theorem catA_st {K : PySem.W.Frag} {H : Hp} {a b : Addr} {xs ys : List V} {Q : VK} (ha : SqT K H a xs) (hb : SqT K H b ys) (hl : xs.length + ys.length ≤ 1000) (h : ∀ r H', Same H H' → SqT K H' r (xs ++ ys) → Q (.ref r) H') : rCatA K (.ref a) (.ref b) H Q := by
  refine ⟨a, b, xs, ys, rfl, rfl, ha, hb, sz1000 (by omega), fun e0 => ?_, fun n0 e0 => ?_, fun n0 n1 p np => ?_⟩
  · subst e0
    exact h _ H (Same.refl _) hb
  · subst e0
    exact h _ H (Same.refl _) (by rw [List.append_nil]; exact ha)
  · exact h _ _ (same_new (o := .tup (xs ++ ys)) np) (SqT.of upd_same)
end K5
set_option Elab.async false
set_option linter.all false
set_option maxRecDepth 100000
set_option maxHeartbeats 8000000
namespace L2
open PySem PySem.Spec PyProof.Rows
/-! a list beside the empty list -/
def rNeE (K : PySem.W.Frag) : R2 := fun x y H Q => ∃ a b xs, x = .ref a ∧ y = .ref b ∧ SqL K H a xs ∧ SqL K H b [] ∧ Q (.bl (!xs.isEmpty)) H
def rEqE (K : PySem.W.Frag) : R2 := fun x y H Q => ∃ a b xs, x = .ref a ∧ y = .ref b ∧ SqL K H a xs ∧ SqL K H b [] ∧ Q (.bl xs.isEmpty) H
section
variable {X : Cx}
theorem op_neE (hu : X.A.units + 64 < cLine) : OpR X (compareOp .NotEq) (rNeE X.K) := by
  intro pins s σ H x y v u Q I rx ry h
  obtain ⟨a, b, xs, rfl, rfl, ha, hb, q⟩ := h
  cases xs with
  | nil =>
    exact op_neD hu pins s σ H _ _ _ _ Q I rx ry ⟨.list [], .list [], .lst ha .nil, .lst hb .nil, by decide +kernel, by decide +kernel, q⟩
  | cons z zs =>
    cases rx
    cases ry
    obtain ⟨ia, ra, ⟨oa, na, ha1, ha2, _, ha3⟩, _⟩ := I.list ha
    obtain ⟨ib, rb, ⟨ob, nb, hb1, hb2, _, hb3⟩, _⟩ := I.list hb
    cases rb
    cases ra with
    | cons r1 r2 =>
    exact EqBoolInt.of_rcne (SeqAt.RcNeAt.lists_lengths ⟨oa, ha1, ha2, na, ha3⟩ ⟨ob, hb1, hb2, nb, hb3⟩ (by simp) (by omega)) ⟨.bl true, H, I, rfl, q⟩
theorem op_eqE (hu : X.A.units + 64 < cLine) : OpR X (compareOp .Eq) (rEqE X.K) := by
  intro pins s σ H x y v u Q I rx ry h
  obtain ⟨a, b, xs, rfl, rfl, ha, hb, q⟩ := h
  cases xs with
  | nil =>
    exact op_eqD hu pins s σ H _ _ _ _ Q I rx ry ⟨.list [], .list [], .lst ha .nil, .lst hb .nil, by decide +kernel, by decide +kernel, q⟩
  | cons z zs =>
    cases rx
    cases ry
    obtain ⟨ia, ra, ⟨oa, na, ha1, ha2, _, ha3⟩, _⟩ := I.list ha
    obtain ⟨ib, rb, ⟨ob, nb, hb1, hb2, _, hb3⟩, _⟩ := I.list hb
    cases rb
    cases ra with
    | cons r1 r2 =>
    exact EqBoolInt.of_rc (SeqAt.RcAt.lists_lengths ⟨oa, ha1, ha2, na, ha3⟩ ⟨ob, hb1, hb2, nb, hb3⟩ (by simp) (by omega)) ⟨.bl false, H, I, rfl, q⟩
end
end L2
namespace K5
open PySem PySem.Spec PyProof.Rows L2 Gd Rl Vd
open Pg (top FnP Mo letS figS nameS nameB okD spV1 spV2 intB numB formB formsB lenD brB badA wrongA idV wrongA_at wrongA_no getD_at iteDN iteDY ok_tup ok_at saysD armsD iteNE iteBF iteBT cut_take rSlTR sl_tupR firsts standS standD placesS spSp sSp)
abbrev sWhole : Stmt := top 52
abbrev sTag : Stmt := top 53
abbrev sLform : Stmt := top 54
abbrev sArm : Stmt := top 55
abbrev sWrongA : Stmt := top 58
def WrongAt (H : Hp) (l : Addr) : Option (Option Nat) → Prop
  | none => H l = some (.lst [])
  | some o => H l = some (.lst [idV o])
section
variable {P : Program} {w : World} {K : PySem.W.Frag} {mg : Str → Option Value} {base : Heap} {f : Addr} {fd : FuncData}
abbrev nTag : List Str := ["_law_value", "_law_sign"]
theorem scTag : FnScope nTag ["_law_value"] (defScope sTag) := ⟨rfl, rfl, rfl, by decide +kernel, rfl, by decide +kernel, by decide +kernel⟩
def lfB (c : Nat) : Bool := decide (c ∈ (letS ++ figS).cps.toList)
theorem iteNF {b : Bool} {A B : Prop} (hb : b = false) (h : B) : if b = true then A else B := by
  rw [hb]
  exact iteF h
theorem iteNT {b : Bool} {A B : Prop} (hb : b = true) (h : A) : if b = true then A else B := by
  rw [hb]
  exact iteT h
theorem all_take {l : List Nat} {p : Nat → Bool} {i : Nat} (h : i < l.length) : (l.take (i + 1)).all p = ((l.take i).all p && p l[i]) := by
  rw [List.take_succ_eq_append_getElem h, List.all_append, List.all_cons, List.all_nil, Bool.and_true]
theorem ok_tag (F : FnP K "_law_is_tag" sTag f fd) (T : Mo mg) : FnOk P w K mg base CX0 1 f fd ["_law_value"] (spV1 K nameB) := by
  refine F.ok scTag (fun vs H Q E h => ?_) (fun cdv A outer s H vs Q E hr h => ?_)
  · obtain ⟨v, d, rfl, _⟩ := h
    rfl
  · obtain ⟨v, d, rfl, hd, ho, k⟩ := h
    refine ⟨_, PSs.nox <| pss_cons (ps_if (PW.pt (pw_or (pt_not (pt_val (pe_callB (call_isV (T := "str")) (by rfl) T.isi boot_isinstance (pa_cons (pv 0) (pa_cons (pe_bltn (v := .ty "str") (by rfl) T.str (by decide +kernel) rfl) pa_nil)))))
        (pw_or (pt_not (pt_chain op_le op_le pe_int (pe_callB call_len_str (by rfl) T.len PySem.boot_len (pa_cons (pv 0) pa_nil)) pe_int)) (pw_or1 (pt_cmpR op_notIn_sign (pe_item_str (pv 0) pe_int (fun _ _ => rfl)) pe_str (by rfl)))))) (pss_one (ps_ret pe_bl)) pss_nil)
      <| pss_one (ps_ret (pe_cmpR (op_eqE hr.units) (pe_lc (own := [("_law_sign", 1)]) (g := gName 1) rfl scTag.nd (pi_str (pv 0)) (blkOk_by (N := nTag) (sc := defScope sTag) (by decide +kernel)) (fun _ _ _ _ _ => pg_name (i := 1) scTag.nd rfl (Or.inl rfl))
          (fun _ _ _ _ _ => pts_one (pt_cmpR op_notIn_sign (pv 1) pe_str (by rfl))) (fun _ _ _ _ _ => pv 1)) (pe_lstR pa_nil) (nomark _))), ?_⟩
    refine ⟨_, rfl, v, d, _, rfl, hd, kit_str d, _, rfl, ?_⟩
    have k0 := k H (Same.refl H)
    cases d with
    | str z =>
      cases hd
      have hz : z.length ≤ 1000 := of_decide_eq_true ho
      have lz : z.length = z.cps.toList.length := by
        rw [Array.length_toList]
        rfl
      refine iteF ?_
      refine ⟨_, rfl, _, rfl, sz1000 hz, _, _, rfl, rfl, _, rfl, ?_⟩
      refine ite2 (fun h1 => ?_) (fun h1 => ?_)
      · refine ⟨_, _, rfl, rfl, _, rfl, ?_⟩
        have h1' : 1 ≤ z.length := by
          have := of_decide_eq_true h1
          omega
        obtain ⟨c, r, hl⟩ : ∃ c r, z.cps.toList = c :: r := by
          cases hl : z.cps.toList with
          | nil =>
            rw [hl] at lz
            simp at lz
            omega
          | cons c r => exact ⟨c, r, rfl⟩
        have hlen : z.length = (c :: r).length := by
          rw [hl] at lz
          omega
        have hB : nameB (.str z) = (decide ((c :: r).length ≤ 8) && (decide (c ∈ letS.cps.toList) && (c :: r).all lfB)) := by
          show nameS z = _
          unfold nameS
          rw [hl]
          rfl
        rw [hB] at k0
        by_cases h2 : z.length ≤ 8
        · rw [show decide ((z.length : Int) ≤ 8) = true from decide_eq_true (by omega)]
          rw [show decide ((c :: r).length ≤ 8) = true from decide_eq_true (by omega), Bool.true_and] at k0
          refine iteF ?_
          have hc0 : z.cps[(0 : Int).toNat]? = some c := by
            rw [← Array.getElem?_toList, hl]
            rfl
          refine ⟨_, rfl, z, 0, c, rfl, rfl, by decide, by decide, by omega, hc0, c, letS, rfl, rfl, _, rfl, ?_⟩
          by_cases h3 : c ∈ letS.cps.toList
          · rw [decide_eq_true h3] at k0 ⊢
            rw [Bool.true_and] at k0
            refine iteF ?_
            refine ⟨_, rfl, z, rfl, ?_⟩
            intro D nD
            refine lc_it walk_str (fun i H' => Same H H' ∧ ∃ l : List Nat, H' D = some (.lst (l.map fun c => V.str ⟨#[c]⟩)) ∧ l.length ≤ i ∧ l.isEmpty = ((c :: r).take i).all lfB) ⟨same_new nD, [], upd_same, Nat.le_refl _, rfl⟩ (fun _ _ _ _ => trivial) ?_ ?_
            · rintro i x H1 H2 hi ⟨s1, l, e1, ll, hE⟩ ⟨rfl, c', ec, rfl⟩
              have e2 : (c :: r)[i]? = some c' := by
                rw [← hl, Array.getElem?_toList]
                exact ec
              obtain ⟨hi2, ei⟩ := List.getElem?_eq_some_iff.mp e2
              refine ⟨rfl, _, rfl, c', _, rfl, rfl, _, rfl, ?_⟩
              have hN : ((c :: r).take (i + 1)).all lfB = (((c :: r).take i).all lfB && lfB c') := by
                rw [all_take hi2, ei]
              cases hc : lfB c' with
              | true =>
                rw [hc, Bool.and_true] at hN
                have hc2 : (!decide (c' ∈ (letS ++ figS).cps.toList)) = false := by
                  rw [show decide (c' ∈ (letS ++ figS).cps.toList) = true from hc]
                  rfl
                refine iteNF hc2 ?_
                exact ⟨s1, l, e1, by omega, by rw [hE, hN]⟩
              | false =>
                rw [hc, Bool.and_false] at hN
                have hc2 : (!decide (c' ∈ (letS ++ figS).cps.toList)) = true := by
                  rw [show decide (c' ∈ (letS ++ figS).cps.toList) = false from hc]
                  rfl
                refine iteNT hc2 ?_
                refine ⟨_, rfl, _, e1, small1000 (by rw [List.length_map]; have : z.cps.size = z.length := rfl; omega), fun b o e => ?_, l ++ [c'], ?_, by rw [List.length_append]; exact Nat.succ_le_succ ll, ?_⟩
                · rw [upd_ne (ne_of_none e nD)]
                  exact s1 _ _ e
                · rw [upd_same, List.map_append]
                  rfl
                · rw [hN]
                  cases l <;> rfl
            · rintro H1 ⟨s1, l, e1, ll, hE⟩
              refine ⟨(show 0 ≤ 1000 by decide), fun T2 H2 n2 => ⟨D, T2, _, rfl, rfl, SqL.of (n2.2.2 _ _ e1), SqL.of n2.2.1, ?_⟩⟩
              have e3 : (l.map fun c => V.str ⟨#[c]⟩).isEmpty = (c :: r).all lfB := by
                have h5 : z.cps.size = (c :: r).length := hlen
                rw [h5, List.take_length] at hE
                rw [← hE]
                cases l <;> rfl
              rw [e3]
              exact k H2 (s1.trans n2.2.2) |> fun q => by rw [hB, show decide ((c :: r).length ≤ 8) = true from decide_eq_true (by omega), Bool.true_and, decide_eq_true h3, Bool.true_and] at q; exact q
          · rw [decide_eq_false h3] at k0 ⊢
            exact iteT k0
        · rw [show decide ((z.length : Int) ≤ 8) = false from decide_eq_false (by omega)]
          rw [show decide ((c :: r).length ≤ 8) = false from decide_eq_false (by omega), Bool.false_and] at k0
          exact iteT k0
      · refine ⟨_, rfl, ?_⟩
        have h1' : z.length = 0 := by
          have : ¬ (1 : Int) ≤ z.length := fun q => h1 (decide_eq_true q)
          omega
        have hB : nameB (.str z) = false := by
          show nameS z = _
          unfold nameS
          cases hl : z.cps.toList with
          | nil => rfl
          | cons c r =>
            rw [hl] at lz
            simp at lz
            omega
        rw [hB] at k0
        exact iteT k0
    | int i => exact iteT k0
    | bool b => exact iteT k0
    | none => exact iteT k0
    | list ds => exact iteT k0
    | tuple ds => exact iteT k0
    | dict ds => exact iteT k0
theorem scWhole : FnScope ["_law_value"] ["_law_value"] (defScope sWhole) := ⟨rfl, rfl, rfl, by decide +kernel, rfl, by decide +kernel, by decide +kernel⟩
theorem ok_whole (F : FnP K "_law_is_whole" sWhole f fd) (T : Mo mg) : FnOk P w K mg base CX0 1 f fd ["_law_value"] (spV1 K intB) := by
  refine F.ok scWhole (fun vs H Q E h => ?_) (fun cdv A outer s H vs Q E hr h => ?_)
  · obtain ⟨v, d, rfl, _⟩ := h
    rfl
  · obtain ⟨v, d, rfl, hd, ho, k⟩ := h
    refine ⟨_, PSs.nox <| pss_one (ps_ret (pe_and (pe_callB (call_isV (T := "int")) (by rfl) T.isi boot_isinstance (pa_cons (pv 0) (pa_cons (pe_bltn (v := .ty "int") (by rfl) T.int (by decide +kernel) rfl) pa_nil)))
      (pe_one (pe_not (pe_callB (call_isV (T := "bool")) (by rfl) T.isi boot_isinstance (pa_cons (pv 0) (pa_cons (pe_bltn (v := .ty "bool") (by rfl) T.bool (by decide +kernel) rfl) pa_nil))))))), ?_⟩
    refine ⟨_, rfl, v, d, _, rfl, hd, kit_int d, _, rfl, ?_⟩
    have k0 := k H (Same.refl H)
    cases d with
    | int i => exact ⟨_, rfl, v, _, _, rfl, hd, kit_bool _, _, rfl, k0⟩
    | bool b => exact ⟨_, rfl, v, _, _, rfl, hd, kit_bool _, _, rfl, k0⟩
    | none => exact k0
    | str z => exact k0
    | list ds => exact k0
    | tuple ds => exact k0
    | dict ds => exact k0
/-! ### a form -/
theorem all_takeP {l : List PyData} {p : PyData → Bool} {i : Nat} {d : PyData} (h : l[i]? = some d) : (l.take (i + 1)).all p = ((l.take i).all p && p d) := by
  obtain ⟨hi, e⟩ := List.getElem?_eq_some_iff.mp h
  rw [List.take_succ_eq_append_getElem hi, List.all_append, List.all_cons, List.all_nil, Bool.and_true, e]
theorem abs_le {i : Int} : decide ((if i < 0 then -i else i) ≤ 1000000) = numB (.int i) := by
  show _ = (decide (-1000000 ≤ i) && decide (i ≤ 1000000))
  by_cases h : i < 0
  · rw [if_pos h, decide_eq_true (show i ≤ 1000000 by omega), Bool.and_true]
    exact decide_eq_decide.mpr ⟨fun q => by omega, fun q => by omega⟩
  · rw [if_neg h, decide_eq_true (show -1000000 ≤ i by omega), Bool.true_and]
abbrev nLform : List Str := ["_law_value", "_law_size", "_law_each"]
theorem scLform : FnScope nLform ["_law_value", "_law_size"] (defScope sLform) := ⟨rfl, rfl, rfl, by decide +kernel, rfl, by decide +kernel, by decide +kernel⟩
theorem ok_lform {fW : Addr} {dW : FuncData} (F : FnP K "_law_is_form" sLform f fd) (T : Mo mg) (UA : mg "abs" = none) (FW : FnP K "_law_is_whole" sWhole fW dW) (gW : mg "_law_is_whole" = some (.ref fW)) : FnOk P w K mg base CX0 2 f fd ["_law_value", "_law_size"] (spV2 K formB) := by
  have GW : FnOk P w K mg base CX0 1 fW dW ["_law_value"] (spV1 K intB) := ok_whole FW T
  have bW : Binds K dW ["_law_value"] [] := FW.bindsN fun _ _ _ _ _ _ us hl => match us, hl with | [_], _ => rfl
  refine F.ok scLform (fun vs H Q E h => ?_) (fun cdv A outer s H vs Q E hr h => ?_)
  · obtain ⟨v, d, m, rfl, _⟩ := h
    rfl
  · obtain ⟨v, d, m, rfl, hd, ho, k⟩ := h
    refine ⟨_, PSs.nox <| pss_cons (ps_if (PW.pt (pw_or (pt_not (pt_val (pe_callB (call_isV (T := "tuple")) (by rfl) T.isi boot_isinstance (pa_cons (pv 0) (pa_cons (pe_bltn (v := .ty "tuple") (by rfl) T.tuple (by decide +kernel) rfl) pa_nil)))))
        (pw_or1 (pt_cmpR op_ne (pe_callB call_len (by rfl) T.len PySem.boot_len (pa_cons (pv 0) pa_nil)) (pe_op op_add (pv 1) pe_int) (nomark _))))) (pss_one (ps_ret pe_bl)) pss_nil)
      <| pss_one (ps_ret (pe_cmpR (op_eqE hr.units) (pe_lc (own := [("_law_each", 2)]) (g := gName 2) rfl scLform.nd (pi_tup (pv 0)) (blkOk_by (N := nLform) (sc := defScope sLform) (by decide +kernel)) (fun _ _ _ _ _ => pg_name (i := 2) scLform.nd rfl (Or.inl rfl))
          (fun _ _ _ _ _ => pts_one (PW.pt (pw_or (pt_not (pt_val (pe_call GW hr (by rfl) gW FW.kp bW .nil pass0 (pa_cons (pv 2) pa_nil)))) (pw_or1 (pt_not (pt_cmpR op_le (pe_callB call_abs (by rfl) UA (by decide +kernel) (pa_cons (pv 2) pa_nil)) (pe_op op_pow pe_int pe_int) (nomark _)))))))
          (fun _ _ _ _ _ => pv 2)) (pe_lstR pa_nil) (nomark _))), ?_⟩
    refine ⟨_, rfl, v, d, _, rfl, hd, kit_tuple d, _, rfl, ?_⟩
    have k0 := k H (Same.refl H)
    cases d with
    | tuple ds =>
      obtain ⟨a, xs, rfl, hs, hxs⟩ := vp_tup hd
      obtain ⟨hl, hk⟩ := ok_tup ho
      have lx := vp_len hxs
      refine iteF ?_
      refine ⟨_, rfl, _, xs.length, rfl, .inr ⟨_, hs, rfl⟩, _, rfl, _, _, rfl, rfl, rfl, _, rfl, ?_⟩
      have hB : formB m (.tuple ds) = (decide (ds.length = m + 1) && ds.all numB) := rfl
      by_cases h1 : ds.length = m + 1
      · refine iteNS (by rw [lx, h1]; rfl) ?_
        rw [decide_eq_true h1, Bool.true_and] at hB
        refine ⟨_, rfl, a, rfl, ⟨_, hs⟩, ?_⟩
        intro D nD
        refine lc_it (walk_tup (xs := xs)) (fun i H' => Same H H' ∧ ∃ l : List V, H' D = some (.lst l) ∧ l.length ≤ i ∧ l.isEmpty = (ds.take i).all numB) ⟨same_new nD, [], upd_same, Nat.le_refl _, rfl⟩ (fun i H' _ ⟨s, _⟩ => Same.seqT s hs) ?_ ?_
        · rintro i x H1 H2 hi ⟨s1, l, e1, ll, hE⟩ ⟨rfl, ex⟩
          obtain ⟨d, ed, hx⟩ := vp_at hxs ex
          have hN := all_takeP (p := numB) ed
          refine ⟨rfl, _, rfl, x, d, rfl, vp_same s1 hx, ok_at hk ed, fun H3 s3 => ⟨_, rfl, ?_⟩⟩
          have s13 := s1.trans s3
          have e3 := s3 _ _ e1
          have lk : l.length < sizeLine := small1000 (by omega)
          have put : ∀ b o, H b = some o → (upd H3 D (.lst (l ++ [x]))) b = some o := fun b o e => by
            rw [upd_ne (ne_of_none e nD)]
            exact s13 _ _ e
          have emp : (l ++ [x]).isEmpty = false := by cases l <;> rfl
          cases hi2 : intB d with
          | false =>
            refine iteT ?_
            have hb : numB d = false := by
              cases d <;> first | rfl | cases hi2
            rw [hb, Bool.and_false] at hN
            exact ⟨_, rfl, _, e3, lk, put, l ++ [x], upd_same, by rw [List.length_append]; exact Nat.succ_le_succ ll, by rw [emp, hN]⟩
          | true =>
            refine iteF ?_
            cases d with
            | int n =>
              cases hx
              refine ⟨_, rfl, _, rfl, _, _, rfl, rfl, ⟨by decide, by decide, by decide⟩, _, _, rfl, rfl, _, rfl, ?_⟩
              have e10 : ((10 : Int) ^ (6 : Int).toNat) = 1000000 := by decide
              rw [e10, abs_le]
              cases hb : numB (.int n) with
              | false =>
                rw [hb, Bool.and_false] at hN
                refine iteT ?_
                exact ⟨_, rfl, _, e3, lk, put, l ++ [.int n], upd_same, by rw [List.length_append]; exact Nat.succ_le_succ ll, by rw [emp, hN]⟩
              | true =>
                rw [hb, Bool.and_true] at hN
                refine iteF ?_
                exact ⟨s13, l, e3, by omega, by rw [hE, hN]⟩
            | bool b => cases hi2
            | none => cases hi2
            | str z => cases hi2
            | list es => cases hi2
            | tuple es => cases hi2
            | dict es => cases hi2
        · rintro H1 ⟨s1, l, e1, ll, hE⟩
          refine ⟨(show 0 ≤ 1000 by decide), fun T2 H2 n2 => ⟨D, T2, _, rfl, rfl, SqL.of (n2.2.2 _ _ e1), SqL.of n2.2.1, ?_⟩⟩
          rw [lx, List.take_length] at hE
          rw [hE, ← hB]
          exact k H2 (s1.trans n2.2.2)
      · refine iteNE (fun e => h1 (by
          have := V.int.inj e
          omega)) ?_
        rw [decide_eq_false h1, Bool.false_and] at hB
        rw [hB] at k0
        exact k0
    | int i => exact iteT k0
    | bool b => exact iteT k0
    | none => exact iteT k0
    | list ds => exact iteT k0
    | str z => exact iteT k0
    | dict ds => exact iteT k0
/-! ### a branch -/
def spV2m (K : PySem.W.Frag) (B : Nat → PyData → Bool) : Sp := fun vs H Q _ => ∃ (v : V) (d : PyData) (m : Nat), vs = [v, .int m] ∧ m ≤ 990 ∧ Vp K H v d ∧ okD d = true ∧ ∀ H', Same H H' → Q (.bl (B m d)) H'
abbrev nArm : List Str := ["_law_value", "_law_size", "_law_some"]
theorem scArm : FnScope nArm ["_law_value", "_law_size"] (defScope sArm) := ⟨rfl, rfl, rfl, by decide +kernel, rfl, by decide +kernel, by decide +kernel⟩
theorem ok_arm {fT fO fW : Addr} {dT dO dW : FuncData} (F : FnP K "_law_is_arm" sArm f fd) (T : Mo mg) (UA : mg "abs" = none) (FT : FnP K "_law_is_tag" sTag fT dT) (gT : mg "_law_is_tag" = some (.ref fT)) (FO : FnP K "_law_is_form" sLform fO dO) (gO : mg "_law_is_form" = some (.ref fO))
    (FW : FnP K "_law_is_whole" sWhole fW dW) (gW : mg "_law_is_whole" = some (.ref fW)) : FnOk P w K mg base CX0 3 f fd ["_law_value", "_law_size"] (spV2m K brB) := by
  have GT : FnOk P w K mg base CX0 1 fT dT ["_law_value"] (spV1 K nameB) := ok_tag FT T
  have bT : Binds K dT ["_law_value"] [] := FT.bindsN fun _ _ _ _ _ _ us hl => match us, hl with | [_], _ => rfl
  have GO : FnOk P w K mg base CX0 2 fO dO ["_law_value", "_law_size"] (spV2 K formB) := ok_lform FO T UA FW gW
  have bO : Binds K dO ["_law_value", "_law_size"] [] := FO.bindsN fun _ _ _ _ _ _ us hl => match us, hl with | [_, _], _ => rfl
  refine F.ok scArm (fun vs H Q E h => ?_) (fun cdv A outer s H vs Q E hr h => ?_)
  · obtain ⟨v, d, m, rfl, _⟩ := h
    rfl
  · obtain ⟨v, d, m, rfl, hm, hd, ho, k⟩ := h
    have hr1 := hr.mono (show 1 ≤ 2 by decide)
    refine ⟨_, PSs.nox <| pss_cons (ps_if (PW.pt (pw_or (pt_not (pt_val (pe_callB (call_isV (T := "tuple")) (by rfl) T.isi boot_isinstance (pa_cons (pv 0) (pa_cons (pe_bltn (v := .ty "tuple") (by rfl) T.tuple (by decide +kernel) rfl) pa_nil)))))
        (pw_or (pt_cmpR op_ne (pe_callB call_len (by rfl) T.len PySem.boot_len (pa_cons (pv 0) pa_nil)) pe_int (nomark _))
        (pw_or (pt_not (pt_val (pe_call GT hr1 (by rfl) gT FT.kp bT .nil pass0 (pa_cons (pe_ix (r := rIxT K) ix_tup (pv 0) pe_int (fun _ _ => rfl)) pa_nil))))
        (pw_or1 (pt_not (pt_val (pe_call GT hr1 (by rfl) gT FT.kp bT .nil pass0 (pa_cons (pe_ix (r := rIxT K) ix_tup (pv 0) pe_int (fun _ _ => rfl)) pa_nil))))))))) (pss_one (ps_ret pe_bl)) pss_nil)
      <| pss_cons (ps_if (PW.pt (pw_or (pt_not (pt_val (pe_callB (call_isV (T := "tuple")) (by rfl) T.isi boot_isinstance (pa_cons (pe_ix (r := rIxT K) ix_tup (pv 0) pe_int (fun _ _ => rfl)) (pa_cons (pe_bltn (v := .ty "tuple") (by rfl) T.tuple (by decide +kernel) rfl) pa_nil)))))
        (pw_or (pt_not (pt_val (pe_callB (call_isV (T := "tuple")) (by rfl) T.isi boot_isinstance (pa_cons (pe_ix (r := rIxT K) ix_tup (pv 0) pe_int (fun _ _ => rfl)) (pa_cons (pe_bltn (v := .ty "tuple") (by rfl) T.tuple (by decide +kernel) rfl) pa_nil)))))
        (pw_or (pt_cmpR op_gt (pe_callB call_len (by rfl) T.len PySem.boot_len (pa_cons (pe_ix (r := rIxT K) ix_tup (pv 0) pe_int (fun _ _ => rfl)) pa_nil)) pe_int (nomark _))
        (pw_or1 (pt_cmpR op_ne (pe_callB call_len (by rfl) T.len PySem.boot_len (pa_cons (pe_ix (r := rIxT K) ix_tup (pv 0) pe_int (fun _ _ => rfl)) pa_nil)) (pv 1) (nomark _))))))) (pss_one (ps_ret pe_bl)) pss_nil)
      <| pss_one (ps_ret (pe_cmpR (op_eqE hr.units) (pe_lc (own := [("_law_some", 2)]) (g := gName 2) rfl scArm.nd (pi_tup (pe_op op_catA (pe_ix (r := rIxT K) ix_tup (pv 0) pe_int (fun _ _ => rfl)) (pe_ix (r := rIxT K) ix_tup (pv 0) pe_int (fun _ _ => rfl)))) (blkOk_by (N := nArm) (sc := defScope sArm) (by decide +kernel)) (fun _ _ _ _ _ => pg_name (i := 2) scArm.nd rfl (Or.inl rfl))
          (fun _ _ _ _ _ => pts_one (pt_not (pt_val (pe_call GO hr (by rfl) gO FO.kp bO .nil pass0 (pa_cons (pv 2) (pa_cons (pv 1) pa_nil))))))
          (fun _ _ _ _ _ => pv 2)) (pe_lstR pa_nil) (nomark _))), ?_⟩
    refine ⟨_, rfl, v, d, _, rfl, hd, kit_tuple d, _, rfl, ?_⟩
    have k0 := k H (Same.refl H)
    cases d with
    | tuple ds =>
      obtain ⟨a, xs, rfl, hs, hxs⟩ := vp_tup hd
      obtain ⟨hl, hk⟩ := ok_tup ho
      have lx := vp_len hxs
      refine iteF ?_
      refine ⟨_, rfl, _, xs.length, rfl, .inr ⟨_, hs, rfl⟩, rfl, _, rfl, ?_⟩
      by_cases h4 : ds.length = 4
      · refine iteNS (by rw [lx, h4]; rfl) ?_
        match ds, h4, hxs, hk, hl, lx, k, hs with
        | [pn, q, ts, cs], _, hxs, hk, hl, lx, k, hs =>
          cases hxs with
          | @cons v0 _ _ _ a0 hxs =>
          cases hxs with
          | @cons v1 _ _ _ a1 hxs =>
          cases hxs with
          | @cons v2 _ _ _ a2 hxs =>
          cases hxs with
          | @cons v3 _ _ _ a3 hxs =>
          cases hxs
          have o0 : okD pn = true := ok_at hk (i := 0) rfl
          have o1 : okD q = true := ok_at hk (i := 1) rfl
          have o2 : okD ts = true := ok_at hk (i := 2) rfl
          have o3 : okD cs = true := ok_at hk (i := 3) rfl
          have eB : brB m (.tuple [pn, q, ts, cs]) = (nameB pn && (nameB q && ((formsB m ts && decide (lenD ts ≤ 3)) && (formsB m cs && decide (lenD cs = m))))) := rfl
          have fin : ∀ H', Same H H' → brB m (.tuple [pn, q, ts, cs]) = false → Q (.bl false) H' := fun H' s hf => by
            have z := k H' s
            rw [hf] at z
            exact z
          refine ⟨_, rfl, a, _, 0, v0, rfl, rfl, hs, rfl, v0, pn, rfl, a0, o0, fun H1 s1 => ⟨_, rfl, ?_⟩⟩
          cases hp : nameB pn with
          | false => exact iteT (fin H1 s1 (by rw [eB, hp]; rfl))
          | true =>
          refine iteF ?_
          refine ⟨_, rfl, a, _, 1, v1, rfl, rfl, Same.seqT s1 hs, rfl, v1, q, rfl, vp_same s1 a1, o1, fun H2 s2 => ⟨_, rfl, ?_⟩⟩
          have s12 := s1.trans s2
          cases hq : nameB q with
          | false => exact iteT (fin H2 s12 (by rw [eB, hp, hq]; rfl))
          | true =>
          refine iteF ?_
          have hs2 := Same.seqT s12 hs
          refine ⟨_, rfl, a, _, 2, v2, rfl, rfl, hs2, rfl, v2, ts, _, rfl, vp_same s12 a2, kit_tuple _, _, rfl, ?_⟩
          cases ts with
          | tuple es =>
            refine iteF ?_
            refine ⟨_, rfl, a, _, 3, v3, rfl, rfl, hs2, rfl, v3, cs, _, rfl, vp_same s12 a3, kit_tuple _, _, rfl, ?_⟩
            cases cs with
            | tuple gs =>
              refine iteF ?_
              obtain ⟨b, ys, rfl, hb, hys⟩ := vp_tup (vp_same s12 a2)
              obtain ⟨c, zs, rfl, hc, hzs⟩ := vp_tup (vp_same s12 a3)
              have ly := vp_len hys
              have lz := vp_len hzs
              refine ⟨_, rfl, a, _, 2, _, rfl, rfl, hs2, rfl, _, _, rfl, .inr ⟨_, hb, rfl⟩, _, _, rfl, rfl, _, rfl, ?_⟩
              by_cases h3 : (3 : Int) < (ys.length : Nat)
              · refine iteDY h3 ?_
                exact fin H2 s12 (by rw [eB, hp, hq, decide_eq_false (show ¬ lenD (.tuple es) ≤ 3 from fun q => by have q2 : es.length ≤ 3 := q; omega)]; simp)
              refine iteDN h3 ?_
              refine ⟨_, rfl, a, _, 3, _, rfl, rfl, hs2, rfl, _, _, rfl, .inr ⟨_, hc, rfl⟩, _, rfl, rfl, _, rfl, ?_⟩
              by_cases h5 : gs.length = m
              · refine iteNS (by rw [lz, h5]) ?_
                obtain ⟨_, hk2⟩ := ok_tup o2
                obtain ⟨_, hk3⟩ := ok_tup o3
                refine ⟨_, rfl, a, _, 2, _, rfl, rfl, hs2, rfl, _, rfl, a, _, 3, _, rfl, rfl, hs2, rfl, catA_st hb hc (by omega) fun r H3 s3 hr3 => ⟨r, rfl, ⟨_, hr3⟩, ?_⟩⟩
                have hall := vp_app (vp_sameAll s3 hys) (vp_sameAll s3 hzs)
                have hB : brB m (.tuple [pn, q, .tuple es, .tuple gs]) = (es ++ gs).all (formB m) := by
                  rw [eB, hp, hq, decide_eq_true (show lenD (.tuple es) ≤ 3 from (by show es.length ≤ 3; omega)), decide_eq_true (show lenD (.tuple gs) = m from h5), Bool.true_and, Bool.true_and, Bool.and_true, Bool.and_true, List.all_append]
                  rfl
                have okE : ∀ {i : Nat} {d : PyData}, (es ++ gs)[i]? = some d → okD d = true := fun {i d} e => by
                  rcases List.mem_append.mp (List.mem_of_getElem? e) with hh | hh
                  · obtain ⟨j, hj⟩ := List.getElem?_of_mem hh
                    exact ok_at hk2 hj
                  · obtain ⟨j, hj⟩ := List.getElem?_of_mem hh
                    exact ok_at hk3 hj
                intro D nD
                refine lc_it (walk_tup (xs := ys ++ zs)) (fun i H' => Same H3 H' ∧ ∃ l : List V, H' D = some (.lst l) ∧ l.length ≤ i ∧ l.isEmpty = ((es ++ gs).take i).all (formB m)) ⟨same_new nD, [], upd_same, Nat.le_refl _, rfl⟩ (fun i H' _ ⟨s, _⟩ => Same.seqT s hr3) ?_ ?_
                · rintro i x H4 H5 hi ⟨s4, l, e1, ll, hE⟩ ⟨rfl, ex⟩
                  obtain ⟨d, ed, hx⟩ := vp_at hall ex
                  have hN := all_takeP (p := formB m) ed
                  refine ⟨rfl, _, rfl, _, rfl, x, d, m, rfl, vp_same s4 hx, okE ed, fun H6 s6 => ⟨_, rfl, ?_⟩⟩
                  have s46 := s4.trans s6
                  have e3 := s6 _ _ e1
                  have hi2 : i < (ys ++ zs).length := (List.getElem?_eq_some_iff.mp ex).1
                  rw [List.length_append] at hi2
                  cases hb2 : formB m d with
                  | false =>
                    refine iteT ?_
                    rw [hb2, Bool.and_false] at hN
                    refine ⟨_, rfl, _, e3, small1000 (by omega), fun b o e => ?_, l ++ [x], upd_same, by rw [List.length_append]; exact Nat.succ_le_succ ll, ?_⟩
                    · rw [upd_ne (ne_of_none e nD)]
                      exact s46 _ _ e
                    · rw [hN]
                      cases l <;> rfl
                  | true =>
                    refine iteF ?_
                    rw [hb2, Bool.and_true] at hN
                    exact ⟨s46, l, e3, by omega, by rw [hE, hN]⟩
                · rintro H4 ⟨s4, l, e1, ll, hE⟩
                  refine ⟨(show 0 ≤ 1000 by decide), fun T2 H5 n5 => ⟨D, T2, _, rfl, rfl, SqL.of (n5.2.2 _ _ e1), SqL.of n5.2.1, ?_⟩⟩
                  have ll2 : (ys ++ zs).length = (es ++ gs).length := vp_len hall
                  rw [ll2, List.take_length] at hE
                  rw [hE, ← hB]
                  exact k H5 (s12.trans (s3.trans (s4.trans n5.2.2)))
              · refine iteNE (fun e => h5 (by
                  have := V.int.inj e
                  omega)) ?_
                exact fin H2 s12 (by rw [eB, decide_eq_false (show ¬ lenD (.tuple gs) = m from h5)]; simp)
            | none => exact iteT (fin H2 s12 (by rw [eB, hp, hq]; simp [formsB]))
            | int x => exact iteT (fin H2 s12 (by rw [eB, hp, hq]; simp [formsB]))
            | bool x => exact iteT (fin H2 s12 (by rw [eB, hp, hq]; simp [formsB]))
            | str x => exact iteT (fin H2 s12 (by rw [eB, hp, hq]; simp [formsB]))
            | list x => exact iteT (fin H2 s12 (by rw [eB, hp, hq]; simp [formsB]))
            | dict x => exact iteT (fin H2 s12 (by rw [eB, hp, hq]; simp [formsB]))
          | none => exact iteT (fin H2 s12 (by rw [eB, hp, hq]; simp [formsB]))
          | int x => exact iteT (fin H2 s12 (by rw [eB, hp, hq]; simp [formsB]))
          | bool x => exact iteT (fin H2 s12 (by rw [eB, hp, hq]; simp [formsB]))
          | str x => exact iteT (fin H2 s12 (by rw [eB, hp, hq]; simp [formsB]))
          | list x => exact iteT (fin H2 s12 (by rw [eB, hp, hq]; simp [formsB]))
          | dict x => exact iteT (fin H2 s12 (by rw [eB, hp, hq]; simp [formsB]))
      · refine iteNE (fun e => h4 (by
          have := V.int.inj e
          omega)) ?_
        rw [Pg.brB_len h4] at k0
        exact k0
    | int i => exact iteT k0
    | bool b => exact iteT k0
    | none => exact iteT k0
    | list ds => exact iteT k0
    | str z => exact iteT k0
    | dict ds => exact iteT k0
/-! ### the first branch that is not right -/
def spWrongA (K : PySem.W.Frag) : Sp := fun vs H Q _ => ∃ (u v : V) (d : PyData) (m : Nat) (ss : List (Str × List Int)), vs = [u, v, .int m] ∧ m ≤ 990 ∧ Dp K H u (saysD ss) ∧ ss.length ≤ 3 ∧ Vp K H v d ∧ okD d = true ∧ ∀ l H', Same H H' → WrongAt H' l (wrongA m ss d) → Q (.ref l) H'
abbrev nWrongA : List Str := ["_law_says", "_law_value", "_law_size", "_law_at"]
theorem scWrongA : FnScope nWrongA ["_law_says", "_law_value", "_law_size"] (defScope sWrongA) := ⟨rfl, rfl, rfl, by decide +kernel, rfl, by decide +kernel, by decide +kernel⟩
theorem ok_wrongA {fW fT fO fA fS : Addr} {dW dT dO dA dS : FuncData} (F : FnP K "_law_wrong_arms" sWrongA f fd) (M0 : Mo mg) (R : RangeB mg) (UA : mg "abs" = none) (FT : FnP K "_law_is_tag" sTag fT dT) (gT : mg "_law_is_tag" = some (.ref fT)) (FO : FnP K "_law_is_form" sLform fO dO) (gO : mg "_law_is_form" = some (.ref fO))
    (FW : FnP K "_law_is_whole" sWhole fW dW) (gW : mg "_law_is_whole" = some (.ref fW)) (FA : FnP K "_law_is_arm" sArm fA dA) (gA : mg "_law_is_arm" = some (.ref fA)) (FS : FnP K "_law_spots" sSp fS dS) (gS : mg "_law_spots" = some (.ref fS)) : FnOk P w K mg base CX0 4 f fd ["_law_says", "_law_value", "_law_size"] (spWrongA K) := by
  have GA : FnOk P w K mg base CX0 3 fA dA ["_law_value", "_law_size"] (spV2m K brB) := ok_arm FA M0 UA FT gT FO gO FW gW
  have bA : Binds K dA ["_law_value", "_law_size"] [] := FA.bindsN fun _ _ _ _ _ _ us hl => match us, hl with | [_, _], _ => rfl
  have GS : FnOk P w K mg base CX0 1 fS dS ["_law_parts_here"] (spSp K) := Pg.ok_sp FS M0
  have bS : Binds K dS ["_law_parts_here"] [] := FS.bindsN fun _ _ _ _ _ _ us hl => match us, hl with | [_], _ => rfl
  refine F.ok scWrongA (fun vs H Q E h => ?_) (fun cdv A outer s H vs Q E hr h => ?_)
  · obtain ⟨u, v, d, m, ss, rfl, _⟩ := h
    rfl
  · obtain ⟨u, v, d, m, ss, rfl, hm, hu, l3, hv, ho, k⟩ := h
    have hr1 := hr.mono (show 1 ≤ 3 by decide)
    refine ⟨_, PSs.nox <| pss_cons (ps_if (PW.pt (pw_or (pt_not (pt_val (pe_callB (call_isV (T := "tuple")) (by rfl) M0.isi boot_isinstance (pa_cons (pv 1) (pa_cons (pe_bltn (v := .ty "tuple") (by rfl) M0.tuple (by decide +kernel) rfl) pa_nil))))) (pw_or1 (pt_cmpR (op_eqT hr.units) (pv 1) (pe_tupR pa_nil) (nomark _))))) (pss_one (ps_ret (pe_lstR (pa_cons pe_non pa_nil)))) pss_nil)
      <| pss_cons (ps_for PassesOwn.never rfl (pi_range1 (by rfl) R.range (pa_cons (pe_callB call_len (by rfl) M0.len PySem.boot_len (pa_cons (pv 1) pa_nil)) pa_nil)) (pg_name (i := 3) scWrongA.nd rfl (.inl rfl))
          (pss_one (ps_if (PW.pt (pw_or (pt_cmpR op_eq (pv 3) pe_int (nomark _)) (pw_or (pt_not (pt_val (pe_call GA hr (by rfl) gA FA.kp bA .nil pass0 (pa_cons (pe_ix (r := rIxT K) ix_tup (pv 1) (pv 3) (fun _ _ => rfl)) (pa_cons (pv 2) pa_nil)))))
              (pw_or1 (pt_cmpR op_gt (pe_callB call_len (by rfl) M0.len PySem.boot_len (pa_cons (pe_call GS hr1 (by rfl) gS FS.kp bS .nil pass0 (pa_cons (pe_lstR (pa_cons (pe_tupR pa_nil) (pa_cons (pv 0) (pa_cons (pe_slice (r := rSlTR K) sl_tupR (pv 1) po_none (po_some (pe_op op_add (pv 3) pe_int))) pa_nil)))) pa_nil)) pa_nil)) pe_int (nomark _))))))
            (pss_one (ps_ret (pe_lstR (pa_cons (pv 3) pa_nil)))) pss_nil)))
      <| pss_one (ps_ret (pe_lstR pa_nil)), ?_⟩
    have bad : wrongA m ss d = some none → ∀ l H', Same H H' → H' l = some (.lst [V.non]) → Q (.ref l) H' := fun e l H' s hl => k l H' s (by rw [e]; exact hl)
    refine ⟨_, rfl, v, d, _, rfl, hv, kit_tuple _, _, rfl, ?_⟩
    cases d with
    | tuple ds =>
      refine iteF ?_
      obtain ⟨a, xs, rfl, hs, hxs⟩ := vp_tup hv
      have lx := vp_len hxs
      obtain ⟨hl, hk⟩ := ok_tup ho
      refine ⟨_, rfl, (show 0 ≤ 1000 by decide), fun T1 H1 n1 => ⟨a, T1, xs, rfl, rfl, Same.seqT n1.2.2 hs, SqT.of n1.2.1, _, rfl, ?_⟩⟩
      have s1 := n1.2.2
      cases hE : xs.isEmpty with
      | true =>
        have e0 : ds = [] := by
          have : xs = [] := List.isEmpty_iff.mp hE
          rw [this] at lx
          exact List.length_eq_zero_iff.mp lx.symm
        subst e0
        exact iteT ⟨(show 1 ≤ 1000 by decide), fun l H2 n2 => bad rfl l H2 (s1.trans n2.2.2) n2.2.1⟩
      | false =>
        have hne : ds ≠ [] := fun e0 => by
          subst e0
          have : xs = [] := List.length_eq_zero_iff.mp lx
          rw [this] at hE
          cases hE
        refine iteF ?_
        refine ⟨_, rfl, _, _, rfl, .inr ⟨_, Same.seqT s1 hs, rfl⟩, ?_⟩
        refine ⟨_, rfl, by omega, by omega, for_range (lo := 0) (n := ((xs.length : Nat) : Int).toNat) (fun j σ H' => ∃ x3, σ = [some u, some (.ref a), some (.int m), x3] ∧ Same H H' ∧ ∀ i, i < j → badA m ss ds i = false) ⟨_, rfl, s1, fun i hi => absurd hi (Nat.not_lt_zero i)⟩ ?_ ?_⟩
        · rintro j σ H2 hj ⟨x3, rfl, s2, hall⟩
          have hj2 : j < xs.length := by omega
          obtain ⟨z, ez⟩ : ∃ z, xs[j]? = some z := ⟨_, List.getElem?_eq_getElem hj2⟩
          obtain ⟨dz, edz, hz⟩ := vp_at hxs ez
          have eg := getD_at edz
          have hjd : j < ds.length := by omega
          have hs2 := Same.seqT s2 hs
          have aj : atI xs (0 + (j : Int)) = some z := by rw [Int.zero_add]; exact atI_nat ez
          have j5 : j ≤ 5 := by
            rcases Nat.lt_or_ge 5 j with h | h
            · have := (Pg.badA_no (hall 5 h)).1
              omega
            · exact h
          have retb : badA m ss ds j = true → ∀ l H3, Same H2 H3 → H3 l = some (.lst [V.int (0 + (j : Int))]) → Q (.ref l) H3 := fun hb l H3 s3 hl => k l H3 (s2.trans s3) (by rw [wrongA_at hall hb hjd]; rw [Int.zero_add] at hl; exact hl)
          refine ⟨_, rfl, rfl, _, rfl, ?_⟩
          by_cases h3 : V.int (0 + (j : Int)) = V.int 5
          · refine iteDY h3 ?_
            refine ⟨_, rfl, (show 1 ≤ 1000 by decide), fun l H3 n3 => retb ?_ l H3 n3.2.2 n3.2.1⟩
            unfold badA
            rw [decide_eq_true (show 5 ≤ j by injection h3; omega)]
            rfl
          have h3' : j ≠ 5 := fun e => h3 (by rw [e]; rfl)
          refine iteDN h3 ?_
          have eb : badA m ss ds j = (!brB m dz || decide (3 < (firsts (standD ss (ds.take (j + 1)))).length)) := by
            unfold badA
            rw [eg, decide_eq_false (show ¬ 5 ≤ j by omega)]
            rfl
          refine ⟨_, rfl, _, rfl, a, _, _, _, rfl, rfl, hs2, aj, _, rfl, z, dz, m, rfl, hm, vp_same s2 hz, ok_at hk edz, fun H3 s3 => ⟨_, rfl, ?_⟩⟩
          have s23 := s2.trans s3
          cases hb : brB m dz with
          | false =>
            refine iteT ?_
            exact ⟨_, rfl, (show 1 ≤ 1000 by decide), fun l H4 n4 => retb (by rw [eb, hb]; rfl) l H4 (s3.trans n4.2.2) n4.2.1⟩
          | true =>
            refine iteF ?_
            rw [hb] at eb
            obtain ⟨as, eas, las, has⟩ := Pg.arms_ahead (ss := ss) (ds := ds) (j := j + 1) (fun i hi => by
              rcases Nat.lt_or_ge i j with h | h
              · exact (Pg.badA_no (hall i h)).2.1
              · have : i = j := by omega
                subst this
                rw [eg]
                exact hb) hjd
            rw [eas, Pg.stand_arms] at eb
            refine ⟨(show 0 ≤ 1000 by decide), fun T4 H4 n4 => ⟨_, rfl, _, rfl, _, rfl, _, _, rfl, rfl, _, rfl, a, _, rfl, Same.seqT (s23.trans n4.2.2) hs, fun p H5 s5 hp => ?_⟩⟩
            rw [show ((0 + (j : Int)) + 1) = ((j + 1 : Nat) : Int) by omega, cut_take (by omega)] at hp
            have s25 := s23.trans (n4.2.2.trans s5)
            refine ⟨(show 3 ≤ 1000 by decide), fun L6 H6 n6 => ?_⟩
            have s26 := s25.trans n6.2.2
            have hA : Dp K H6 (.ref p) (armsD as) := by
              refine Pg.dp_vp _ (Pg.nod_arms as) (.tup (Same.seqT n6.2.2 hp) ?_)
              rw [← eas]
              exact vp_take (j + 1) (vp_sameAll s26 hxs)
            refine ⟨L6, .ref T4, u, .ref p, ss, as, rfl, n6.2.1, dp_same s26 _ hu, hA, l3, by omega, fun q H7 s7 hq => ?_⟩
            refine ⟨_, _, rfl, .inr ⟨_, hq, rfl⟩, _, _, rfl, rfl, _, rfl, ?_⟩
            have s27 := s26.trans s7
            have s27b : Same H2 H7 := s3.trans (n4.2.2.trans (s5.trans (n6.2.2.trans s7)))
            by_cases h4 : (3 : Int) < (((placesS ss as).map V.str).length : Nat)
            · refine iteDY h4 ?_
              rw [List.length_map] at h4
              exact ⟨_, rfl, (show 1 ≤ 1000 by decide), fun l H8 n8 => retb (by rw [eb, show firsts (standS ss as) = placesS ss as from rfl, decide_eq_true (show 3 < (placesS ss as).length by omega)]; rfl) l H8 (s27b.trans n8.2.2) n8.2.1⟩
            · refine iteDN h4 ?_
              refine ⟨_, rfl, s27, fun i hi => ?_⟩
              rcases Nat.lt_or_ge i j with h | h
              · exact hall i h
              · have : i = j := by omega
                subst this
                rw [List.length_map] at h4
                rw [eb, show firsts (standS ss as) = placesS ss as from rfl, decide_eq_false (show ¬ 3 < (placesS ss as).length by omega)]
                rfl
        · rintro σ H2 ⟨x3, rfl, s2, hall⟩
          exact ⟨(show 0 ≤ 1000 by decide), fun l H3 n3 => k l H3 (s2.trans n3.2.2) (by rw [wrongA_no (fun i hi => hall i (by omega)) hne]; exact n3.2.1)⟩
    | int i => exact iteT ⟨(show 1 ≤ 1000 by decide), fun l H2 n2 => bad rfl l H2 n2.2.2 n2.2.1⟩
    | none => exact iteT ⟨(show 1 ≤ 1000 by decide), fun l H2 n2 => bad rfl l H2 n2.2.2 n2.2.1⟩
    | bool b => exact iteT ⟨(show 1 ≤ 1000 by decide), fun l H2 n2 => bad rfl l H2 n2.2.2 n2.2.1⟩
    | str z => exact iteT ⟨(show 1 ≤ 1000 by decide), fun l H2 n2 => bad rfl l H2 n2.2.2 n2.2.1⟩
    | list ds => exact iteT ⟨(show 1 ≤ 1000 by decide), fun l H2 n2 => bad rfl l H2 n2.2.2 n2.2.1⟩
    | dict ds => exact iteT ⟨(show 1 ≤ 1000 by decide), fun l H2 n2 => bad rfl l H2 n2.2.2 n2.2.1⟩
end
end K5
set_option Elab.async false
set_option linter.all false
set_option maxRecDepth 100000
set_option maxHeartbeats 8000000
namespace K5
open PySem PySem.Spec PyProof.Rows L2 Gd Rl Vd
open Pg (top FnP Mo letS figS nameS nameB okD spV1 spV2 intB numB formB sayB badS wrongS idV wrongS_at wrongS_no getD_at iteDN iteDY ok_tup ok_at sayD iteNE)
abbrev sWrongS : Stmt := top 57
section
variable {P : Program} {w : World} {K : PySem.W.Frag} {mg : Str → Option Value} {base : Heap} {f : Addr} {fd : FuncData}
/-! ### the first saying that is not right -/
def spWrongS (K : PySem.W.Frag) : Sp := fun vs H Q _ => ∃ (v : V) (d : PyData) (m : Nat), vs = [v, .int m] ∧ Vp K H v d ∧ okD d = true ∧ ∀ l H', Same H H' → WrongAt H' l (wrongS m d) → Q (.ref l) H'
abbrev nWrongS : List Str := ["_law_value", "_law_size", "_law_at", "_law_each"]
theorem scWrongS : FnScope nWrongS ["_law_value", "_law_size"] (defScope sWrongS) := ⟨rfl, rfl, rfl, by decide +kernel, rfl, by decide +kernel, by decide +kernel⟩
theorem ok_wrongS {fW fT fO : Addr} {dW dT dO : FuncData} (F : FnP K "_law_wrong_says" sWrongS f fd) (M0 : Mo mg) (R : RangeB mg) (UA : mg "abs" = none) (FT : FnP K "_law_is_tag" sTag fT dT) (gT : mg "_law_is_tag" = some (.ref fT)) (FO : FnP K "_law_is_form" sLform fO dO) (gO : mg "_law_is_form" = some (.ref fO))
    (FW : FnP K "_law_is_whole" sWhole fW dW) (gW : mg "_law_is_whole" = some (.ref fW)) : FnOk P w K mg base CX0 3 f fd ["_law_value", "_law_size"] (spWrongS K) := by
  have GT : FnOk P w K mg base CX0 1 fT dT ["_law_value"] (spV1 K nameB) := ok_tag FT M0
  have bT : Binds K dT ["_law_value"] [] := FT.bindsN fun _ _ _ _ _ _ us hl => match us, hl with | [_], _ => rfl
  have GO : FnOk P w K mg base CX0 2 fO dO ["_law_value", "_law_size"] (spV2 K formB) := ok_lform FO M0 UA FW gW
  have bO : Binds K dO ["_law_value", "_law_size"] [] := FO.bindsN fun _ _ _ _ _ _ us hl => match us, hl with | [_, _], _ => rfl
  refine F.ok scWrongS (fun vs H Q E h => ?_) (fun cdv A outer s H vs Q E hr h => ?_)
  · obtain ⟨v, d, m, rfl, _⟩ := h
    rfl
  · obtain ⟨v, d, m, rfl, hv, ho, k⟩ := h
    have hr1 := hr.mono (show 1 ≤ 2 by decide)
    refine ⟨_, PSs.nox <| pss_cons (ps_if (pt_not (pt_val (pe_callB (call_isV (T := "tuple")) (by rfl) M0.isi boot_isinstance (pa_cons (pv 0) (pa_cons (pe_bltn (v := .ty "tuple") (by rfl) M0.tuple (by decide +kernel) rfl) pa_nil))))) (pss_one (ps_ret (pe_lstR (pa_cons pe_non pa_nil)))) pss_nil)
      <| pss_cons (ps_for PassesOwn.never rfl (pi_range1 (by rfl) R.range (pa_cons (pe_callB call_len (by rfl) M0.len PySem.boot_len (pa_cons (pv 0) pa_nil)) pa_nil)) (pg_name (i := 2) scWrongS.nd rfl (.inl rfl))
          (pss_cons (ps_set (i := 3) scWrongS.nd rfl (.inl rfl) (pe_ix (r := rIxT K) ix_tup (pv 0) (pv 2) (fun _ _ => rfl)))
          <| pss_cons (ps_if (PW.pt (pw_or (pt_cmpR op_eq (pv 2) pe_int (nomark _)) (pw_or (pt_not (pt_val (pe_callB (call_isV (T := "tuple")) (by rfl) M0.isi boot_isinstance (pa_cons (pv 3) (pa_cons (pe_bltn (v := .ty "tuple") (by rfl) M0.tuple (by decide +kernel) rfl) pa_nil)))))
              (pw_or (pt_cmpR op_ne (pe_callB call_len (by rfl) M0.len PySem.boot_len (pa_cons (pv 3) pa_nil)) pe_int (nomark _)) (pw_or1 (pt_not (pt_val (pe_call GT hr1 (by rfl) gT FT.kp bT .nil pass0 (pa_cons (pe_ix (r := rIxT K) ix_tup (pv 3) pe_int (fun _ _ => rfl)) pa_nil))))))))) (pss_one (ps_ret (pe_lstR (pa_cons (pv 2) pa_nil)))) pss_nil)
          <| pss_one (ps_if (pt_not (pt_val (pe_call GO hr (by rfl) gO FO.kp bO .nil pass0 (pa_cons (pe_ix (r := rIxT K) ix_tup (pv 3) pe_int (fun _ _ => rfl)) (pa_cons (pv 1) pa_nil))))) (pss_one (ps_ret (pe_lstR (pa_cons (pv 2) pa_nil)))) pss_nil)))
      <| pss_one (ps_ret (pe_lstR pa_nil)), ?_⟩
    have bad : wrongS m d = some none → ∀ l H', Same H H' → H' l = some (.lst [V.non]) → Q (.ref l) H' := fun e l H' s hl => k l H' s (by rw [e]; exact hl)
    refine ⟨_, rfl, v, d, _, rfl, hv, kit_tuple _, _, rfl, ?_⟩
    cases d with
    | tuple ds =>
      refine iteF ?_
      obtain ⟨a, xs, rfl, hs, hxs⟩ := vp_tup hv
      have lx := vp_len hxs
      obtain ⟨hl, hk⟩ := ok_tup ho
      refine ⟨_, rfl, _, _, rfl, .inr ⟨_, hs, rfl⟩, ?_⟩
      refine ⟨_, rfl, by omega, by omega, for_range (lo := 0) (n := ((xs.length : Nat) : Int).toNat) (fun j σ H' => ∃ x2 x3, σ = [some (.ref a), some (.int m), x2, x3] ∧ Same H H' ∧ ∀ i, i < j → badS m ds i = false) ⟨_, _, rfl, Same.refl H, fun i hi => absurd hi (Nat.not_lt_zero i)⟩ ?_ ?_⟩
      · rintro j σ H2 hj ⟨x2, x3, rfl, s2, hall⟩
        have hj2 : j < xs.length := by omega
        obtain ⟨z, ez⟩ : ∃ z, xs[j]? = some z := ⟨_, List.getElem?_eq_getElem hj2⟩
        obtain ⟨dz, edz, hz⟩ := vp_at hxs ez
        have eg := getD_at edz
        have hjd : j < ds.length := by omega
        have hs2 := Same.seqT s2 hs
        have aj : atI xs (0 + (j : Int)) = some z := by rw [Int.zero_add]; exact atI_nat ez
        have j3 : j ≤ 3 := by
          rcases Nat.lt_or_ge 3 j with h | h
          · have := (Pg.badS_no (hall 3 h)).1
            omega
          · exact h
        have retb : badS m ds j = true → ∀ l H3, Same H2 H3 → H3 l = some (.lst [V.int (0 + (j : Int))]) → Q (.ref l) H3 := fun hb l H3 s3 hl => k l H3 (s2.trans s3) (by rw [wrongS_at hall hb hjd]; rw [Int.zero_add] at hl; exact hl)
        refine ⟨_, rfl, _, rfl, a, _, _, _, rfl, rfl, hs2, aj, ?_⟩
        refine ⟨_, rfl, rfl, _, rfl, ?_⟩
        by_cases h3 : V.int (0 + (j : Int)) = V.int 3
        · refine iteDY h3 ?_
          refine ⟨_, rfl, (show 1 ≤ 1000 by decide), fun l H3 n3 => retb ?_ l H3 n3.2.2 n3.2.1⟩
          unfold badS
          rw [decide_eq_true (show 3 ≤ j by injection h3; omega)]
          rfl
        have h3' : j ≠ 3 := fun e => h3 (by rw [e]; rfl)
        refine iteDN h3 ?_
        have eb : badS m ds j = !sayB m dz := by
          unfold badS
          rw [eg, decide_eq_false (show ¬ 3 ≤ j by omega)]
          rfl
        have hz2 := vp_same s2 hz
        have oz := ok_at hk edz
        have no : ∀ H3 : Hp, Same H2 H3 → sayB m dz = false → ∀ l H4, Same H3 H4 → H4 l = some (.lst [V.int (0 + (j : Int))]) → Q (.ref l) H4 := fun H3 s3 hb l H4 s4 hl => retb (by rw [eb, hb]; rfl) l H4 (s3.trans s4) hl
        refine ⟨_, rfl, z, dz, _, rfl, hz2, kit_tuple _, _, rfl, ?_⟩
        cases dz with
        | tuple es =>
          refine iteF ?_
          obtain ⟨b, ys, rfl, hsy, hys⟩ := vp_tup hz2
          have ly := vp_len hys
          obtain ⟨_, hky⟩ := ok_tup oz
          refine ⟨_, rfl, _, _, rfl, .inr ⟨_, hsy, rfl⟩, rfl, _, rfl, ?_⟩
          by_cases h2 : es.length = 2
          · refine iteNS (by rw [ly, h2]; rfl) ?_
            match es, h2, hys, hky, eb, no with
            | [pn, g], _, hys, hky, eb, no =>
              cases hys with
              | @cons v0 _ _ _ a0 hys =>
              cases hys with
              | @cons v1 _ _ _ a1 hys =>
              cases hys
              have k1 : okD pn = true := ok_at hky (i := 0) rfl
              have k2 : okD g = true := ok_at hky (i := 1) rfl
              have eB : sayB m (.tuple [pn, g]) = (nameB pn && formB m g) := rfl
              refine ⟨_, rfl, b, _, 0, v0, rfl, rfl, hsy, rfl, v0, pn, rfl, a0, k1, fun H3 s3 => ⟨_, rfl, ?_⟩⟩
              cases hn : nameB pn with
              | false =>
                rw [hn, Bool.false_and] at eB
                refine iteT ?_
                exact ⟨_, rfl, (show 1 ≤ 1000 by decide), fun l H4 n4 => no _ s3 eB l H4 n4.2.2 n4.2.1⟩
              | true =>
                rw [hn, Bool.true_and] at eB
                refine iteF ?_
                refine ⟨_, rfl, b, _, 1, v1, rfl, rfl, Same.seqT s3 hsy, rfl, _, rfl, v1, g, m, rfl, vp_same s3 a1, k2, fun H4 s4 => ⟨_, rfl, ?_⟩⟩
                cases hg : formB m g with
                | false =>
                  rw [hg] at eB
                  refine iteT ?_
                  exact ⟨_, rfl, (show 1 ≤ 1000 by decide), fun l H5 n5 => no _ (s3.trans s4) eB l H5 n5.2.2 n5.2.1⟩
                | true =>
                  rw [hg] at eB
                  refine iteF ?_
                  refine ⟨_, _, rfl, s2.trans (s3.trans s4), fun i hi => ?_⟩
                  rcases Nat.lt_or_ge i j with h | h
                  · exact hall i h
                  · have : i = j := by omega
                    subst this
                    rw [eb, eB]
                    rfl
          · refine iteNE (fun e => h2 (by
              have := V.int.inj e
              omega)) ?_
            exact ⟨_, rfl, (show 1 ≤ 1000 by decide), fun l H4 n4 => no _ (Same.refl _) (Pg.sayB_len h2) l H4 n4.2.2 n4.2.1⟩
        | int i => exact iteT ⟨_, rfl, (show 1 ≤ 1000 by decide), fun l H4 n4 => no _ (Same.refl _) rfl l H4 n4.2.2 n4.2.1⟩
        | none => exact iteT ⟨_, rfl, (show 1 ≤ 1000 by decide), fun l H4 n4 => no _ (Same.refl _) rfl l H4 n4.2.2 n4.2.1⟩
        | bool i => exact iteT ⟨_, rfl, (show 1 ≤ 1000 by decide), fun l H4 n4 => no _ (Same.refl _) rfl l H4 n4.2.2 n4.2.1⟩
        | str i => exact iteT ⟨_, rfl, (show 1 ≤ 1000 by decide), fun l H4 n4 => no _ (Same.refl _) rfl l H4 n4.2.2 n4.2.1⟩
        | list i => exact iteT ⟨_, rfl, (show 1 ≤ 1000 by decide), fun l H4 n4 => no _ (Same.refl _) rfl l H4 n4.2.2 n4.2.1⟩
        | dict i => exact iteT ⟨_, rfl, (show 1 ≤ 1000 by decide), fun l H4 n4 => no _ (Same.refl _) rfl l H4 n4.2.2 n4.2.1⟩
      · rintro σ H2 ⟨x2, x3, rfl, s2, hall⟩
        exact ⟨(show 0 ≤ 1000 by decide), fun l H3 n3 => k l H3 (s2.trans n3.2.2) (by rw [wrongS_no fun i hi => hall i (by omega)]; exact n3.2.1)⟩
    | int i => exact iteT ⟨(show 1 ≤ 1000 by decide), fun l H2 n2 => bad rfl l H2 n2.2.2 n2.2.1⟩
    | none => exact iteT ⟨(show 1 ≤ 1000 by decide), fun l H2 n2 => bad rfl l H2 n2.2.2 n2.2.1⟩
    | bool b => exact iteT ⟨(show 1 ≤ 1000 by decide), fun l H2 n2 => bad rfl l H2 n2.2.2 n2.2.1⟩
    | str z => exact iteT ⟨(show 1 ≤ 1000 by decide), fun l H2 n2 => bad rfl l H2 n2.2.2 n2.2.1⟩
    | list ds => exact iteT ⟨(show 1 ≤ 1000 by decide), fun l H2 n2 => bad rfl l H2 n2.2.2 n2.2.1⟩
    | dict ds => exact iteT ⟨(show 1 ≤ 1000 by decide), fun l H2 n2 => bad rfl l H2 n2.2.2 n2.2.1⟩
end
end K5
set_option Elab.async false
set_option linter.all false
set_option maxRecDepth 100000
set_option maxHeartbeats 8000000
namespace K5
open PySem PySem.Spec PyProof.Rows L2 Gd Rl Vd
open Pg (top FnP Mo letS figS nameS nameB Sml badN wrongN idV wrong_at wrong_no getD_at name_is names_ahead vp_strs any_same iteDN iteDY flat_strs inV_strs cut_take rSlTR sl_tupR okD ok_tup ok_at spV1)
abbrev sWrongN : Stmt := top 56
section
variable {P : Program} {w : World} {K : PySem.W.Frag} {mg : Str → Option Value} {base : Heap} {f : Addr} {fd : FuncData}
/-! ### the first name that is not right -/
def spWrongN (K : PySem.W.Frag) : Sp := fun vs H Q _ => ∃ (v : V) (d : PyData), vs = [v] ∧ Vp K H v d ∧ okD d = true ∧ ∀ l H', Same H H' → WrongAt H' l (wrongN d) → Q (.ref l) H'
abbrev nWrongN : List Str := ["_law_value", "_law_at"]
theorem scWrongN : FnScope nWrongN ["_law_value"] (defScope sWrongN) := ⟨rfl, rfl, rfl, by decide +kernel, rfl, by decide +kernel, by decide +kernel⟩
theorem ok_wrongN {fW : Addr} {dW : FuncData} (F : FnP K "_law_wrong_tags" sWrongN f fd) (M0 : Mo mg) (R : RangeB mg) (FW : FnP K "_law_is_tag" sTag fW dW) (gW : mg "_law_is_tag" = some (.ref fW)) : FnOk P w K mg base CX0 2 f fd ["_law_value"] (spWrongN K) := by
  have GW : FnOk P w K mg base CX0 1 fW dW ["_law_value"] (spV1 K nameB) := ok_tag FW M0
  have bW : Binds K dW ["_law_value"] [] := FW.bindsN fun _ _ _ _ _ _ us hl => match us, hl with | [_], _ => rfl
  refine F.ok scWrongN (fun vs H Q E h => ?_) (fun cdv A outer s H vs Q E hr h => ?_)
  · obtain ⟨v, d, rfl, _⟩ := h
    rfl
  · obtain ⟨v, d, rfl, hv, ho, k⟩ := h
    refine ⟨_, PSs.nox <| pss_cons (ps_if (PW.pt (pw_or (pt_not (pt_val (pe_callB (call_isV (T := "tuple")) (by rfl) M0.isi boot_isinstance (pa_cons (pv 0) (pa_cons (pe_bltn (v := .ty "tuple") (by rfl) M0.tuple (by decide +kernel) rfl) pa_nil))))) (pw_or1 (pt_cmpR (op_eqT hr.units) (pv 0) (pe_tupR pa_nil) (nomark _))))) (pss_one (ps_ret (pe_lstR (pa_cons pe_non pa_nil)))) pss_nil)
      <| pss_cons (ps_for PassesOwn.never rfl (pi_range1 (by rfl) R.range (pa_cons (pe_callB call_len (by rfl) M0.len PySem.boot_len (pa_cons (pv 0) pa_nil)) pa_nil)) (pg_name (i := 1) scWrongN.nd rfl (.inl rfl))
          (pss_one (ps_if (PW.pt (pw_or (pt_cmpR op_eq (pv 1) pe_int (nomark _)) (pw_or (pt_not (pt_val (pe_call GW hr (by rfl) gW FW.kp bW .nil pass0 (pa_cons (pe_ix (r := rIxT K) ix_tup (pv 0) (pv 1) (fun _ _ => rfl)) pa_nil))))
              (pw_or1 (pt_cmpR op_in_seq (pe_ix (r := rIxT K) ix_tup (pv 0) (pv 1) (fun _ _ => rfl)) (pe_slice (r := rSlTR K) sl_tupR (pv 0) po_none (po_some (pv 1))) (by rfl))))))
            (pss_one (ps_ret (pe_lstR (pa_cons (pv 1) pa_nil)))) pss_nil)))
      <| pss_one (ps_ret (pe_lstR pa_nil)), ?_⟩
    have bad : wrongN d = some none → ∀ l H', Same H H' → H' l = some (.lst [V.non]) → Q (.ref l) H' := fun e l H' s hl => k l H' s (by rw [e]; exact hl)
    refine ⟨_, rfl, v, d, _, rfl, hv, kit_tuple _, _, rfl, ?_⟩
    cases d with
    | tuple ds =>
      refine iteF ?_
      obtain ⟨a, xs, rfl, hs, hxs⟩ := vp_tup hv
      have lx := vp_len hxs
      obtain ⟨fl, hk⟩ := ok_tup ho
      refine ⟨_, rfl, (show 0 ≤ 1000 by decide), fun T1 H1 n1 => ⟨a, T1, xs, rfl, rfl, Same.seqT n1.2.2 hs, SqT.of n1.2.1, _, rfl, ?_⟩⟩
      have s1 := n1.2.2
      cases hE : xs.isEmpty with
      | true =>
        have e0 : ds = [] := by
          have : xs = [] := List.isEmpty_iff.mp hE
          rw [this] at lx
          exact List.length_eq_zero_iff.mp lx.symm
        subst e0
        exact iteT ⟨(show 1 ≤ 1000 by decide), fun l H2 n2 => bad rfl l H2 (s1.trans n2.2.2) n2.2.1⟩
      | false =>
        have hne : ds ≠ [] := fun e0 => by
          subst e0
          have : xs = [] := List.length_eq_zero_iff.mp lx
          rw [this] at hE
          cases hE
        refine iteF ?_
        refine ⟨_, rfl, _, _, rfl, .inr ⟨_, Same.seqT s1 hs, rfl⟩, ?_⟩
        refine ⟨_, rfl, by omega, by omega, for_range (lo := 0) (n := ((xs.length : Nat) : Int).toNat) (fun j σ H' => ∃ x1, σ = [some (.ref a), x1] ∧ Same H H' ∧ ∀ i, i < j → badN ds i = false) ⟨_, rfl, s1, fun i hi => absurd hi (Nat.not_lt_zero i)⟩ ?_ ?_⟩
        · rintro j σ H2 hj ⟨x1, rfl, s2, hall⟩
          have hj2 : j < xs.length := by omega
          obtain ⟨z, ez⟩ : ∃ z, xs[j]? = some z := ⟨_, List.getElem?_eq_getElem hj2⟩
          obtain ⟨dz, edz, hz⟩ := vp_at hxs ez
          have eg := getD_at edz
          have hjd : j < ds.length := by omega
          have hs2 := Same.seqT s2 hs
          have aj : atI xs (0 + (j : Int)) = some z := by rw [Int.zero_add]; exact atI_nat ez
          have j3 : j ≤ 3 := by
            rcases Nat.lt_or_ge 3 j with h | h
            · have := (Pg.bad_no (hall 3 h)).1
              omega
            · exact h
          have retb : badN ds j = true → ∀ l H3, Same H2 H3 → H3 l = some (.lst [V.int (0 + (j : Int))]) → Q (.ref l) H3 := fun hb l H3 s3 hl => k l H3 (s2.trans s3) (by rw [wrong_at hall hb hjd]; rw [Int.zero_add] at hl; exact hl)
          refine ⟨_, rfl, rfl, _, rfl, ?_⟩
          by_cases h3 : V.int (0 + (j : Int)) = V.int 3
          · refine iteDY h3 ?_
            refine ⟨_, rfl, (show 1 ≤ 1000 by decide), fun l H3 n3 => retb ?_ l H3 n3.2.2 n3.2.1⟩
            unfold badN
            rw [decide_eq_true (show 3 ≤ j by injection h3; omega)]
            rfl
          have h3' : j ≠ 3 := fun e => h3 (by rw [e]; rfl)
          refine iteDN h3 ?_
          refine ⟨_, rfl, _, rfl, a, _, _, _, rfl, rfl, hs2, aj, z, dz, rfl, vp_same s2 hz, ok_at hk edz, fun H3 s3 => ⟨_, rfl, ?_⟩⟩
          have s23 := s2.trans s3
          cases hb : nameB dz with
          | false =>
            refine iteT ?_
            refine ⟨_, rfl, (show 1 ≤ 1000 by decide), fun l H4 n4 => retb ?_ l H4 (s3.trans n4.2.2) n4.2.1⟩
            unfold badN
            rw [eg, hb]
            simp
          | true =>
            refine iteF ?_
            obtain ⟨nm, rfl, hnm⟩ := name_is hb
            cases hz
            obtain ⟨ns, en, ln, hns⟩ := names_ahead hall (Nat.le_of_lt hjd)
            have hx := vp_take j hxs
            rw [en] at hx
            have ex := vp_strs hx
            have hs3 := Same.seqT s23 hs
            refine ⟨_, rfl, _, rfl, a, _, _, _, rfl, rfl, hs3, aj, _, rfl, _, rfl, _, rfl, a, _, rfl, hs3, fun p H4 s4 hp => ?_⟩
            rw [Int.zero_add, cut_take (by omega), ex] at hp
            refine ⟨p, _, rfl, .inr hp, rfl, flat_strs _, _, rfl, ?_⟩
            rw [if_neg Bool.false_ne_true, inV_strs]
            have eb : badN ds j = ns.contains nm := by
              unfold badN
              rw [eg, en, any_same, hb, decide_eq_false (by omega)]
              rfl
            cases hc : ns.contains nm with
            | true => exact iteT ⟨_, rfl, (show 1 ≤ 1000 by decide), fun l H5 n5 => retb (by rw [eb, hc]) l H5 (s3.trans (s4.trans n5.2.2)) n5.2.1⟩
            | false =>
              refine iteF ?_
              refine ⟨_, rfl, s23.trans s4, fun i hi => ?_⟩
              rcases Nat.lt_or_ge i j with h | h
              · exact hall i h
              · have : i = j := by omega
                subst this
                rw [eb, hc]
        · rintro σ H2 ⟨x1, rfl, s2, hall⟩
          exact ⟨(show 0 ≤ 1000 by decide), fun l H3 n3 => k l H3 (s2.trans n3.2.2) (by rw [wrong_no (fun i hi => hall i (by omega)) hne]; exact n3.2.1)⟩
    | int i => exact iteT ⟨(show 1 ≤ 1000 by decide), fun l H2 n2 => bad rfl l H2 n2.2.2 n2.2.1⟩
    | none => exact iteT ⟨(show 1 ≤ 1000 by decide), fun l H2 n2 => bad rfl l H2 n2.2.2 n2.2.1⟩
    | bool b => exact iteT ⟨(show 1 ≤ 1000 by decide), fun l H2 n2 => bad rfl l H2 n2.2.2 n2.2.1⟩
    | str z => exact iteT ⟨(show 1 ≤ 1000 by decide), fun l H2 n2 => bad rfl l H2 n2.2.2 n2.2.1⟩
    | list ds => exact iteT ⟨(show 1 ≤ 1000 by decide), fun l H2 n2 => bad rfl l H2 n2.2.2 n2.2.1⟩
    | dict ds => exact iteT ⟨(show 1 ≤ 1000 by decide), fun l H2 n2 => bad rfl l H2 n2.2.2 n2.2.1⟩
end
end K5
set_option Elab.async false
set_option linter.all false
set_option maxRecDepth 100000
set_option maxHeartbeats 8000000
namespace Pg
open PySem PySem.Spec PyProof.Rows L2 Gd Rl Te Nu TL
/-! ### the law's reading of a text: words first, numbers last -/
noncomputable def figV (w : Str) : PyData := if nuB w = true then .int (numV w) else .none
noncomputable def figsD (ws : List Str) : PyData := .tuple (ws.map figV)
def turnsW (X : List Str) : List (List Str) := (Txt.split (Txt.join " " X) "; ").map fun p => Txt.split p " "
structure RArm where
  src : Str
  tgt : Str
  tests : List (List Str)
  turn : Option (List Str)
structure Rm where
  says : List (Str × List Str)
  arms : List RArm
def endedB (as : List RArm) : Bool := match as.getLast? with
  | none => true
  | some a => a.turn.isSome
def setLast (as : List RArm) (f : RArm → RArm) : List RArm := match as.getLast? with
  | none => as
  | some a => as.dropLast ++ [f a]
def stepW (m : Rm) (ws : List Str) : Option Rm :=
  if V.str (ws.headD "") = V.str "say" ∧ m.arms = [] ∧ 1 < ws.length then some ⟨m.says ++ [(ws.getD 1 "", ws.drop 2)], m.arms⟩
  else if V.str (ws.headD "") = V.str "branch" ∧ endedB m.arms = true ∧ ws.length = 3 then some ⟨m.says, m.arms ++ [⟨ws.getD 1 "", ws.getD 2 "", [], none⟩]⟩
  else if V.str (ws.headD "") = V.str "test" ∧ endedB m.arms = false then some ⟨m.says, setLast m.arms fun a => { a with tests := a.tests ++ [ws.drop 1] }⟩
  else if V.str (ws.headD "") = V.str "then" ∧ endedB m.arms = false then some ⟨m.says, setLast m.arms fun a => { a with turn := some (ws.drop 1) }⟩
  else none
noncomputable def sayW (s : Str × List Str) : PyData := .tuple [.str s.1, figsD s.2]
noncomputable def turnD : Option (List Str) → PyData
  | none => .tuple []
  | some X => .tuple ((turnsW X).map figsD)
noncomputable def armW (a : RArm) : PyData := .tuple [.str a.src, .str a.tgt, .tuple (a.tests.map figsD), turnD a.turn]
/-! ### the lines again -/
def lineSW (s : Str × List Str) : Str := Txt.join " " ("say" :: s.1 :: s.2)
def linesAW (a : RArm) : List Str := Txt.join " " ["branch", a.src, a.tgt] :: (a.tests.map fun ws => Txt.join " " ("test" :: ws)) ++ (match a.turn with
  | none => []
  | some X => [Txt.join " " ("then" :: X)])
def render (m : Rm) : List Str := m.says.map lineSW ++ (m.arms.map linesAW).flatten
theorem ended_some {as : List RArm} (h : endedB as = false) : ∃ bs a, as = bs ++ [a] ∧ a.turn = none := by
  unfold endedB at h
  cases e : as.getLast? with
  | none =>
    rw [e] at h
    cases h
  | some a =>
    rw [e] at h
    obtain ⟨bs, rfl⟩ := List.getLast?_eq_some_iff.mp e
    refine ⟨bs, a, rfl, ?_⟩
    cases q : a.turn with
    | none => rfl
    | some X =>
      replace h : a.turn.isSome = false := h
      rw [q] at h
      cases h
theorem setLast_app (bs : List RArm) (a : RArm) (f : RArm → RArm) : setLast (bs ++ [a]) f = bs ++ [f a] := by
  unfold setLast
  rw [List.getLast?_concat, List.dropLast_concat]
theorem words_back {ws : List Str} {w0 : Str} (hne : ws ≠ []) (h : V.str (ws.headD "") = V.str w0) : ws = w0 :: ws.drop 1 := by
  cases ws with
  | nil => exact absurd rfl hne
  | cons a r =>
    have : a = w0 := V.str.inj h
    rw [this]
    rfl
theorem step_render {m m' : Rm} {ws : List Str} (hne : ws ≠ []) (h : stepW m ws = some m') : render m' = render m ++ [Txt.join " " ws] := by
  unfold stepW at h
  split at h
  · rename_i c
    obtain ⟨c1, c2, c3⟩ := c
    cases h
    have e := words_back hne c1
    match ws, e, c3 with
    | [a], _, c3 => simp at c3
    | a :: b :: r, e, _ =>
      have ea : a = "say" := by cases e; rfl
      subst ea
      unfold render
      rw [c2]
      simp [lineSW]
  · split at h
    · rename_i c
      obtain ⟨c1, c2, c3⟩ := c
      cases h
      have e := words_back hne c1
      match ws, e, c3 with
      | [a, b, d], e, _ =>
        have ea : a = "branch" := by cases e; rfl
        subst ea
        unfold render
        simp [linesAW]
    · split at h
      · rename_i c
        obtain ⟨c1, c2⟩ := c
        cases h
        have e := words_back hne c1
        obtain ⟨bs, a, ea, et⟩ := ended_some c2
        unfold render
        rw [ea, setLast_app]
        rw [e]
        simp [linesAW, et]
      · split at h
        · rename_i c
          obtain ⟨c1, c2⟩ := c
          cases h
          have e := words_back hne c1
          obtain ⟨bs, a, ea, et⟩ := ended_some c2
          unfold render
          rw [ea, setLast_app]
          rw [e]
          simp [linesAW, et]
        · cases h
def foldW (ls : List Str) : Option Rm := ls.foldl (fun o l => o.bind fun m => stepW m (Txt.split l " ")) (some ⟨[], []⟩)
theorem foldW_snoc (ls : List Str) (l : Str) : foldW (ls ++ [l]) = (foldW ls).bind fun m => stepW m (Txt.split l " ") := by
  unfold foldW
  rw [List.foldl_append]
  rfl
theorem y1 : tl (" " : Str) ≠ [] := by decide +kernel
theorem y2 : (" " : Str).cps.all (· < 256) = true := by decide +kernel
theorem y3 : tl ("; " : Str) ≠ [] := by decide +kernel
theorem y4 : ("; " : Str).cps.all (· < 256) = true := by decide +kernel
theorem join_split (x y : Str) : Txt.join y (Txt.split x y) = x := (join_eq _ _).trans (StrLaws.join_split x y)
theorem bind_none : ∀ (ls : List Str), ls.foldl (fun o l => o.bind fun m => stepW m (Txt.split l " ")) (none : Option Rm) = none
  | [] => rfl
  | _ :: ls => bind_none ls
theorem fold_render_go : ∀ (ls : List Str) (m0 m : Rm), ls.foldl (fun o l => o.bind fun m => stepW m (Txt.split l " ")) (some m0) = some m → render m = render m0 ++ ls
  | [], m0, m, h => by
    cases h
    rw [List.append_nil]
  | l :: ls, m0, m, h => by
    rw [List.foldl_cons] at h
    cases e : stepW m0 (Txt.split l " ") with
    | none =>
      rw [show (some m0).bind (fun m => stepW m (Txt.split l " ")) = none from e, bind_none] at h
      cases h
    | some m1 =>
      rw [show (some m0).bind (fun m => stepW m (Txt.split l " ")) = some m1 from e] at h
      rw [fold_render_go ls m1 m h, step_render (split_ne y1 y2) e, join_split, List.append_assoc]
      rfl
theorem fold_render {ls : List Str} {m : Rm} (h : foldW ls = some m) : render m = ls := fold_render_go ls _ m h
/-! ### numbers -/
theorem fig_int {w : Str} {i : Int} (h : figV w = .int i) : w = numS i := by
  unfold figV at h
  split at h
  · rename_i c
    have e : w = numS (numV w) := by
      unfold numV
      rw [dif_pos (nu_num c)]
      exact (nu_num c).choose_spec
    rw [e, PyData.int.inj h]
  · cases h
theorem fig_num {i : Int} (hi : -1000000 ≤ i ∧ i ≤ 1000000) : figV (numS i) = .int i := by
  unfold figV
  rw [if_pos (nu_right hi), numV_right hi]
theorem figs_ints : ∀ {ws : List Str} {f : List Int}, ws.map figV = f.map PyData.int → ws = f.map numS
  | [], [], _ => rfl
  | [], _ :: _, h => by cases h
  | _ :: _, [], h => by cases h
  | w :: ws, i :: f, h => by
    rw [List.map_cons, List.map_cons] at h
    obtain ⟨h1, h2⟩ := List.cons.inj h
    rw [List.map_cons, fig_int h1, figs_ints h2]
theorem figs_f {ws : List Str} {f : List Int} (h : figsD ws = fD f) : ws = f.map numS := figs_ints (PyData.tuple.inj h)
theorem figs_nums {f : List Int} (ok : OkF f) : figsD (f.map numS) = fD f := by
  unfold figsD fD
  rw [List.map_map]
  congr 1
  exact List.map_congr_left fun i hi => fig_num (ok.nums i hi)
theorem forms_map : ∀ {tss : List (List Str)} {fs : List (List Int)}, tss.map figsD = fs.map fD → tss = fs.map fun f => f.map numS
  | [], [], _ => rfl
  | [], _ :: _, h => by cases h
  | _ :: _, [], h => by cases h
  | a :: xs, b :: ys, h => by
    rw [List.map_cons, List.map_cons] at h
    obtain ⟨h1, h2⟩ := List.cons.inj h
    rw [List.map_cons, figs_f h1, forms_map h2]
theorem tl_inj {x y : Str} (h : tl x = tl y) : x = y := by
  have := map_tl_inj (l := [x]) (m := [y]) (by rw [List.map_cons, List.map_cons, h])
  exact (List.cons.inj this).1
/-! ### the lines of right parts -/
theorem spl_free {s : Nat} : ∀ (l : List Nat) (acc p : List Nat), s ∉ acc → p ∈ spl [s] 0 acc l → s ∉ p
  | [], acc, p, ha, h => by
    rw [spl_nil] at h
    rw [List.mem_singleton.mp h]
    exact ha
  | c :: l, acc, p, ha, h => by
    cases hp : pre [s] (c :: l) with
    | true =>
      rw [spl_hit hp] at h
      rcases List.mem_cons.mp h with rfl | h
      · exact ha
      · exact spl_free l [] p (by simp) h
    | false =>
      rw [spl_miss hp] at h
      refine spl_free l (acc ++ [c]) p (fun q => ?_) h
      rcases List.mem_append.mp q with q | q
      · exact ha q
      · rw [← List.mem_singleton.mp q] at hp
        have : pre [s] (s :: l) = true := by
          unfold pre
          simp
        rw [this] at hp
        cases hp
theorem eW1 (a b : Str) (f : List Int) (hf : f ≠ []) : Txt.join " " (a :: b :: f.map numS) = a ++ " " ++ b ++ " " ++ wordsS f := by
  cases f with
  | nil => exact absurd rfl hf
  | cons i f =>
    unfold wordsS
    rw [join_eq, join_eq]
    show a ++ " " ++ (b ++ " " ++ Str.join " " ((i :: f).map numS)) = _
    refine tl_inj ?_
    simp only [tl_append, List.append_assoc]
theorem eW0 (a : Str) (ps : List Str) (hp : ps ≠ []) : Txt.join " " (a :: ps) = a ++ " " ++ Txt.join " " ps := by
  cases ps with
  | nil => exact absurd rfl hp
  | cons p ps =>
    rw [join_eq, join_eq]
    rfl
theorem eS' (s : Str × List Int) (h : s.2 ≠ []) : lineSW (s.1, s.2.map numS) = lineS s := by
  unfold lineSW lineS
  rw [eW1 "say" s.1 s.2 h]
  refine tl_inj ?_
  simp only [tl_append, List.append_assoc]
  have e1 : tl ("say " : Str) = tl ("say" : Str) ++ tl (" " : Str) := by decide +kernel
  have e2 : tl Str.empty = [] := rfl
  rw [e1, e2]
  simp only [List.nil_append, List.append_assoc]
theorem eT' (f : List Int) (h : f ≠ []) : Txt.join " " ("test" :: f.map numS) = lineT f := by
  unfold lineT
  rw [eW0 _ _ (fun e => h (List.map_eq_nil_iff.mp e))]
  refine tl_inj ?_
  unfold wordsS
  simp only [tl_append, List.append_assoc]
  have e1 : tl ("test " : Str) = tl ("test" : Str) ++ tl (" " : Str) := by decide +kernel
  have e2 : tl Str.empty = [] := rfl
  rw [e1, e2]
  simp only [List.nil_append, List.append_assoc]
theorem eB' (a b : Str) : Txt.join " " ["branch", a, b] = Str.empty ++ "branch " ++ a ++ " " ++ b := by
  rw [join_eq]
  show ("branch" : Str) ++ " " ++ (a ++ " " ++ b) = _
  refine tl_inj ?_
  simp only [tl_append, List.append_assoc]
  have e1 : tl ("branch " : Str) = tl ("branch" : Str) ++ tl (" " : Str) := by decide +kernel
  have e2 : tl Str.empty = [] := rfl
  rw [e1, e2]
  simp only [List.nil_append, List.append_assoc]
theorem eE' {X : List Str} (h : X ≠ []) : Txt.join " " ("then" :: X) = "then " ++ Txt.join " " X := by
  rw [eW0 _ _ h]
  refine tl_inj ?_
  simp only [tl_append, List.append_assoc]
  have e1 : tl ("then " : Str) = tl ("then" : Str) ++ tl (" " : Str) := by decide +kernel
  rw [e1, List.append_assoc]
theorem eV' (ns : List Str) : lineV ns = Txt.join " " ("vars" :: ns) := rfl
/-! ### right words give right lines -/
theorem turns_join {X : List Str} {fs : List (List Int)} (h : turnsW X = fs.map fun f => f.map numS) : Txt.join " " X = Txt.join "; " (fs.map wordsS) := by
  have h1 : ((Txt.split (Txt.join " " X) "; ").map fun p => Txt.split p " ").map (Txt.join " ") = (fs.map fun f => f.map numS).map (Txt.join " ") := by
    rw [← h]
    rfl
  rw [List.map_map, List.map_map] at h1
  have h2 : (Txt.split (Txt.join " " X) "; ").map ((Txt.join " ") ∘ fun p => Txt.split p " ") = Txt.split (Txt.join " " X) "; " := by
    have : (Txt.split (Txt.join " " X) "; ").map ((Txt.join " ") ∘ fun p => Txt.split p " ") = (Txt.split (Txt.join " " X) "; ").map id := List.map_congr_left fun p _ => join_split p " "
    rw [this, List.map_id]
  rw [h2] at h1
  have h3 := join_split (Txt.join " " X) "; "
  rw [h1] at h3
  exact h3.symm
theorem says_lines {m : Nat} : ∀ {xs : List (Str × List Str)} {ss : List (Str × List Int)}, xs.map sayW = ss.map sayD → (∀ s ∈ ss, sayB m (sayD s) = true) → xs.map lineSW = ss.map lineS
  | [], [], _, _ => rfl
  | [], _ :: _, h, _ => by cases h
  | _ :: _, [], h, _ => by cases h
  | (p, ws) :: xs, s :: ss, h, ok => by
    rw [List.map_cons, List.map_cons] at h
    obtain ⟨h1, h2⟩ := List.cons.inj h
    have h3 := PyData.tuple.inj h1
    obtain ⟨h4, h5⟩ := List.cons.inj h3
    obtain ⟨h6, _⟩ := List.cons.inj h5
    have ep : p = s.1 := PyData.str.inj h4
    have ew : ws = s.2.map numS := figs_f h6
    obtain ⟨_, k2⟩ := say_parts (ok s (List.mem_cons_self ..))
    rw [List.map_cons, List.map_cons, says_lines h2 fun q hq => ok q (List.mem_cons_of_mem _ hq), ep, ew, eS' s (form_ne k2)]
theorem arm_lines {m : Nat} (hm : 1 ≤ m) {a : RArm} {b : Arm} (h : armW a = armD b) (ok : ArmOk m b) : linesAW a = armL b := by
  have h3 := PyData.tuple.inj h
  obtain ⟨h4, h5⟩ := List.cons.inj h3
  obtain ⟨h6, h7⟩ := List.cons.inj h5
  obtain ⟨h8, h9⟩ := List.cons.inj h7
  obtain ⟨h10, _⟩ := List.cons.inj h9
  have es : a.src = b.src := PyData.str.inj h4
  have et : a.tgt = b.tgt := PyData.str.inj h6
  have ets := forms_map (PyData.tuple.inj h8)
  have ne : ∀ f ∈ b.tests, f ≠ [] := fun f hf => form_ne (forms_each ok.ts f hf)
  unfold linesAW armL
  rw [es, et, ets, eB' b.src b.tgt, List.map_map]
  have e1 : b.tests.map ((fun ws => Txt.join " " ("test" :: ws)) ∘ fun f => f.map numS) = b.tests.map lineT := List.map_congr_left fun f hf => eT' f (ne f hf)
  rw [e1]
  cases q : a.turn with
  | none =>
    rw [q] at h10
    have h11 := PyData.tuple.inj h10
    have := congrArg List.length h11
    rw [List.length_map] at this
    have := ok.cm
    simp at *
    omega
  | some X =>
    rw [q] at h10
    have e2 := forms_map (PyData.tuple.inj h10)
    have e3 := turns_join e2
    have hX : X ≠ [] := fun e => by
      subst e
      have h0 : turnsW [] = [[Str.empty]] := by
        have : Txt.join " " ([] : List Str) = Str.empty := rfl
        unfold turnsW
        rw [this]
        have s1 : Txt.split Str.empty "; " = [Str.empty] := split_join (y := "; ") (s := 59) (S := [32]) (parts := [Str.empty]) (by decide +kernel) (by decide +kernel) (by simp) (fun p hp => by rw [List.mem_singleton.mp hp]; decide +kernel)
        have s2 : Txt.split Str.empty " " = [Str.empty] := split_join (y := " ") (s := 32) (S := []) (parts := [Str.empty]) (by decide +kernel) (by decide +kernel) (by simp) (fun p hp => by rw [List.mem_singleton.mp hp]; decide +kernel)
        rw [s1, List.map_cons, List.map_nil, s2]
      rw [h0] at e2
      match hb : b.turns, e2 with
      | f :: fs, e2 =>
        have e4 := (List.cons.inj e2).1
        match f, e4 with
        | i :: f, e4 =>
          have e5 := (List.cons.inj e4).1
          have := num_ne i
          rw [← e5] at this
          exact this rfl
    show _ ++ [Txt.join " " ("then" :: X)] = _
    rw [eE' hX, e3]
    rfl
theorem arms_lines {m : Nat} (hm : 1 ≤ m) : ∀ {xs : List RArm} {as : List Arm}, xs.map armW = as.map armD → (∀ a ∈ as, ArmOk m a) → xs.map linesAW = as.map armL
  | [], [], _, _ => rfl
  | [], _ :: _, h, _ => by cases h
  | _ :: _, [], h, _ => by cases h
  | x :: xs, a :: as, h, ok => by
    rw [List.map_cons, List.map_cons] at h
    obtain ⟨h1, h2⟩ := List.cons.inj h
    rw [List.map_cons, List.map_cons, arm_lines hm h1 (ok a (List.mem_cons_self ..)), arms_lines hm h2 fun q hq => ok q (List.mem_cons_of_mem _ hq)]
/-- what is read and right is the text -/
theorem read_text {t : Str} {l0 : Str} {ls ns : List Str} {m : Rm} {ss : List (Str × List Int)} {as : List Arm} (et : Txt.split t "\n" = l0 :: ls) (ev : l0 = lineV ns) (hf : foldW ls = some m) (on : OkN ns) (es : PyData.tuple (m.says.map sayW) = saysD ss) (os : OkS ns.length ss) (ea : PyData.tuple (m.arms.map armW) = armsD as) (oa : OkA ns.length ss as) : t = textS ns ss as := by
  have h1 := join_split t "\n"
  rw [et, ← fold_render hf] at h1
  rw [← h1]
  unfold textS linesS render
  rw [says_lines (PyData.tuple.inj es) os.sy, arms_lines on.one (PyData.tuple.inj ea) oa.arm, ev]
/-! ### a right text is read -/
def sayO (s : Str × List Int) : Str × List Str := (s.1, s.2.map numS)
def turnO (a : Arm) : List Str := Txt.split (Txt.join "; " (a.turns.map wordsS)) " "
def armO (a : Arm) : RArm := ⟨a.src, a.tgt, a.tests.map fun f => f.map numS, some (turnO a)⟩
theorem sayO_D {m : Nat} (m3 : m ≤ 3) {s : Str × List Int} (h : sayB m (sayD s) = true) : sayW (sayO s) = sayD s := by
  obtain ⟨_, k2⟩ := say_parts h
  show PyData.tuple [.str s.1, figsD (s.2.map numS)] = _
  rw [figs_nums (okF_of m3 k2)]
  rfl
theorem turnO_W {m : Nat} (m3 : m ≤ 3) (m1 : 1 ≤ m) {a : Arm} (h : ArmOk m a) : turnsW (turnO a) = a.turns.map fun f => f.map numS := by
  unfold turnsW turnO
  have ne : a.turns ≠ [] := fun e => by
    have := h.cm
    rw [e] at this
    simp at this
    omega
  rw [join_split, turns_split ne, List.map_map]
  exact List.map_congr_left fun f hf => words_split (form_ne (forms_each h.cs f hf))
theorem armO_D {m : Nat} (m3 : m ≤ 3) (m1 : 1 ≤ m) {a : Arm} (h : ArmOk m a) : armW (armO a) = armD a := by
  show PyData.tuple [.str a.src, .str a.tgt, .tuple ((a.tests.map fun f => f.map numS).map figsD), .tuple ((turnsW (turnO a)).map figsD)] = _
  rw [turnO_W m3 m1 h, List.map_map, List.map_map]
  have e1 : a.tests.map (figsD ∘ fun f => f.map numS) = a.tests.map fD := List.map_congr_left fun f hf => figs_nums (okF_of m3 (forms_each h.ts f hf))
  have e2 : a.turns.map (figsD ∘ fun f => f.map numS) = a.turns.map fD := List.map_congr_left fun f hf => figs_nums (okF_of m3 (forms_each h.cs f hf))
  rw [e1, e2]
  rfl
theorem split_words {a : Str} {ps : List Str} (ha : 32 ∉ tl a) (hp : ∀ p ∈ ps, 32 ∉ tl p) : Txt.split (Txt.join " " (a :: ps)) " " = a :: ps :=
  split_join (y := " ") (s := 32) (S := []) (by decide +kernel) (by decide +kernel) (by simp) fun p h => by
    rcases List.mem_cons.mp h with rfl | h
    · exact ha
    · exact hp p h
theorem n32 {f : List Int} : ∀ p ∈ f.map numS, 32 ∉ tl p := fun p hp => by
  obtain ⟨i, _, rfl⟩ := List.mem_map.mp hp
  exact num_free i (.inl (by decide))
theorem step_say {m : Nat} {st : Rm} {s : Str × List Int} (h0 : st.arms = []) (h : sayB m (sayD s) = true) : stepW st (Txt.split (lineS s) " ") = some ⟨st.says ++ [sayO s], []⟩ := by
  obtain ⟨k1, k2⟩ := say_parts h
  rw [← eS' s (form_ne k2)]
  unfold lineSW
  rw [split_words (by decide +kernel) fun p hp => by
    rcases List.mem_cons.mp hp with rfl | hp
    · exact name_free k1 (by decide +kernel)
    · exact n32 p hp]
  unfold stepW
  rw [if_pos ⟨rfl, h0, by simp⟩, h0]
  rfl
theorem step_branch {m : Nat} {st : Rm} {a : Arm} (he : endedB st.arms = true) (h : ArmOk m a) : stepW st (Txt.split (lineB a) " ") = some ⟨st.says, st.arms ++ [⟨a.src, a.tgt, [], none⟩]⟩ := by
  unfold lineB
  rw [← eB' a.src a.tgt, split_words (by decide +kernel) fun p hp => by
    simp only [List.mem_cons, List.not_mem_nil, or_false] at hp
    rcases hp with rfl | rfl
    · exact name_free h.s (by decide +kernel)
    · exact name_free h.t (by decide +kernel)]
  unfold stepW
  rw [if_neg fun q => absurd (V.str.inj q.1) (show ¬ ("branch" : Str) = "say" by decide +kernel), if_pos ⟨rfl, he, rfl⟩]
  rfl
theorem ended_app (bs : List RArm) (a : RArm) : endedB (bs ++ [a]) = a.turn.isSome := by
  unfold endedB
  rw [List.getLast?_concat]
theorem step_test {st : Rm} {bs : List RArm} {a : RArm} {f : List Int} (e : st.arms = bs ++ [a]) (et : a.turn = none) (hf : f ≠ []) : stepW st (Txt.split (lineT f) " ") = some ⟨st.says, bs ++ [{ a with tests := a.tests ++ [f.map numS] }]⟩ := by
  rw [← eT' f hf, split_words (by decide +kernel) n32]
  unfold stepW
  rw [if_neg fun q => absurd (V.str.inj q.1) (show ¬ ("test" : Str) = "say" by decide +kernel), if_neg fun q => absurd (V.str.inj q.1) (show ¬ ("test" : Str) = "branch" by decide +kernel), if_pos ⟨rfl, by rw [e, ended_app, et]; rfl⟩, e, setLast_app]
  rfl
theorem step_then {m : Nat} (m3 : m ≤ 3) (m1 : 1 ≤ m) {st : Rm} {bs : List RArm} {a : RArm} {b : Arm} (e : st.arms = bs ++ [a]) (et : a.turn = none) (ok : ArmOk m b) : stepW st (Txt.split (lineE b) " ") = some ⟨st.says, bs ++ [{ a with turn := some (turnO b) }]⟩ := by
  have hX : turnO b ≠ [] := split_ne y1 y2
  have e1 : lineE b = Txt.join " " ("then" :: turnO b) := by
    rw [eE' hX]
    unfold turnO
    rw [join_split]
    rfl
  have hs : Txt.split (lineE b) " " = ("then" : Str) :: turnO b := by
    rw [e1]
    refine split_words (by decide +kernel) fun p hp => ?_
    unfold turnO at hp
    have h2 : tl p ∈ (Txt.split (Txt.join "; " (b.turns.map wordsS)) " ").map tl := List.mem_map_of_mem hp
    rw [split_spl _ _ y1 (kind_ok y2)] at h2
    exact spl_free (s := 32) _ _ _ (by simp) h2
  rw [hs]
  unfold stepW
  rw [if_neg fun q => absurd (V.str.inj q.1) (show ¬ ("then" : Str) = "say" by decide +kernel), if_neg fun q => absurd (V.str.inj q.1) (show ¬ ("then" : Str) = "branch" by decide +kernel), if_neg fun q => absurd (V.str.inj q.1) (show ¬ ("then" : Str) = "test" by decide +kernel), if_pos ⟨rfl, by rw [e, ended_app, et]; rfl⟩, e, setLast_app]
  rfl
def goW (o : Option Rm) (ls : List Str) : Option Rm := ls.foldl (fun o l => o.bind fun m => stepW m (Txt.split l " ")) o
theorem goW_cons (m m' : Rm) (l : Str) (ls : List Str) (h : stepW m (Txt.split l " ") = some m') : goW (some m) (l :: ls) = goW (some m') ls := by
  unfold goW
  rw [List.foldl_cons]
  congr 1
theorem goW_app (o : Option Rm) (xs ys : List Str) : goW o (xs ++ ys) = goW (goW o xs) ys := List.foldl_append
theorem go_says {m : Nat} : ∀ (ss : List (Str × List Int)) (acc : List (Str × List Str)), (∀ s ∈ ss, sayB m (sayD s) = true) → goW (some ⟨acc, []⟩) (ss.map lineS) = some ⟨acc ++ ss.map sayO, []⟩
  | [], acc, _ => by
    rw [List.map_nil, List.map_nil, List.append_nil]
    rfl
  | s :: ss, acc, h => by
    rw [List.map_cons, goW_cons _ _ _ _ (step_say (st := ⟨acc, []⟩) rfl (h s (List.mem_cons_self ..))), go_says ss _ fun q hq => h q (List.mem_cons_of_mem _ hq), List.map_cons, List.append_assoc]
    rfl
theorem go_tests {sy : List (Str × List Str)} : ∀ (fs : List (List Int)) (bs : List RArm) (a : RArm), a.turn = none → (∀ f ∈ fs, f ≠ []) → goW (some ⟨sy, bs ++ [a]⟩) (fs.map lineT) = some ⟨sy, bs ++ [{ a with tests := a.tests ++ fs.map fun f => f.map numS }]⟩
  | [], bs, a, _, _ => by
    rw [List.map_nil, List.map_nil, List.append_nil]
    rfl
  | f :: fs, bs, a, et, h => by
    rw [List.map_cons, goW_cons _ _ _ _ (step_test (st := ⟨sy, bs ++ [a]⟩) rfl et (h f (List.mem_cons_self ..))), go_tests fs bs { a with tests := a.tests ++ [f.map numS] } et fun q hq => h q (List.mem_cons_of_mem _ hq)]
    show some (Rm.mk sy (bs ++ [{ a with tests := a.tests ++ [f.map numS] ++ fs.map fun f => f.map numS }])) = _
    rw [List.append_assoc]
    rfl
theorem go_arm {m : Nat} (m3 : m ≤ 3) (m1 : 1 ≤ m) {sy : List (Str × List Str)} {bs : List RArm} {a : Arm} (he : endedB bs = true) (ok : ArmOk m a) : goW (some ⟨sy, bs⟩) (armL a) = some ⟨sy, bs ++ [armO a]⟩ := by
  unfold armL
  rw [goW_cons _ _ _ _ (step_branch (st := ⟨sy, bs⟩) he ok), goW_app, go_tests a.tests bs ⟨a.src, a.tgt, [], none⟩ rfl fun f hf => form_ne (forms_each ok.ts f hf), goW_cons _ _ _ _ (step_then m3 m1 (st := ⟨sy, bs ++ [⟨a.src, a.tgt, [] ++ a.tests.map fun f => f.map numS, none⟩]⟩) rfl rfl ok)]
  rfl
theorem go_arms {m : Nat} (m3 : m ≤ 3) (m1 : 1 ≤ m) {sy : List (Str × List Str)} : ∀ (as : List Arm) (bs : List RArm), endedB bs = true → (∀ a ∈ as, ArmOk m a) → goW (some ⟨sy, bs⟩) ((as.map armL).flatten) = some ⟨sy, bs ++ as.map armO⟩
  | [], bs, _, _ => by
    rw [List.map_nil, List.map_nil, List.append_nil]
    rfl
  | a :: as, bs, he, h => by
    rw [List.map_cons, List.flatten_cons, goW_app, go_arm m3 m1 he (h a (List.mem_cons_self ..)), go_arms m3 m1 as _ (by rw [ended_app]; rfl) fun q hq => h q (List.mem_cons_of_mem _ hq), List.map_cons, List.append_assoc]
    rfl
/-- a right text, read -/
theorem text_read {ns : List Str} {ss : List (Str × List Int)} {as : List Arm} (ok : OkP ns ss as) : ∃ ls, Txt.split (textS ns ss as) "\n" = lineV ns :: ls ∧ foldW ls = some ⟨ss.map sayO, as.map armO⟩ := by
  refine ⟨ss.map lineS ++ (as.map armL).flatten, ?_, ?_⟩
  · rw [text_split ok.n.one ok.t, txt_all]
    rfl
  · show goW (some ⟨[], []⟩) _ = _
    rw [goW_app, go_says ss [] ok.s.sy, go_arms ok.n.three ok.n.one as [] rfl ok.a.arm]
    rfl
end Pg
set_option Elab.async false
set_option linter.all false
set_option maxRecDepth 100000
set_option maxHeartbeats 8000000
namespace Pg
open PySem PySem.Spec PyProof.Rows L2 Gd Rl Te Nu TL
/-! ### one word of figures -/
theorem cut_one (z : Str) : tl (cutS z none (some 1)) = (tl z).take 1 := by
  unfold cutS
  show (z.cps.toList.drop (HT.sIx z.length 0 none)).take (HT.sIx z.length z.length (some ((1 : Nat) : Int)) - HT.sIx z.length 0 none) = _
  rw [HT.sIx_none, HT.sIx_nat, List.drop_zero, Nat.sub_zero]
  have e : z.length = z.cps.toList.length := len_tl z
  rw [e]
  show _ = z.cps.toList.take 1
  cases z.cps.toList with
  | nil => rfl
  | cons c r =>
    have : min 1 (c :: r).length = 1 := by
      rw [List.length_cons]
      omega
    rw [this]
theorem cut_rest (z : Str) : tl (cutS z (some 1) none) = (tl z).drop 1 := by
  unfold cutS
  show (z.cps.toList.drop (HT.sIx z.length 0 (some ((1 : Nat) : Int)))).take (HT.sIx z.length z.length none - HT.sIx z.length 0 (some ((1 : Nat) : Int))) = _
  rw [HT.sIx_none, HT.sIx_nat]
  have e : z.length = z.cps.toList.length := len_tl z
  rw [e]
  show _ = z.cps.toList.drop 1
  cases z.cps.toList with
  | nil => rfl
  | cons c r =>
    have : min 1 (c :: r).length = 1 := by
      rw [List.length_cons]
      omega
    rw [this]
    refine List.take_of_length_le ?_
    rw [List.length_drop]
    omega
theorem rm_is (z : Str) : Txt.removeprefix z "-" = if cutS z none (some 1) = ("-" : Str) then cutS z (some 1) none else z := by
  have e2 : tl ("-" : Str) = [45] := by decide +kernel
  rw [StrLaws.removeprefix_eq, sub_zero]
  have e1 : ("-" : Str).length = 1 := by decide +kernel
  rw [e1, e2]
  by_cases h : cutS z none (some 1) = ("-" : Str)
  · rw [if_pos h]
    have h1 : (tl z).take 1 = [45] := by rw [← cut_one, h, e2]
    have h2 : 1 ≤ z.length := by
      have := congrArg List.length h1
      rw [List.length_take, List.length_singleton] at this
      rw [len_tl]
      omega
    rw [if_pos (by rw [h1, decide_eq_true (by omega)]; rfl)]
    refine tl_inj ?_
    rw [cut_rest]
    show ((tl z).drop 1).take _ = _
    refine List.take_of_length_le ?_
    rw [List.length_drop]
    have := len_tl z
    omega
  · rw [if_neg h, if_neg]
    intro q
    obtain ⟨_, q2⟩ := Bool.and_eq_true_iff.mp q
    refine h (tl_inj ?_)
    rw [cut_one, e2]
    exact eq_of_beq q2
theorem nu_all (i : Int) : nuB (numS i) = true := by
  unfold nuB
  rw [rm_num]
  have hd : digS (figsS i) = true := List.all_eq_true.mpr fun c hc => decide_eq_true (fig_mem.mpr (numL_digits _ c hc))
  have hne : (figsS i).cps.toList ≠ [] := numL_ne _
  have he : (figsS i).cps.toList.isEmpty = false := by
    cases h : (figsS i).cps.toList with
    | nil => exact absurd h hne
    | cons c r => rfl
  rw [hd, he]
  by_cases hz : i = 0
  · subst hz
    decide +kernel
  · obtain ⟨c, r, e, h49⟩ := numL_head i.natAbs (by omega)
    have hh : (figsS i).cps.toList.head? = some c := by
      show (numL i.natAbs).head? = some c
      rw [e]
      rfl
    rw [hh, decide_eq_false (fun q : some c = some 48 => by have := Option.some.inj q; omega)]
    rfl
theorem num_readL {i : Int} (hl : (numS i).length ≤ 4000) : intText? (numS i) = some i := by
  cases i with
  | ofNat n =>
    have e := PySem.intText_digits (x := numS (Int.ofNat n)) (by
      have := tl_pos n
      unfold TL.tl at this
      rw [this]
      exact numL_digits n) (num_ne _) (by omega)
    rw [e]
    have := tl_pos n
    unfold TL.tl at this
    rw [this, numL_val]
    rfl
  | negSucc n =>
    have e := PySem.intText_neg (x := numS (Int.negSucc n)) (tl_neg n) (numL_digits _) (numL_ne _) (by omega)
    rw [e, numL_val]
    rfl
theorem val_lt : ∀ (cs : List Nat) (acc : Nat), (∀ c ∈ cs, 48 ≤ c ∧ c ≤ 57) → cs.foldl (fun acc c => acc * 10 + (c - 48)) acc < (acc + 1) * 10 ^ cs.length
  | [], acc, _ => by simp
  | c :: cs, acc, h => by
    have h1 := h c (List.mem_cons_self ..)
    have ih := val_lt cs (acc * 10 + (c - 48)) fun d hd => h d (List.mem_cons_of_mem _ hd)
    rw [List.foldl_cons, List.length_cons, Nat.pow_succ]
    have h2 : (acc * 10 + (c - 48) + 1) * 10 ^ cs.length ≤ (acc * 10 + 10) * 10 ^ cs.length := Nat.mul_le_mul_right _ (by omega)
    have h3 : (acc * 10 + 10) * 10 ^ cs.length = (acc + 1) * (10 ^ cs.length * 10) := by
      rw [Nat.mul_comm (10 ^ cs.length) 10, ← Nat.mul_assoc]
      congr 1
      omega
    omega
theorem log_lt {n k : Nat} (h : n < 10 ^ k) (hk : k ≤ 570) : n.log2 < 1920 := by
  have h1 : n < 2 ^ 1920 := Nat.lt_of_lt_of_le h (Nat.le_trans (Nat.pow_le_pow_right (by decide) hk) (by decide +kernel))
  by_cases h0 : n = 0
  · subst h0
    decide
  · exact (Nat.log2_lt h0).mpr h1
/-- a word of figures is a number's, read -/
theorem word_int {z : Str} (hl : z.length ≤ 570) (hne : (Txt.removeprefix z "-").cps.toList.isEmpty = false) (hd : digS (Txt.removeprefix z "-") = true) : ∃ n : Int, intText? z = some n ∧ n.natAbs.log2 < 1920 ∧ (nuB z = true → numV z = n ∧ numS n = z) ∧ (nuB z = false → numS n ≠ z) := by
  have hds : ∀ c ∈ tl (Txt.removeprefix z "-"), 48 ≤ c ∧ c ≤ 57 := fun c hc => fig_mem.mp (of_decide_eq_true (List.all_eq_true.mp hd c hc))
  have hn2 : tl (Txt.removeprefix z "-") ≠ [] := fun e => by
    unfold TL.tl at e
    rw [e] at hne
    cases hne
  obtain ⟨n, e, hb⟩ : ∃ n : Int, intText? z = some n ∧ n.natAbs < 10 ^ z.length := by
    rcases rm_cases z with q | q
    · rw [q] at hds hn2
      refine ⟨_, PySem.intText_digits hds hn2 (by omega), ?_⟩
      have := val_lt (tl z) 0 hds
      rw [Int.natAbs_natCast]
      show NumText.digitsVal (tl z) < _
      unfold NumText.digitsVal
      rw [len_tl]
      omega
    · refine ⟨_, PySem.intText_neg q hds hn2 (by omega), ?_⟩
      have := val_lt (tl (Txt.removeprefix z "-")) 0 hds
      rw [Int.natAbs_neg, Int.natAbs_natCast]
      show NumText.digitsVal (tl (Txt.removeprefix z "-")) < _
      unfold NumText.digitsVal
      have h2 := congrArg List.length q
      rw [List.length_cons, ← len_tl] at h2
      rw [h2, Nat.pow_succ]
      omega
  refine ⟨n, e, log_lt hb hl, fun h => ?_, fun h q => ?_⟩
  · obtain ⟨i, ei⟩ := nu_num h
    have h1 := num_readL (i := i) (by rw [← ei]; omega)
    rw [← ei, e] at h1
    have h2 : n = i := Option.some.inj h1
    subst h2
    have ev : numV z = (nu_num h).choose := by
      unfold numV
      rw [dif_pos (nu_num h)]
    have h3 := (nu_num h).choose_spec
    rw [← ev] at h3
    have h4 := num_readL (i := numV z) (by rw [← h3]; omega)
    rw [← h3, e] at h4
    exact ⟨(Option.some.inj h4).symm, ei.symm⟩
  · rw [← q, nu_all] at h
    cases h
theorem len_tl' (z : Str) : z.length = z.cps.toList.length := len_tl z
noncomputable def figX (w : Str) : V := if nuB w = true then .int (numV w) else .non
theorem figX_D {K : PySem.W.Frag} {H : Hp} (w : Str) : Dp K H (figX w) (figV w) := by
  unfold figX figV
  split
  · exact .int _
  · exact .non
end Pg
namespace K5
open PySem PySem.Spec PyProof.Rows L2 Gd Rl TL
open Pg (top FnP Mo figS digS nuB numV figX figV figsD iteDN iteDY list_map)
abbrev sFig : Stmt := top 59
abbrev sFigs : Stmt := top 60
theorem if_val {b : Bool} {t1 t2 : TE} {σ : L2.St} {H : Hp} {R : VK} (Pv : V → Hp → Prop) (h1 : b = true → ∀ R : VK, (∀ y H', Pv y H' → R y H') → t1 σ H R) (h2 : b = false → ∀ R : VK, (∀ y H', Pv y H' → R y H') → t2 σ H R) (k : ∀ y H', Pv y H' → R y H') : if b = true then t1 σ H R else t2 σ H R := by
  cases b with
  | true => exact iteT (h1 rfl R k)
  | false => exact iteF (h2 rfl R k)
section
variable {P : Program} {w : World} {K : PySem.W.Frag} {mg : Str → Option Value} {base : Heap} {f : Addr} {fd : FuncData}
def spFig : Sp := fun vs H Q _ => ∃ z : Str, vs = [.str z] ∧ z.length ≤ 570 ∧ ∀ H', Same H H' → Q (figX z) H'
abbrev nFig : List Str := ["_law_word", "_law_rest", "_law_sign"]
theorem scFig : FnScope nFig ["_law_word"] (defScope sFig) := ⟨rfl, rfl, rfl, by decide +kernel, rfl, by decide +kernel, by decide +kernel⟩
theorem ok_fig (F : FnP K "_law_figure" sFig f fd) (T : Mo mg) : FnOk P w K mg base CX0 1 f fd ["_law_word"] spFig := by
  refine F.ok scFig (fun vs H Q E h => ?_) (fun cdv A outer s H vs Q E hr h => ?_)
  · obtain ⟨v, rfl, _⟩ := h
    rfl
  · obtain ⟨z, rfl, hl, k⟩ := h
    refine ⟨_, PSs.nox <| pss_cons (ps_set (i := 1) scFig.nd rfl (.inl rfl) (pe_ifExp (pt_cmpR op_eq (pe_slice (r := rSlS) sl_str (pv 0) po_none (po_some pe_int)) pe_str (nomark _)) (pe_slice (r := rSlS) sl_str (pv 0) (po_some pe_int) po_none) (pv 0)))
      <| pss_cons (ps_if (PW.pt (pw_or (pt_cmpR op_eq (pv 1) pe_str (nomark _)) (pw_or1 (pt_cmpR (op_neE hr.units) (pe_lc (own := [("_law_sign", 2)]) (g := gName 2) rfl scFig.nd (pi_str (pv 1)) (blkOk_by (N := nFig) (sc := defScope sFig) (by decide +kernel)) (fun _ _ _ _ _ => pg_name (i := 2) scFig.nd rfl (Or.inl rfl))
          (fun _ _ _ _ _ => pts_one (pt_cmpR op_notIn_sign (pv 2) pe_str (by rfl))) (fun _ _ _ _ _ => pv 2)) (pe_lstR pa_nil) (nomark _))))) (pss_one (ps_ret pe_non)) pss_nil)
      <| pss_one (ps_ret (pe_ifExp (pt_cmpR op_eq (pe_callTy call_str_int (by rfl) T.str (by decide +kernel) (pa_cons (pe_callTy call_int_str (by rfl) T.int (by decide +kernel) (pa_cons (pv 0) pa_nil)) pa_nil)) (pv 0) (nomark _)) (pe_callTy call_int_str (by rfl) T.int (by decide +kernel) (pa_cons (pv 0) pa_nil)) pe_non)), ?_⟩
    have z16 : z.length ≤ sizeLine := Nat.le_trans hl (by decide)
    refine ⟨_, rfl, _, rfl, z, rfl, z16, rfl, _, rfl, ?_⟩
    refine if_val (fun y H' => y = .str (Txt.removeprefix z "-") ∧ H' = H) (fun hb R c => ?_) (fun hb R c => ?_) (fun y H' e => ?_)
    · refine ⟨_, rfl, _, rfl, z, rfl, z16, c _ _ ⟨?_, rfl⟩⟩
      rw [Pg.rm_is, if_pos (V.str.inj (of_decide_eq_true hb))]
    · refine ⟨_, rfl, c _ _ ⟨?_, rfl⟩⟩
      rw [Pg.rm_is, if_neg (fun q => of_decide_eq_false hb (by rw [q]))]
    obtain ⟨rfl, rfl⟩ := e
    have hrl : (Txt.removeprefix z "-").length ≤ 570 := Nat.le_trans (Pg.rm_len z) hl
    have eN : nuB z = ((!(Txt.removeprefix z "-").cps.toList.isEmpty && digS (Txt.removeprefix z "-")) && (!decide ((Txt.removeprefix z "-").cps.toList.head? = some 48) || decide (z = "0"))) := rfl
    have wi := Pg.word_int (z := z) hl
    have non : nuB z = false → ∀ H', Same H' H' → True := fun _ _ _ => trivial
    have kN : nuB z = false → ∀ H2, Same H' H2 → Q .non H2 := fun h H2 s => by
      have := k H2 s
      unfold Pg.figX at this
      rw [if_neg (by rw [h]; exact Bool.false_ne_true)] at this
      exact this
    generalize Txt.removeprefix z "-" = rs at hrl eN wi
    refine ⟨_, rfl, rfl, _, rfl, ?_⟩
    by_cases h0 : V.str rs = V.str ""
    · refine iteDY h0 ?_
      refine kN ?_ _ (Same.refl _)
      have : rs = "" := V.str.inj h0
      rw [eN, this]
      rfl
    refine iteDN h0 ?_
    have hE : rs.cps.toList.isEmpty = false := by
      cases h : rs.cps.toList with
      | nil => exact absurd (by rw [show rs = ("" : Str) from Pg.tl_inj h]) h0
      | cons c r => rfl
    rw [hE] at eN
    refine ⟨_, rfl, rs, rfl, ?_⟩
    intro D nD
    have lz : rs.length = rs.cps.toList.length := Pg.len_tl' rs
    refine lc_it walk_str (fun i H1 => Same H' H1 ∧ ∃ l : List Nat, H1 D = some (.lst (l.map fun c => V.str ⟨#[c]⟩)) ∧ l.length ≤ i ∧ l.isEmpty = (rs.cps.toList.take i).all fun c => decide (c ∈ figS.cps.toList)) ⟨same_new nD, [], upd_same, Nat.le_refl _, rfl⟩ (fun _ _ _ _ => trivial) ?_ ?_
    · rintro i x H1 H2 hi ⟨s1, l, e1, ll, hl2⟩ ⟨rfl, c', ec, rfl⟩
      have e2 : rs.cps.toList[i]? = some c' := by
        rw [Array.getElem?_toList]
        exact ec
      obtain ⟨hi2, ei⟩ := List.getElem?_eq_some_iff.mp e2
      have hN : (rs.cps.toList.take (i + 1)).all (fun c => decide (c ∈ figS.cps.toList)) = ((rs.cps.toList.take i).all (fun c => decide (c ∈ figS.cps.toList)) && decide (c' ∈ figS.cps.toList)) := by
        rw [all_take hi2, ei]
      refine ⟨rfl, _, rfl, c', _, rfl, rfl, _, rfl, ?_⟩
      by_cases hc : c' ∈ figS.cps.toList
      · rw [decide_eq_true hc, Bool.and_true] at hN
        have hc2 : (!decide (c' ∈ figS.cps.toList)) = false := by
          rw [decide_eq_true hc]
          rfl
        refine iteNF hc2 ?_
        exact ⟨s1, l, e1, by omega, by rw [hl2, hN]⟩
      · rw [decide_eq_false hc, Bool.and_false] at hN
        have hc2 : (!decide (c' ∈ figS.cps.toList)) = true := by
          rw [decide_eq_false hc]
          rfl
        refine iteNT hc2 ?_
        refine ⟨_, rfl, _, e1, small1000 (by rw [List.length_map]; have : rs.cps.size = rs.length := rfl; omega), fun b o e => ?_, l ++ [c'], ?_, by rw [List.length_append]; exact Nat.succ_le_succ ll, ?_⟩
        · rw [upd_ne (ne_of_none e nD)]
          exact s1 _ _ e
        · rw [upd_same, List.map_append]
          rfl
        · rw [hN]
          cases l <;> rfl
    · rintro H1 ⟨s1, l, e1, ll, hl2⟩
      refine ⟨(show 0 ≤ 1000 by decide), fun T2 H2 n2 => ⟨D, T2, _, rfl, rfl, SqL.of (n2.2.2 _ _ e1), SqL.of n2.2.1, _, rfl, ?_⟩⟩
      have s2 := s1.trans n2.2.2
      have e3 : (!(l.map fun c => V.str ⟨#[c]⟩).isEmpty) = !digS rs := by
        have h5 : rs.cps.size = rs.cps.toList.length := lz
        rw [h5, List.take_length] at hl2
        rw [show digS rs = rs.cps.toList.all fun c => decide (c ∈ figS.cps.toList) from rfl, ← hl2]
        cases l <;> rfl
      rw [e3]
      cases hd : digS rs with
      | false =>
        refine iteT ?_
        refine kN ?_ _ s2
        rw [eN, hd]
        rfl
      | true =>
        refine iteF ?_
        obtain ⟨n, en, hlog, hy, hn⟩ := wi hE hd
        refine ⟨_, rfl, _, _, rfl, en, by omega, _, rfl, hlog, _, rfl, rfl, _, rfl, ?_⟩
        cases hB : nuB z with
        | true =>
          obtain ⟨h1, h2⟩ := hy hB
          refine iteDY (show V.str (Nu.numS n) = V.str z by rw [h2]) ?_
          refine ⟨_, rfl, _, _, rfl, en, by omega, ?_⟩
          have := k H2 s2
          unfold Pg.figX at this
          rw [if_pos hB, h1] at this
          exact this
        | false =>
          refine iteDN (show ¬ V.str (Nu.numS n) = V.str z from fun q => hn hB (V.str.inj q)) ?_
          exact kN hB _ s2
def spFigs (K : PySem.W.Frag) : Sp := fun vs H Q _ => ∃ (a : Addr) (ws : List Str), vs = [.ref a] ∧ SqL K H a (ws.map V.str) ∧ ws.length ≤ 1000 ∧ (∀ z ∈ ws, z.length ≤ 570) ∧ ∀ v H', Same H H' → Dp K H' v (figsD ws) → Q v H'
theorem scFigs : FnScope ["_law_words_here", "_law_word"] ["_law_words_here"] (defScope sFigs) := ⟨rfl, rfl, rfl, by decide +kernel, rfl, by decide +kernel, by decide +kernel⟩
theorem dp_all {K : PySem.W.Frag} {H : Hp} {α : Type} {x : α → V} {g : α → PyData} (h : ∀ a, Dp K H (x a) (g a)) : ∀ l : List α, DpAll K H (l.map x) (l.map g)
  | [] => .nil
  | a :: l => .cons (h a) (dp_all h l)
theorem ok_figs {fG : Addr} {dG : FuncData} (F : FnP K "_law_figures" sFigs f fd) (T : Mo mg) (FG : FnP K "_law_figure" sFig fG dG) (gG : mg "_law_figure" = some (.ref fG)) : FnOk P w K mg base CX0 2 f fd ["_law_words_here"] (spFigs K) := by
  have GG : FnOk P w K mg base CX0 1 fG dG ["_law_word"] spFig := ok_fig FG T
  have bG : Binds K dG ["_law_word"] [] := FG.bindsN fun _ _ _ _ _ _ us hl => match us, hl with | [_], _ => rfl
  refine F.ok scFigs (fun vs H Q E h => ?_) (fun cdv A outer s H vs Q E hr h => ?_)
  · obtain ⟨a, ws, rfl, _⟩ := h
    rfl
  · obtain ⟨a, ws, rfl, ha, hl, h5, k⟩ := h
    refine ⟨_, PSs.nox <| pss_one (ps_ret (pe_callTy call_tuple_of (by rfl) T.tuple (by decide +kernel) (pa_cons (pe_lc (own := [("_law_word", 1)]) (g := gName 1) (tt := tYes) rfl scFigs.nd (pi_list (pv 0)) (blkOk_by (N := ["_law_words_here", "_law_word"]) (sc := defScope sFigs) (by decide +kernel)) (fun _ _ _ _ _ => pg_name (i := 1) scFigs.nd rfl (Or.inl rfl)) (fun _ _ _ _ _ => pts_nil)
          (fun _ _ _ _ _ => pe_call GG hr (by rfl) gG FG.kp bG .nil pass0 (pa_cons (pv 1) pa_nil))) pa_nil))), ?_⟩
    refine ⟨_, rfl, a, rfl, ⟨_, ha⟩, lcR (walk_list (K := K) (xs := ws.map V.str)) (n1 := by rw [List.length_map]; omega) (fun H' s' => s'.seq ha) (fun i y _ => ∃ p : Str, ws[i]? = some p ∧ y = Pg.figX p) (fun _ _ _ _ _ e => e) ?_ ?_⟩
    · rintro D acc j x Ha Hb K2 hj s nD hD ⟨rfl, ex⟩ kk
      obtain ⟨p, ep, rfl⟩ := Pg.strs_at ex
      exact ⟨rfl, _, rfl, p, rfl, h5 p (List.mem_of_getElem? ep), fun H4 s4 => kk _ _ s4 ⟨p, ep, rfl⟩⟩
    · rintro D H2 ys nw hlen he
      have ey : ys = ws.map Pg.figX := list_map (by rw [hlen, List.length_map]) he
      refine ⟨D, _, rfl, .inl ⟨SqL.of nw.2.1, fun q nq => ?_⟩⟩
      refine k _ _ (nw.2.2.trans (same_new nq)) ?_
      rw [ey]
      exact .tup (SqT.of upd_same) (dp_all (fun p => Pg.figX_D p) ws)
end
end K5
set_option Elab.async false
set_option linter.all false
set_option maxRecDepth 100000
set_option maxHeartbeats 8000000
namespace Pg
open PySem PySem.Spec PyProof.Rows L2 Gd Rl Te Nu TL
/-! ### how long a word can be -/
def Run (M : Nat) (l : List Nat) : Prop := ∀ b, b <:+: l → 32 ∉ b → 10 ∉ b → b.length ≤ M
theorem Run.inf {M : Nat} {l l' : List Nat} (h : Run M l) (i : l' <:+: l) : Run M l' := fun b hb => h b (hb.trans i)
theorem Run.mono {M M' : Nat} {l : List Nat} (h : Run M l) (m : M ≤ M') : Run M' l := fun b hb h1 h2 => Nat.le_trans (h b hb h1 h2) m
theorem tl_joinS (y p q : Str) (r : List Str) : tl (Str.join y (p :: q :: r)) = tl p ++ tl y ++ tl (Str.join y (q :: r)) := by
  show tl (p ++ y ++ Str.join y (q :: r)) = _
  rw [tl_append, tl_append]
theorem inf_join (y : Str) : ∀ (ps : List Str) (p : Str), p ∈ ps → tl p <:+: tl (Str.join y ps)
  | [], p, h => by cases h
  | [q], p, h => by
    rw [List.mem_singleton.mp h]
    exact List.infix_rfl
  | q :: r :: ps, p, h => by
    rw [tl_joinS]
    rcases List.mem_cons.mp h with rfl | h
    · exact List.IsInfix.trans List.infix_append_left List.infix_append_left
    · exact (inf_join y (r :: ps) p h).trans List.infix_append_right
theorem inf_part {x y p : Str} (h : p ∈ Txt.split x y) : tl p <:+: tl x := by
  have := inf_join y _ p h
  rw [← join_eq, join_split] at this
  exact this
theorem part_free {x y p : Str} {s : Nat} (ey : tl y = [s]) (hk : y.cps.all (· < 256) = true) (h : p ∈ Txt.split x y) : s ∉ tl p := by
  have h2 : tl p ∈ (Txt.split x y).map tl := List.mem_map_of_mem h
  rw [split_spl _ _ (by rw [ey]; simp) (kind_ok hk), ey] at h2
  exact spl_free (s := s) _ _ _ (by simp) h2
theorem eL : tl ("\n" : Str) = [10] := by decide +kernel
theorem eL2 : ("\n" : Str).cps.all (· < 256) = true := by decide +kernel
theorem eW : tl (" " : Str) = [32] := by decide +kernel
/-- a text that the law's reader can take -/
structure ReadW (t : Str) : Prop where
  r : Read t
  w : Run 570 (tl t)
/-- a line of it -/
structure LineW (l : Str) : Prop where
  z : l.length ≤ 980
  w : Run 570 (tl l)
  n : 10 ∉ tl l
theorem ReadW.line {t l : Str} (h : ReadW t) (hl : l ∈ Txt.split t "\n") : LineW l := ⟨h.r.l l hl, h.w.inf (inf_part hl), part_free eL eL2 hl⟩
theorem LineW.word {l x : Str} (h : LineW l) (hx : x ∈ Txt.split l " ") : x.length ≤ 570 := by
  rw [len_tl]
  exact h.w _ (inf_part hx) (part_free eW y2 hx) fun q => h.n ((inf_part hx).subset q)
theorem inf_tail (l : Str) : tl (Txt.join " " ((Txt.split l " ").drop 1)) <:+: tl l := by
  have e := join_split l " "
  cases hs : Txt.split l " " with
  | nil => exact absurd hs (split_ne y1 y2)
  | cons a r =>
    rw [hs, join_eq] at e
    rw [join_eq, List.drop_one, List.tail_cons]
    cases r with
    | nil => exact ⟨[], tl l, rfl⟩
    | cons b r =>
      rw [← e, tl_joinS]
      exact List.infix_append_right
theorem LineW.turn {l p x : Str} (h : LineW l) (hp : p ∈ Txt.split (Txt.join " " ((Txt.split l " ").drop 1)) "; ") (hx : x ∈ Txt.split p " ") : x.length ≤ 570 := by
  have i : tl x <:+: tl l := (inf_part hx).trans ((inf_part hp).trans (inf_tail l))
  rw [len_tl]
  exact h.w _ i (part_free eW y2 hx) fun q => h.n (i.subset q)
theorem inf_len {x y : Str} (h : tl x <:+: tl y) : x.length ≤ y.length := by
  rw [len_tl, len_tl]
  exact h.length_le
/-! ### pairs -/
inductive Al2 {α β : Type} (R : α → β → Prop) : List α → List β → Prop where
  | nil : Al2 R [] []
  | cons {a : α} {b : β} {as : List α} {bs : List β} (h : R a b) (t : Al2 R as bs) : Al2 R (a :: as) (b :: bs)
theorem Al2.imp {α β : Type} {R R' : α → β → Prop} : ∀ {as : List α} {bs : List β}, Al2 R as bs → (∀ a ∈ as, ∀ b, R a b → R' a b) → Al2 R' as bs
  | _, _, .nil, _ => .nil
  | _, _, .cons h t, k => .cons (k _ (List.mem_cons_self ..) _ h) (t.imp fun a ha => k a (List.mem_cons_of_mem _ ha))
theorem Al2.snoc {α β : Type} {R : α → β → Prop} {a : α} {b : β} : ∀ {as : List α} {bs : List β}, Al2 R as bs → R a b → Al2 R (as ++ [a]) (bs ++ [b])
  | _, _, .nil, h => .cons h .nil
  | _, _, .cons h t, h' => .cons h (t.snoc h')
theorem Al2.len {α β : Type} {R : α → β → Prop} : ∀ {as : List α} {bs : List β}, Al2 R as bs → as.length = bs.length
  | _, _, .nil => rfl
  | _, _, .cons _ t => by rw [List.length_cons, List.length_cons, t.len]
theorem Al2.unsnoc {α β : Type} {R : α → β → Prop} {b : β} : ∀ {as : List α} {bs : List β}, Al2 R as (bs ++ [b]) → ∃ as0 a, as = as0 ++ [a] ∧ Al2 R as0 bs ∧ R a b
  | _, [], .cons h .nil => ⟨[], _, rfl, .nil, h⟩
  | _, _ :: _, .cons h t => by
    obtain ⟨as0, a, rfl, t', h'⟩ := t.unsnoc
    exact ⟨_ :: as0, a, rfl, .cons h t', h'⟩
theorem Al2.at {α β : Type} {R : α → β → Prop} : ∀ {as : List α} {bs : List β} {i : Nat} {a : α}, Al2 R as bs → as[i]? = some a → ∃ b, bs[i]? = some b ∧ R a b
  | _, _, 0, _, .cons h _, e => ⟨_, rfl, by cases e; exact h⟩
  | _, _, i + 1, _, .cons _ t, e => t.at (i := i) (by simpa using e)
  | _, _, _, _, .nil, e => by simp at e
end Pg
namespace K5
open PySem PySem.Spec PyProof.Rows L2 Gd Rl TL
open Pg (Al2 RArm Rm sayW figsD turnD armW nolD nolAll)
theorem nol_fig (w : Str) : nolD (Pg.figV w) = true := by
  unfold Pg.figV
  split <;> rfl
theorem nol_figs (ws : List Str) : nolD (figsD ws) = true := by
  unfold Pg.figsD
  rw [nolD]
  exact Pg.nol_map nol_fig ws
theorem nol_say (s : Str × List Str) : nolD (sayW s) = true := by
  unfold Pg.sayW
  rw [nolD]
  simp only [nolAll, nolD, nol_figs]
  rfl
theorem nol_turn : ∀ t : Option (List Str), nolD (turnD t) = true
  | none => rfl
  | some X => by
    unfold Pg.turnD
    rw [nolD]
    exact Pg.nol_map nol_figs _
/-- a branch that is read -/
def ArmAt (K : PySem.W.Frag) (H : Hp) (c : Addr × Addr) (a : RArm) : Prop := ∃ (tv : List V) (u : V), H c.1 = some (.lst [.str a.src, .str a.tgt, .ref c.2, u]) ∧ Dp K H u (turnD a.turn) ∧ H c.2 = some (.lst tv) ∧ DpAll K H tv (a.tests.map figsD)
theorem ArmAt.same {K : PySem.W.Frag} {H H' : Hp} {c : Addr × Addr} {a : RArm} (h : ArmAt K H c a) (s : Same H H') : ArmAt K H' c a := by
  obtain ⟨tv, u, h1, h2, h3, h4⟩ := h
  exact ⟨tv, u, s _ _ h1, dp_same s _ h2, s _ _ h3, dp_sameAll s _ h4⟩
theorem ArmAt.upd {K : PySem.W.Frag} {H : Hp} {c : Addr × Addr} {a : RArm} {x : Addr} {xs ys : List V} (h : ArmAt K H c a) (hx : H x = some (.lst xs)) (n1 : c.1 ≠ x) (n2 : c.2 ≠ x) : ArmAt K (upd H x (.lst ys)) c a := by
  obtain ⟨tv, u, h1, h2, h3, h4⟩ := h
  have nl := nl_upd (Y := ys) hx
  exact ⟨tv, u, (upd_ne n1).trans h1, dp_nl nl _ (nol_turn _) h2, (upd_ne n2).trans h3, dp_nlAll nl _ (Pg.nol_map nol_figs _) h4⟩
structure RdAt (K : PySem.W.Frag) (H0 H : Hp) (lL lP S A : Addr) (lines rest : List Str) (m : Rm) (cs : List (Addr × Addr)) : Prop where
  s : Same H0 H
  l : H lL = some (.lst (lines.map V.str))
  p : H lP = some (.lst (rest.map V.str))
  sv : ∃ sv, H S = some (.lst sv) ∧ DpAll K H sv (m.says.map sayW)
  av : H A = some (.lst (cs.map fun c => V.ref c.1))
  arm : Al2 (ArmAt K H) cs m.arms
  nd4 : lL ≠ S ∧ lL ≠ A ∧ lP ≠ S ∧ lP ≠ A ∧ S ≠ A
  ndf : (cs.map Prod.fst).Nodup
  nds : (cs.map Prod.snd).Nodup
  x4 : ∀ c ∈ cs, (c.1 ≠ lL ∧ c.1 ≠ lP ∧ c.1 ≠ S ∧ c.1 ≠ A) ∧ (c.2 ≠ lL ∧ c.2 ≠ lP ∧ c.2 ≠ S ∧ c.2 ≠ A)
  xx : ∀ c ∈ cs, ∀ c' ∈ cs, c.1 ≠ c'.2
  fr4 : H0 lL = none ∧ H0 lP = none ∧ H0 S = none ∧ H0 A = none
  frc : ∀ c ∈ cs, H0 c.1 = none ∧ H0 c.2 = none
section
variable {K : PySem.W.Frag} {H0 H H' : Hp} {lL lP S A : Addr} {lines rest : List Str} {m : Rm} {cs : List (Addr × Addr)}
theorem RdAt.same (h : RdAt K H0 H lL lP S A lines rest m cs) (s : Same H H') : RdAt K H0 H' lL lP S A lines rest m cs := by
  obtain ⟨sv, h1, h2⟩ := h.sv
  exact ⟨h.s.trans s, s _ _ h.l, s _ _ h.p, ⟨sv, s _ _ h1, dp_sameAll s _ h2⟩, s _ _ h.av, h.arm.imp fun c _ a q => q.same s, h.nd4, h.ndf, h.nds, h.x4, h.xx, h.fr4, h.frc⟩
theorem same_upd {x : Addr} {ys : List V} (s : Same H0 H) (n : H0 x = none) : Same H0 (upd H x (.lst ys)) := fun b o e => (upd_ne (ne_of_none e n)).trans (s b o e)
theorem nol_says (l : List (Str × List Str)) : nolAll (l.map sayW) = true := Pg.nol_map nol_say l
theorem RdAt.say {sv : List V} {x : V} {sy : Str × List Str} (h : RdAt K H0 H lL lP S A lines rest m cs) (hs : H S = some (.lst sv)) (hx : Dp K H x (sayW sy)) : RdAt K H0 (upd H S (.lst (sv ++ [x]))) lL lP S A lines rest ⟨m.says ++ [sy], m.arms⟩ cs := by
  obtain ⟨sv', h1, h2⟩ := h.sv
  rw [hs] at h1
  cases h1
  have nl := nl_upd (Y := sv ++ [x]) hs
  refine ⟨same_upd h.s h.fr4.2.2.1, (upd_ne h.nd4.1).trans h.l, (upd_ne h.nd4.2.2.1).trans h.p, ⟨_, upd_same, ?_⟩, (upd_ne h.nd4.2.2.2.2.symm).trans h.av, h.arm.imp fun c hc a q => q.upd hs (h.x4 c hc).1.2.2.1 (h.x4 c hc).2.2.2.1, h.nd4, h.ndf, h.nds, h.x4, h.xx, h.fr4, h.frc⟩
  show DpAll K _ _ ((m.says ++ [sy]).map sayW)
  rw [List.map_append]
  exact Pg.dp_snoc (dp_nl nl _ (nol_say sy) hx) (dp_nlAll nl _ (nol_says _) h2)
theorem RdAt.branch {a T : Addr} {b : RArm} (h : RdAt K H0 H lL lP S A lines rest m cs) (s : Same H H') (ha : H a = none) (hT : H T = none) (aT : a ≠ T) (hb : ArmAt K H' (a, T) b) : RdAt K H0 (upd H' A (.lst ((cs.map fun c => V.ref c.1) ++ [.ref a]))) lL lP S A lines rest ⟨m.says, m.arms ++ [b]⟩ (cs ++ [(a, T)]) := by
  have h' := h.same s
  obtain ⟨sv, h1, h2⟩ := h'.sv
  have hA := h'.av
  have nl := nl_upd (Y := (cs.map fun c => V.ref c.1) ++ [.ref a]) hA
  obtain ⟨sv0, h01, _⟩ := h.sv
  have new : ∀ {x y : Addr} {o : HO}, H x = some o → H y = none → y ≠ x := fun e n q => by
    rw [q, e] at n
    cases n
  have cn : ∀ c ∈ cs, ∀ y, H y = none → y ≠ c.1 ∧ y ≠ c.2 := fun c hc y n => by
    obtain ⟨i, e⟩ := List.getElem?_of_mem hc
    obtain ⟨b', _, tv, u, q1, _, q3, _⟩ := h.arm.at e
    exact ⟨new q1 n, new q3 n⟩
  have h0 : ∀ {y : Addr}, H y = none → H0 y = none := fun {y} n => by
    cases e : H0 y with
    | none => rfl
    | some o =>
      rw [h.s _ _ e] at n
      cases n
  refine ⟨same_upd h'.s h.fr4.2.2.2, (upd_ne h.nd4.2.1).trans h'.l, (upd_ne h.nd4.2.2.2.1).trans h'.p, ⟨sv, (upd_ne h.nd4.2.2.2.2).trans h1, dp_nlAll nl _ (nol_says _) h2⟩, ?_, ?_, h.nd4, ?_, ?_, ?_, ?_, h.fr4, ?_⟩
  · rw [upd_same, List.map_append]
    rfl
  · exact (h'.arm.imp fun c hc b q => q.upd hA (h.x4 c hc).1.2.2.2 (h.x4 c hc).2.2.2.2).snoc (hb.upd hA (new h.av ha) (new h.av hT))
  · rw [List.map_append]
    refine List.nodup_append.mpr ⟨h.ndf, by simp, fun x hx y hy e => ?_⟩
    obtain ⟨c, hc, rfl⟩ := List.mem_map.mp hx
    rw [List.mem_singleton.mp hy] at e
    exact (cn c hc a ha).1 e.symm
  · rw [List.map_append]
    refine List.nodup_append.mpr ⟨h.nds, by simp, fun x hx y hy e => ?_⟩
    obtain ⟨c, hc, rfl⟩ := List.mem_map.mp hx
    rw [List.mem_singleton.mp hy] at e
    exact (cn c hc T hT).2 e.symm
  · intro c hc
    rcases List.mem_append.mp hc with hc | hc
    · exact h.x4 c hc
    · rw [List.mem_singleton.mp hc]
      exact ⟨⟨new h.l ha, new h.p ha, new h01 ha, new h.av ha⟩, new h.l hT, new h.p hT, new h01 hT, new h.av hT⟩
  · intro c hc c' hc'
    rcases List.mem_append.mp hc with hc | hc <;> rcases List.mem_append.mp hc' with hc' | hc'
    · exact h.xx c hc c' hc'
    · rw [List.mem_singleton.mp hc']
      exact (cn c hc T hT).1.symm
    · rw [List.mem_singleton.mp hc]
      exact (cn c' hc' a ha).2
    · rw [List.mem_singleton.mp hc, List.mem_singleton.mp hc']
      exact aT
  · intro c hc
    rcases List.mem_append.mp hc with hc | hc
    · exact h.frc c hc
    · rw [List.mem_singleton.mp hc]
      exact ⟨h0 ha, h0 hT⟩
theorem last_ne {cs : List (Addr × Addr)} {c : Addr × Addr} (nf : ((cs ++ [c]).map Prod.fst).Nodup) (ns : ((cs ++ [c]).map Prod.snd).Nodup) : ∀ d ∈ cs, d.1 ≠ c.1 ∧ d.2 ≠ c.2 := fun d hd => by
  rw [List.map_append] at nf ns
  exact ⟨(List.nodup_append.mp nf).2.2 _ (List.mem_map_of_mem hd) _ (by simp), (List.nodup_append.mp ns).2.2 _ (List.mem_map_of_mem hd) _ (by simp)⟩
/-- a test more, of the last branch -/
theorem RdAt.test {a T : Addr} {tv : List V} {x : V} {bs : List RArm} {b : RArm} {ws : List Str} (h : RdAt K H0 H lL lP S A lines rest m (cs ++ [(a, T)])) (em : m.arms = bs ++ [b]) (hT : H T = some (.lst tv)) (hx : Dp K H x (figsD ws)) :
    RdAt K H0 (upd H T (.lst (tv ++ [x]))) lL lP S A lines rest ⟨m.says, bs ++ [{ b with tests := b.tests ++ [ws] }]⟩ (cs ++ [(a, T)]) := by
  obtain ⟨sv, h1, h2⟩ := h.sv
  have nl := nl_upd (Y := tv ++ [x]) hT
  have hc : (a, T) ∈ cs ++ [(a, T)] := List.mem_append_right _ (List.mem_singleton.mpr rfl)
  obtain ⟨x1, x2⟩ := h.x4 _ hc
  have ar := h.arm
  rw [em] at ar
  obtain ⟨cs0, c, e, ar0, last⟩ := ar.unsnoc
  obtain ⟨e1, e2⟩ := List.append_inj' e rfl
  cases e1
  cases e2
  have lst := last_ne h.ndf h.nds
  obtain ⟨tv', u, q1, q2, q3, q4⟩ := last
  rw [hT] at q3
  cases q3
  refine ⟨same_upd h.s (h.frc _ hc).2, (upd_ne x2.1.symm).trans h.l, (upd_ne x2.2.1.symm).trans h.p, ⟨sv, (upd_ne x2.2.2.1.symm).trans h1, dp_nlAll nl _ (nol_says _) h2⟩, (upd_ne x2.2.2.2.symm).trans h.av, ?_, h.nd4, h.ndf, h.nds, h.x4, h.xx, h.fr4, h.frc⟩
  refine (ar0.imp fun d hd b' q => q.upd hT (h.xx d (List.mem_append_left _ hd) _ hc) (lst d hd).2).snoc ⟨tv ++ [x], u, (upd_ne (h.xx _ hc _ hc)).trans q1, dp_nl nl _ (nol_turn _) q2, upd_same, ?_⟩
  show DpAll K _ _ ((b.tests ++ [ws]).map figsD)
  rw [List.map_append]
  exact Pg.dp_snoc (dp_nl nl _ (nol_figs ws) hx) (dp_nlAll nl _ (Pg.nol_map nol_figs _) q4)
/-- the changes of the last branch -/
theorem RdAt.turn {a T : Addr} {x : V} {bs : List RArm} {b : RArm} {X : List Str} (h : RdAt K H0 H lL lP S A lines rest m (cs ++ [(a, T)])) (em : m.arms = bs ++ [b]) (hx : Dp K H x (turnD (some X))) :
    RdAt K H0 (upd H a (.lst [.str b.src, .str b.tgt, .ref T, x])) lL lP S A lines rest ⟨m.says, bs ++ [{ b with turn := some X }]⟩ (cs ++ [(a, T)]) := by
  obtain ⟨sv, h1, h2⟩ := h.sv
  have hc : (a, T) ∈ cs ++ [(a, T)] := List.mem_append_right _ (List.mem_singleton.mpr rfl)
  obtain ⟨x1, x2⟩ := h.x4 _ hc
  have ar := h.arm
  rw [em] at ar
  obtain ⟨cs0, c, e, ar0, last⟩ := ar.unsnoc
  obtain ⟨e1, e2⟩ := List.append_inj' e rfl
  cases e1
  cases e2
  have lst := last_ne h.ndf h.nds
  obtain ⟨tv', u, q1, q2, q3, q4⟩ := last
  have nl := nl_upd (Y := [.str b.src, .str b.tgt, .ref T, x]) q1
  refine ⟨same_upd h.s (h.frc _ hc).1, (upd_ne x1.1.symm).trans h.l, (upd_ne x1.2.1.symm).trans h.p, ⟨sv, (upd_ne x1.2.2.1.symm).trans h1, dp_nlAll nl _ (nol_says _) h2⟩, (upd_ne x1.2.2.2.symm).trans h.av, ?_, h.nd4, h.ndf, h.nds, h.x4, h.xx, h.fr4, h.frc⟩
  exact (ar0.imp fun d hd b' q => q.upd q1 (lst d hd).1 (fun z => h.xx _ hc _ (List.mem_append_left _ hd) z.symm)).snoc ⟨tv', x, upd_same, dp_nl nl _ (nol_turn _) hx, (upd_ne (h.xx _ hc _ hc).symm).trans q3, dp_nlAll nl _ (Pg.nol_map nol_figs _) q4⟩
end
end K5
set_option Elab.async false
set_option linter.all false
set_option maxRecDepth 100000
set_option maxHeartbeats 8000000
namespace Pg
open PySem PySem.Spec PyProof.Rows L2 Gd Rl Te Nu TL
theorem foldW_take {ls : List Str} {j : Nat} {l : Str} (e : ls[j]? = some l) : foldW (ls.take (j + 1)) = (foldW (ls.take j)).bind fun m => stepW m (Txt.split l " ") := by
  rw [List.take_add_one, e]
  exact foldW_snoc _ _
theorem foldW_none {ls : List Str} {j : Nat} (h : foldW (ls.take j) = none) : foldW ls = none := by
  have e : ls = ls.take j ++ ls.drop j := (List.take_append_drop ..).symm
  rw [e]
  unfold foldW at h ⊢
  rw [List.foldl_append, h, bind_none]
/-- a line that is none ends it -/
theorem no_text {t l0 l : Str} {ls : List Str} {j : Nat} {m : Rm} (et : Txt.split t "\n" = l0 :: ls) (hf : foldW (ls.take j) = some m) (el : ls[j]? = some l) (hn : stepW m (Txt.split l " ") = none) : ∀ ns ss as, OkP ns ss as → t ≠ textS ns ss as := fun ns ss as ok e => by
  obtain ⟨ls', e1, e2⟩ := text_read ok
  rw [← e, et] at e1
  have e3 : ls = ls' := (List.cons.inj e1).2
  rw [← e3, foldW_none (j := j + 1) (by rw [foldW_take el, hf]; exact hn)] at e2
  cases e2
/-! ### the first line -/
theorem cut_five (z : Str) : tl (cutS z none (some 5)) = (tl z).take 5 := by
  unfold cutS
  show (z.cps.toList.drop (HT.sIx z.length 0 none)).take (HT.sIx z.length z.length (some ((5 : Nat) : Int)) - HT.sIx z.length 0 none) = _
  rw [HT.sIx_none, HT.sIx_nat, List.drop_zero, Nat.sub_zero]
  have e : z.length = z.cps.toList.length := len_tl z
  rw [e]
  show _ = z.cps.toList.take 5
  by_cases h : 5 ≤ z.cps.toList.length
  · rw [Nat.min_eq_left h]
  · rw [Nat.min_eq_right (by omega), List.take_length, List.take_of_length_le (by omega)]
theorem cut_more (z : Str) : tl (cutS z (some 5) none) = (tl z).drop 5 := by
  unfold cutS
  show (z.cps.toList.drop (HT.sIx z.length 0 (some ((5 : Nat) : Int)))).take (HT.sIx z.length z.length none - HT.sIx z.length 0 (some ((5 : Nat) : Int))) = _
  rw [HT.sIx_none, HT.sIx_nat]
  have e : z.length = z.cps.toList.length := len_tl z
  rw [e]
  show _ = z.cps.toList.drop 5
  by_cases h : 5 ≤ z.cps.toList.length
  · rw [Nat.min_eq_left h]
    refine List.take_of_length_le ?_
    rw [List.length_drop]
    omega
  · rw [Nat.min_eq_right (by omega), List.drop_length, List.drop_of_length_le (by omega)]
    exact List.take_nil
def headW (l0 : Str) : List Str := Txt.split (cutS l0 (some 5) none) " "
theorem e5 : tl ("vars " : Str) = tl ("vars" : Str) ++ tl (" " : Str) := by decide +kernel
theorem head_line {l0 : Str} (h : cutS l0 none (some 5) = ("vars " : Str)) : l0 = lineV (headW l0) := by
  unfold lineV headW
  have hne : Txt.split (cutS l0 (some 5) none) " " ≠ [] := split_ne y1 y2
  rw [eW0 _ _ hne, join_split]
  refine tl_inj ?_
  rw [tl_append, tl_append, cut_more, ← e5, ← h, cut_five, List.take_append_drop]
theorem line_head {ns : List Str} (ok : OkN ns) : cutS (lineV ns) none (some 5) = ("vars " : Str) ∧ headW (lineV ns) = ns := by
  have hne : ns ≠ [] := fun e => by
    have := ok.one
    rw [e] at this
    simp at this
  have e : tl (lineV ns) = tl ("vars " : Str) ++ tl (Txt.join " " ns) := by
    unfold lineV
    rw [eW0 _ _ hne, tl_append, tl_append, e5]
  have e0 : (tl ("vars " : Str)).length = 5 := by decide +kernel
  constructor
  · refine tl_inj ?_
    rw [cut_five, e, List.take_append_of_le_length (by omega), List.take_of_length_le (by omega)]
  · unfold headW
    have : cutS (lineV ns) (some 5) none = Txt.join " " ns := by
      refine tl_inj ?_
      rw [cut_more, e, List.drop_append_of_le_length (by omega), List.drop_of_length_le (by omega), List.nil_append]
    rw [this, names_split ok]
/-! ### how much is read -/
structure ArmZW (j : Nat) (a : RArm) : Prop where
  s : a.src.length ≤ 570
  t : a.tgt.length ≤ 570
  n : a.tests.length ≤ j
  ts : ∀ ws ∈ a.tests, ws.length ≤ 981
  tu : ∀ X, a.turn = some X → (turnsW X).length ≤ 981 ∧ ∀ ws ∈ turnsW X, ws.length ≤ 981
structure MzW (j : Nat) (m : Rm) : Prop where
  n : m.says.length ≤ j
  k : m.arms.length ≤ j
  sy : ∀ s ∈ m.says, s.1.length ≤ 570 ∧ s.2.length ≤ 981
  ar : ∀ a ∈ m.arms, ArmZW j a
theorem ArmZW.mono {j : Nat} {a : RArm} (h : ArmZW j a) : ArmZW (j + 1) a := ⟨h.s, h.t, Nat.le_succ_of_le h.n, h.ts, h.tu⟩
theorem LineW.few {l : Str} (h : LineW l) : (Txt.split l " ").length ≤ 981 := by
  have := split_few (x := l) y1 y2
  have := h.z
  omega
theorem LineW.turns {l : Str} (h : LineW l) : (turnsW ((Txt.split l " ").drop 1)).length ≤ 981 ∧ ∀ ws ∈ turnsW ((Txt.split l " ").drop 1), ws.length ≤ 981 := by
  have i := inf_len (inf_tail l)
  have z := h.z
  unfold turnsW
  constructor
  · rw [List.length_map]
    have := split_few (x := Txt.join " " ((Txt.split l " ").drop 1)) y3 y4
    omega
  · intro ws hw
    obtain ⟨p, hp, rfl⟩ := List.mem_map.mp hw
    have := split_few (x := p) y1 y2
    have := inf_len (inf_part hp)
    omega
theorem mzW_step {j : Nat} {m m' : Rm} {l : Str} (h : MzW j m) (hl : LineW l) (e : stepW m (Txt.split l " ") = some m') : MzW (j + 1) m' := by
  have few := hl.few
  have tur := hl.turns
  have word : ∀ i, i < (Txt.split l " ").length → ((Txt.split l " ").getD i "").length ≤ 570 := fun i hi => by
    rw [List.getD_eq_getElem?_getD, List.getElem?_eq_getElem hi, Option.getD_some]
    exact hl.word (List.getElem_mem hi)
  unfold stepW at e
  split at e
  · rename_i c
    cases e
    refine ⟨by rw [List.length_append]; have := h.n; exact Nat.succ_le_succ this, Nat.le_succ_of_le h.k, fun s hs => ?_, fun a ha => (h.ar a ha).mono⟩
    rcases List.mem_append.mp hs with hs | hs
    · exact h.sy s hs
    · rw [List.mem_singleton.mp hs]
      exact ⟨word 1 c.2.2, by show (List.drop 2 _).length ≤ 981; rw [List.length_drop]; omega⟩
  · split at e
    · rename_i c
      cases e
      refine ⟨Nat.le_succ_of_le h.n, by rw [List.length_append]; exact Nat.succ_le_succ h.k, h.sy, fun a ha => ?_⟩
      rcases List.mem_append.mp ha with ha | ha
      · exact (h.ar a ha).mono
      · rw [List.mem_singleton.mp ha]
        exact ⟨word 1 (by omega), word 2 (by omega), Nat.zero_le _, (fun _ q => by cases q), (fun _ q => by cases q)⟩
    · split at e
      · rename_i c
        cases e
        obtain ⟨bs, b, eb, et⟩ := ended_some c.2
        have hk := h.k
        rw [eb] at hk
        have hb := h.ar b (by rw [eb]; exact List.mem_append_right _ (List.mem_singleton.mpr rfl))
        rw [eb, setLast_app]
        refine ⟨Nat.le_succ_of_le h.n, by rw [List.length_append] at hk ⊢; exact Nat.le_succ_of_le hk, h.sy, fun a ha => ?_⟩
        rcases List.mem_append.mp ha with ha | ha
        · exact (h.ar a (by rw [eb]; exact List.mem_append_left _ ha)).mono
        · rw [List.mem_singleton.mp ha]
          refine ⟨hb.s, hb.t, by rw [List.length_append]; exact Nat.succ_le_succ hb.n, fun ws hw => ?_, hb.tu⟩
          rcases List.mem_append.mp hw with hw | hw
          · exact hb.ts ws hw
          · rw [List.mem_singleton.mp hw, List.length_drop]
            omega
      · split at e
        · rename_i c
          cases e
          obtain ⟨bs, b, eb, et⟩ := ended_some c.2
          have hk := h.k
          rw [eb] at hk
          have hb := h.ar b (by rw [eb]; exact List.mem_append_right _ (List.mem_singleton.mpr rfl))
          rw [eb, setLast_app]
          refine ⟨Nat.le_succ_of_le h.n, by rw [List.length_append] at hk ⊢; exact Nat.le_succ_of_le hk, h.sy, fun a ha => ?_⟩
          rcases List.mem_append.mp ha with ha | ha
          · exact (h.ar a (by rw [eb]; exact List.mem_append_left _ ha)).mono
          · rw [List.mem_singleton.mp ha]
            exact ⟨hb.s, hb.t, Nat.le_succ_of_le hb.n, hb.ts, fun X q => by cases q; exact tur⟩
        · cases e
theorem okD_figs {ws : List Str} (h : ws.length ≤ 1000) : okD (figsD ws) = true := by
  unfold figsD
  rw [okD, ok_all fun d hd => by
    obtain ⟨w, _, rfl⟩ := List.mem_map.mp hd
    unfold figV
    split <;> simp only [okD], List.length_map, decide_eq_true h]
  rfl
theorem okD_tfigs {tss : List (List Str)} (h : tss.length ≤ 1000) (h2 : ∀ ws ∈ tss, ws.length ≤ 1000) : okD (.tuple (tss.map figsD)) = true := by
  rw [okD, ok_all fun d hd => by
    obtain ⟨w, hw, rfl⟩ := List.mem_map.mp hd
    exact okD_figs (h2 w hw), List.length_map, decide_eq_true h]
  rfl
theorem okD_saysW {j : Nat} (hj : j ≤ 990) {m : Rm} (h : MzW j m) : okD (.tuple (m.says.map sayW)) = true := by
  rw [okD, ok_all fun d hd => by
    obtain ⟨s, hs, rfl⟩ := List.mem_map.mp hd
    obtain ⟨k1, k2⟩ := h.sy s hs
    have q1 : okD (.str s.1) = true := decide_eq_true (by omega)
    unfold sayW
    rw [okD, okAll, okAll, okAll, q1, okD_figs (by omega)]
    rfl, List.length_map, decide_eq_true (by have := h.n; omega)]
  rfl
theorem okD_armsW {j : Nat} (hj : j ≤ 990) {m : Rm} (h : MzW j m) : okD (.tuple (m.arms.map armW)) = true := by
  rw [okD, ok_all fun d hd => by
    obtain ⟨a, ha, rfl⟩ := List.mem_map.mp hd
    have k := h.ar a ha
    have q1 : okD (.str a.src) = true := decide_eq_true (by have := k.s; omega)
    have q2 : okD (.str a.tgt) = true := decide_eq_true (by have := k.t; omega)
    have q3 : okD (turnD a.turn) = true := by
      cases e : a.turn with
      | none => rfl
      | some X =>
        obtain ⟨t1, t2⟩ := k.tu X e
        exact okD_tfigs (by omega) fun ws hw => by have := t2 ws hw; omega
    unfold armW
    rw [okD, okAll, okAll, okAll, okAll, okAll, q1, q2, q3, okD_tfigs (by have := k.n; omega) fun ws hw => by have := k.ts ws hw; omega]
    rfl, List.length_map, decide_eq_true (by have := h.k; omega)]
  rfl
theorem okD_namesW {l0 : Str} (h : LineW l0) : okD (namesD (headW l0)) = true := by
  have z : (cutS l0 (some 5) none).length ≤ 980 := Nat.le_trans (cutS_length _ _ _) h.z
  have f := split_few (x := cutS l0 (some 5) none) y1 y2
  unfold namesD
  rw [okD, ok_all fun d hd => by
    obtain ⟨s, hs, rfl⟩ := List.mem_map.mp hd
    have := split_each (x := cutS l0 (some 5) none) y1 y2 hs
    exact decide_eq_true (by omega), List.length_map, decide_eq_true (by show (Txt.split _ " ").length ≤ 1000; omega)]
  rfl
/-! ### what is told at the end -/
theorem names_inj {a b : List Str} (h : namesD a = namesD b) : a = b := by
  have h1 : a.map PyData.str = b.map PyData.str := PyData.tuple.inj h
  have : ∀ {a b : List Str}, a.map PyData.str = b.map PyData.str → a = b := by
    intro a
    induction a with
    | nil =>
      intro b h
      cases b with
      | nil => rfl
      | cons => cases h
    | cons x a ih =>
      intro b h
      cases b with
      | nil => cases h
      | cons y b =>
        rw [List.map_cons, List.map_cons] at h
        obtain ⟨h1, h2⟩ := List.cons.inj h
        rw [PyData.str.inj h1, ih h2]
  exact this h1
/-- if the text is right, all that is judged is right -/
theorem right_end {t l0 : Str} {ls : List Str} {m : Rm} {ns : List Str} {ss : List (Str × List Int)} {as : List Arm} (et : Txt.split t "\n" = l0 :: ls) (hf : foldW ls = some m) (ok : OkP ns ss as) (e : t = textS ns ss as) :
    cutS l0 none (some 5) = ("vars " : Str) ∧ m.arms ≠ [] ∧ headW l0 = ns ∧ PyData.tuple (m.says.map sayW) = saysD ss ∧ PyData.tuple (m.arms.map armW) = armsD as := by
  obtain ⟨ls', e1, e2⟩ := text_read ok
  rw [← e, et] at e1
  obtain ⟨a1, a2⟩ := List.cons.inj e1
  rw [← a2, hf] at e2
  cases e2
  obtain ⟨b1, b2⟩ := line_head ok.n
  rw [a1]
  refine ⟨b1, ?_, b2, ?_, ?_⟩
  · intro q
    have q2 := congrArg List.length q
    rw [List.length_map] at q2
    have := ok.a.one
    simp at q2
    rw [q2] at this
    simp at this
  · unfold saysD
    rw [List.map_map]
    congr 1
    exact List.map_congr_left fun s hs => sayO_D ok.n.three (ok.s.sy s hs)
  · unfold armsD
    rw [List.map_map]
    congr 1
    exact List.map_congr_left fun a ha => armO_D ok.n.three ok.n.one (ok.a.arm a ha)
end Pg
set_option Elab.async false
set_option linter.all false
set_option maxRecDepth 100000
set_option maxHeartbeats 16000000
namespace K5
open PySem PySem.Spec PyProof.Rows L2 Gd Rl Vd TL
open Pg (top FnP Mo Arm namesD saysD armsD OkP OkN OkS OkA textS nolD nolAll iteDN iteDY Al2 RArm Rm sayW figsD turnD armW turnsW stepW foldW endedB setLast LineW ReadW headW okD sSp)
abbrev sRead : Stmt := top 61
/-- where the reader's defs stand -/
structure Rs (K : PySem.W.Frag) (mg : Str → Option Value) (fG fF fT fO fW fA fS fN fY fR : Addr) (dG dF dT dO dW dA dS dN dY dR : FuncData) : Prop where
  g : FnP K "_law_figure" sFig fG dG
  f : FnP K "_law_figures" sFigs fF dF
  t : FnP K "_law_is_tag" sTag fT dT
  o : FnP K "_law_is_form" sLform fO dO
  w : FnP K "_law_is_whole" sWhole fW dW
  a : FnP K "_law_is_arm" sArm fA dA
  s : FnP K "_law_spots" sSp fS dS
  n : FnP K "_law_wrong_tags" sWrongN fN dN
  y : FnP K "_law_wrong_says" sWrongS fY dY
  r : FnP K "_law_wrong_arms" sWrongA fR dR
  gg : mg "_law_figure" = some (.ref fG)
  gf : mg "_law_figures" = some (.ref fF)
  gt : mg "_law_is_tag" = some (.ref fT)
  go : mg "_law_is_form" = some (.ref fO)
  gw : mg "_law_is_whole" = some (.ref fW)
  ga : mg "_law_is_arm" = some (.ref fA)
  gs : mg "_law_spots" = some (.ref fS)
  gn : mg "_law_wrong_tags" = some (.ref fN)
  gy : mg "_law_wrong_says" = some (.ref fY)
  gr : mg "_law_wrong_arms" = some (.ref fR)
def spRead (K : PySem.W.Frag) : Sp := fun vs H Q _ => ∃ t : Str, vs = [.str t] ∧ ReadW t ∧
  (∀ ns ss as, t = textS ns ss as → OkP ns ss as → ∀ r u v z H', Same H H' → H' r = some (.lst [u, v, z]) → Dp K H' u (namesD ns) → Dp K H' v (saysD ss) → Dp K H' z (armsD as) → Q (.ref r) H') ∧
  ((∀ ns ss as, OkP ns ss as → t ≠ textS ns ss as) → ∀ r H', Same H H' → H' r = some (.lst []) → Q (.ref r) H')
theorem or_cut {ta tb : TE} {i : Nat} {u : TS} {D : Ends} {σ : L2.St} {H : Hp} (b : Bool) (h : ∀ R' : VK, (∀ H', Same H H' → R' (.bl b) H') → tOrV ta tb σ H R') (k : ∀ H', Same H H' → u D (σ.set i (some (.bl b))) H') : tSeq (tAsg (tOrV ta tb) (gName i)) u D σ H := h (fun v H' => u D (σ.set i (some v)) H') k
theorem if_cut {c : TT} {a b : TS} {D : Ends} {σ : L2.St} {H : Hp} (ok : Bool) (h : ∀ Kk : Bool → Hp → Prop, (∀ H', Same H H' → Kk ok H') → c σ H Kk) (kT : ok = true → ∀ H', Same H H' → a D σ H') (kE : ok = false → ∀ H', Same H H' → b D σ H') : tIfS c a b D σ H := h _ fun H' s => by
  cases ok with
  | true => exact iteT (kT rfl H' s)
  | false => exact iteF (kE rfl H' s)
theorem arms_nil {K : PySem.W.Frag} {H : Hp} {cs : List (Addr × Addr)} {as : List RArm} (h : Al2 (ArmAt K H) cs as) : (cs.map fun c => V.ref c.1).isEmpty = decide (as = []) := by
  cases h with
  | nil => rfl
  | cons _ _ => rfl
theorem turn_empty {t : Option (List Str)} {ds : List PyData} {us : List V} (h : turnD t = .tuple ds) (hl : us.length = ds.length) : (!us.isEmpty) = t.isSome := by
  cases t with
  | none =>
    have : ds = [] := (PyData.tuple.inj h).symm
    rw [this] at hl
    rw [List.length_eq_zero_iff.mp hl]
    rfl
  | some X =>
    have e : ds = (turnsW X).map figsD := (PyData.tuple.inj h).symm
    have hne : turnsW X ≠ [] := fun q => by
      unfold Pg.turnsW at q
      exact Nu.split_ne Pg.y3 Pg.y4 (List.map_eq_nil_iff.mp q)
    cases us with
    | nil =>
      rw [e, List.length_map] at hl
      exact absurd (List.length_eq_zero_iff.mp hl.symm) hne
    | cons _ _ => rfl
theorem stepW_say {m : Rm} {h0 : Str} {ws : List Str} (c : V.str h0 = V.str "say" ∧ m.arms = [] ∧ 1 < (h0 :: ws).length) : stepW m (h0 :: ws) = some ⟨m.says ++ [((h0 :: ws).getD 1 "", (h0 :: ws).drop 2)], m.arms⟩ := by
  unfold Pg.stepW
  exact if_pos c
theorem stepW_branch {m : Rm} {h0 : Str} {ws : List Str} (n1 : ¬ (V.str h0 = V.str "say" ∧ m.arms = [] ∧ 1 < (h0 :: ws).length)) (c : V.str h0 = V.str "branch" ∧ endedB m.arms = true ∧ (h0 :: ws).length = 3) : stepW m (h0 :: ws) = some ⟨m.says, m.arms ++ [⟨(h0 :: ws).getD 1 "", (h0 :: ws).getD 2 "", [], none⟩]⟩ := by
  unfold Pg.stepW
  exact (if_neg n1).trans (if_pos c)
theorem stepW_test {m : Rm} {h0 : Str} {ws : List Str} (n1 : ¬ (V.str h0 = V.str "say" ∧ m.arms = [] ∧ 1 < (h0 :: ws).length)) (n2 : ¬ (V.str h0 = V.str "branch" ∧ endedB m.arms = true ∧ (h0 :: ws).length = 3)) (c : V.str h0 = V.str "test" ∧ endedB m.arms = false) {bs : List RArm} {b : RArm} (e : m.arms = bs ++ [b]) : stepW m (h0 :: ws) = some ⟨m.says, bs ++ [{ b with tests := b.tests ++ [ws] }]⟩ := by
  unfold Pg.stepW
  refine ((if_neg n1).trans ((if_neg n2).trans (if_pos c))).trans ?_
  rw [e, Pg.setLast_app]
  rfl
theorem stepW_then {m : Rm} {h0 : Str} {ws : List Str} (n1 : ¬ (V.str h0 = V.str "say" ∧ m.arms = [] ∧ 1 < (h0 :: ws).length)) (n2 : ¬ (V.str h0 = V.str "branch" ∧ endedB m.arms = true ∧ (h0 :: ws).length = 3)) (n3 : V.str h0 ≠ V.str "test") (c : V.str h0 = V.str "then" ∧ endedB m.arms = false) {bs : List RArm} {b : RArm} (e : m.arms = bs ++ [b]) : stepW m (h0 :: ws) = some ⟨m.says, bs ++ [{ b with turn := some ws }]⟩ := by
  unfold Pg.stepW
  refine ((if_neg n1).trans ((if_neg n2).trans ((if_neg fun q => n3 q.1).trans (if_pos c)))).trans ?_
  rw [e, Pg.setLast_app]
  rfl
theorem stepW_none {m : Rm} {h0 : Str} {ws : List Str} (n1 : ¬ (V.str h0 = V.str "say" ∧ m.arms = [] ∧ 1 < (h0 :: ws).length)) (n2 : ¬ (V.str h0 = V.str "branch" ∧ endedB m.arms = true ∧ (h0 :: ws).length = 3)) (n3 : ¬ ((V.str h0 = V.str "test" ∨ V.str h0 = V.str "then") ∧ endedB m.arms = false)) : stepW m (h0 :: ws) = none := by
  unfold Pg.stepW
  exact (if_neg n1).trans ((if_neg n2).trans ((if_neg fun q => n3 ⟨.inl q.1, q.2⟩).trans (if_neg fun q => n3 ⟨.inr q.1, q.2⟩)))
theorem in_two (h0 : Str) : inV (V.str h0) [V.str "test", V.str "then"] = decide (V.str h0 = V.str "test" ∨ V.str h0 = V.str "then") := by
  rw [show ([V.str "test", V.str "then"] : List V) = (["test", "then"] : List Str).map V.str from rfl, Pg.inV_strs, Bool.eq_iff_iff, decide_eq_true_iff, List.contains_iff_mem]
  simp
theorem nl_delL {H : Hp} {D : Addr} {xs : List V} (h : H D = some (.lst xs)) : Nl H (delH H D) := fun a o e t => by
  have : a ≠ D := fun q => by
    rw [q, h] at e
    cases e
    exact t _ rfl
  rw [delH_ne this]
  exact e
theorem dp_of_at {K : PySem.W.Frag} {H : Hp} {α : Type} {g : α → PyData} : ∀ {l : List α} {ys : List V}, ys.length = l.length → (∀ (i : Nat) (y : V), ys[i]? = some y → ∃ p : α, l[i]? = some p ∧ Dp K H y (g p)) → DpAll K H ys (l.map g)
  | [], ys, h, _ => by
    rw [List.length_eq_zero_iff.mp h]
    exact .nil
  | p :: l, [], h, _ => by cases h
  | p :: l, y :: ys, h, e => by
    obtain ⟨p', e1, e2⟩ := e 0 y rfl
    cases e1
    exact .cons e2 (dp_of_at (Nat.succ.inj h) fun i z ez => e (i + 1) z ez)
theorem wrong_is {H : Hp} {l : Addr} : ∀ {o : Option (Option Nat)}, WrongAt H l o → ∃ xs, H l = some (.lst xs) ∧ xs.isEmpty = o.isNone ∧ xs.length ≤ 1
  | none, h => ⟨[], h, rfl, by simp⟩
  | some o, h => ⟨_, h, rfl, by simp⟩
theorem f_inj : ∀ {a b : List Int}, a.map PyData.int = b.map PyData.int → a = b
  | [], [], _ => rfl
  | [], _ :: _, h => by cases h
  | _ :: _, [], h => by cases h
  | x :: a, y :: b, h => by
    rw [List.map_cons, List.map_cons] at h
    obtain ⟨h1, h2⟩ := List.cons.inj h
    rw [PyData.int.inj h1, f_inj h2]
theorem says_inj' : ∀ {a b : List (Str × List Int)}, a.map Pg.sayD = b.map Pg.sayD → a = b
  | [], [], _ => rfl
  | [], _ :: _, h => by cases h
  | _ :: _, [], h => by cases h
  | (p, f) :: a, (q, g) :: b, h => by
    rw [List.map_cons, List.map_cons] at h
    obtain ⟨h1, h2⟩ := List.cons.inj h
    obtain ⟨h3, h4⟩ := List.cons.inj (PyData.tuple.inj h1)
    obtain ⟨h5, _⟩ := List.cons.inj h4
    have e1 : p = q := PyData.str.inj h3
    have e2 : f = g := f_inj (PyData.tuple.inj h5)
    rw [e1, e2, says_inj' h2]
theorem says_inj {a b : List (Str × List Int)} (h : saysD a = saysD b) : a = b := says_inj' (PyData.tuple.inj h)
theorem nol_armW (a : RArm) : nolD (armW a) = true := by
  unfold Pg.armW
  rw [nolD]
  have h : nolD (.tuple (a.tests.map figsD)) = true := by
    rw [nolD]
    exact Pg.nol_map nol_figs _
  simp only [nolAll, nol_turn, h]
  rfl
abbrev rTupOf (K : PySem.W.Frag) : List V → Hp → VK → Prop := fun xs H Q => ∃ p ys, xs = [V.ref p] ∧ ((SqL K H p ys ∧ ∀ l, H l = none → Q (V.ref l) (upd H l (HO.tup ys))) ∨ SqT K H p ys ∧ Q (V.ref p) H)
abbrev nRead : List Str := ["_law_said", "_law_lines_here", "_law_says", "_law_arms", "_law_each", "_law_words_here", "_law_ended", "_law_arm", "_law_part", "_law_found", "_law_a", "_law_b", "_law_c", "_law_d", "_law_size"]
theorem scRead : FnScope nRead ["_law_said"] (defScope sRead) := ⟨rfl, rfl, rfl, by decide +kernel, rfl, by decide +kernel, by decide +kernel⟩
theorem cutL_drop {xs : List V} {i : Nat} (h : i ≤ xs.length) : cutV xs (some (i : Int)) none = xs.drop i := Vd.cut_drop h
section
variable {P : Program} {w : World} {K : PySem.W.Frag} {mg : Str → Option Value} {base : Heap} {f : Addr} {fd : FuncData}
theorem ok_read {fG fF fT fO fW fA fS fN fY fR : Addr} {dG dF dT dO dW dA dS dN dY dR : FuncData} (F : FnP K "_law_read" sRead f fd) (T : Mo mg) (R : RangeB mg) (UA : mg "abs" = none) (D : Rs K mg fG fF fT fO fW fA fS fN fY fR dG dF dT dO dW dA dS dN dY dR) : FnOk P w K mg base CX0 5 f fd ["_law_said"] (spRead K) := by
  have GF : FnOk P w K mg base CX0 2 fF dF ["_law_words_here"] (spFigs K) := ok_figs D.f T D.g D.gg
  have bF : Binds K dF ["_law_words_here"] [] := D.f.bindsN fun _ _ _ _ _ _ us hl => match us, hl with | [_], _ => rfl
  have GN : FnOk P w K mg base CX0 2 fN dN ["_law_value"] (spWrongN K) := ok_wrongN D.n T R D.t D.gt
  have bN : Binds K dN ["_law_value"] [] := D.n.bindsN fun _ _ _ _ _ _ us hl => match us, hl with | [_], _ => rfl
  have GY : FnOk P w K mg base CX0 3 fY dY ["_law_value", "_law_size"] (spWrongS K) := ok_wrongS D.y T R UA D.t D.gt D.o D.go D.w D.gw
  have bY : Binds K dY ["_law_value", "_law_size"] [] := D.y.bindsN fun _ _ _ _ _ _ us hl => match us, hl with | [_, _], _ => rfl
  have GR : FnOk P w K mg base CX0 4 fR dR ["_law_says", "_law_value", "_law_size"] (spWrongA K) := ok_wrongA D.r T R UA D.t D.gt D.o D.go D.w D.gw D.a D.ga D.s D.gs
  have bR : Binds K dR ["_law_says", "_law_value", "_law_size"] [] := D.r.bindsN fun _ _ _ _ _ _ us hl => match us, hl with | [_, _, _], _ => rfl
  refine F.ok scRead (fun vs H Q E h => ?_) (fun cdv A outer s H vs Q E hr h => ?_)
  · obtain ⟨t, rfl, _⟩ := h
    rfl
  · obtain ⟨t, rfl, hR, kY, kN⟩ := h
    have hr2 := hr.mono (show 2 ≤ 4 by decide)
    have hr3 := hr.mono (show 3 ≤ 4 by decide)
    refine ⟨_, PSs.nox <| pss_cons (ps_par3 (i := 1) (j := 2) (l := 3) (by rfl) scRead.nd rfl rfl rfl (by decide) (by decide) (by decide) rfl rfl rfl (pa_cons (pe_split (pv 0) pe_str) (pa_cons (pe_lstR pa_nil) (pa_cons (pe_lstR pa_nil) pa_nil))) (by rfl))
      <| pss_cons (ps_for PassesOwn.never rfl (pi_list (pe_slice (r := rSlL K) sl_list (pv 1) (po_some pe_int) po_none)) (pg_name (i := 4) scRead.nd rfl (.inl rfl))
          (pss_cons (ps_set (i := 5) scRead.nd rfl (.inl rfl) (pe_split (pv 4) pe_str))
          <| pss_cons (ps_set (i := 6) scRead.nd rfl (.inl rfl) (pe_or (pe_cmpR (op_eqE hr.units) (pv 3) (pe_lstR pa_nil) (nomark _)) (pe_one (pe_cmpR (op_neT hr.units) (pe_ix (r := rIxL K) ix_list (pe_ix (r := rIxL K) ix_list (pv 3) (pe_un un_neg pe_int) (fun _ _ => rfl)) pe_int (fun _ _ => rfl)) (pe_tupR pa_nil) (nomark _)))))
          <| pss_one (ps_if (PW.pt (pw_and (pt_cmpR op_eq (pe_ix (r := rIxL K) ix_list (pv 5) pe_int (fun _ _ => rfl)) pe_str (nomark _)) (pw_and (pt_cmpR (op_eqE hr.units) (pv 3) (pe_lstR pa_nil) (nomark _)) (pw_and1 (pt_cmpR op_gt (pe_callB call_len (by rfl) T.len PySem.boot_len (pa_cons (pv 5) pa_nil)) pe_int (nomark _))))))
              (pss_one (ps_expr (pe_bm PySem.F.plainAttrs_list PySem.F.slot_list_append PySem.F.type_list_append mt_append (pv 2) (pa_cons (pe_tupR (pa_cons (pe_ix (r := rIxL K) ix_list (pv 5) pe_int (fun _ _ => rfl)) (pa_cons (pe_call GF hr2 (by rfl) D.gf D.f.kp bF .nil pass0 (pa_cons (pe_slice (r := rSlL K) sl_list (pv 5) (po_some pe_int) po_none) pa_nil)) pa_nil))) pa_nil))))
              (pss_one (ps_if (PW.pt (pw_and (pt_cmpR op_eq (pe_ix (r := rIxL K) ix_list (pv 5) pe_int (fun _ _ => rfl)) pe_str (nomark _)) (pw_and (pt_val (pv 6)) (pw_and1 (pt_cmpR op_eq (pe_callB call_len (by rfl) T.len PySem.boot_len (pa_cons (pv 5) pa_nil)) pe_int (nomark _))))))
                (pss_one (ps_expr (pe_bm PySem.F.plainAttrs_list PySem.F.slot_list_append PySem.F.type_list_append mt_append (pv 3) (pa_cons (pe_lstR (pa_cons (pe_ix (r := rIxL K) ix_list (pv 5) pe_int (fun _ _ => rfl)) (pa_cons (pe_ix (r := rIxL K) ix_list (pv 5) pe_int (fun _ _ => rfl)) (pa_cons (pe_lstR pa_nil) (pa_cons (pe_tupR pa_nil) pa_nil))))) pa_nil))))
                (pss_one (ps_if (PW.pt (pw_and (pt_cmpR (r := rIn K false) op_in_seq (pe_ix (r := rIxL K) ix_list (pv 5) pe_int (fun _ _ => rfl)) (pe_lstR (pa_cons pe_str (pa_cons pe_str pa_nil))) (by rfl)) (pw_and1 (pt_not (pt_val (pv 6))))))
                  (pss_cons (ps_set (i := 7) scRead.nd rfl (.inl rfl) (pe_ix (r := rIxL K) ix_list (pv 3) (pe_un un_neg pe_int) (fun _ _ => rfl)))
                  <| pss_one (ps_if (pt_cmpR op_eq (pe_ix (r := rIxL K) ix_list (pv 5) pe_int (fun _ _ => rfl)) pe_str (nomark _))
                      (pss_one (ps_expr (pe_bm PySem.F.plainAttrs_list PySem.F.slot_list_append PySem.F.type_list_append mt_append (pe_ix (r := rIxL K) ix_list (pv 7) pe_int (fun _ _ => rfl)) (pa_cons (pe_call GF hr2 (by rfl) D.gf D.f.kp bF .nil pass0 (pa_cons (pe_slice (r := rSlL K) sl_list (pv 5) (po_some pe_int) po_none) pa_nil)) pa_nil))))
                      (pss_one (ps_asg (pe_callTy call_tuple_of (by rfl) T.tuple (by decide +kernel) (pa_cons (pe_lc (own := [("_law_part", 8)]) (g := gName 8) (tt := tYes) rfl scRead.nd (pi_list (pe_split (pe_join pe_str (pe_slice (r := rSlL K) sl_list (pv 5) (po_some pe_int) po_none)) pe_str)) (blkOk_by (N := nRead) (sc := defScope sRead) (by decide +kernel)) (fun _ _ _ _ _ => pg_name (i := 8) scRead.nd rfl (Or.inl rfl)) (fun _ _ _ _ _ => pts_nil)
                          (fun _ _ _ _ _ => pe_call GF hr2 (by rfl) D.gf D.f.kp bF .nil pass0 (pa_cons (pe_split (pv 8) pe_str) pa_nil))) pa_nil)) (pg_sub (pv 7) pe_int set_list)))))
                  (pss_one (ps_ret (pe_lstR pa_nil))))))))))
      <| pss_cons (ps_if (PW.pt (pw_or (pt_cmpR (op_eqE hr.units) (pv 3) (pe_lstR pa_nil) (nomark _)) (pw_or1 (pt_cmpR op_ne (pe_slice (r := rSlS) sl_str (pe_ix (r := rIxL K) ix_list (pv 1) pe_int (fun _ _ => rfl)) po_none (po_some pe_int)) pe_str (nomark _))))) (pss_one (ps_ret (pe_lstR pa_nil))) pss_nil)
      <| pss_cons (ps_set (i := 9) scRead.nd rfl (.inl rfl) (pe_lstR (pa_cons (pe_callTy call_tuple_of (by rfl) T.tuple (by decide +kernel) (pa_cons (pe_split (pe_slice (r := rSlS) sl_str (pe_ix (r := rIxL K) ix_list (pv 1) pe_int (fun _ _ => rfl)) (po_some pe_int) po_none) pe_str) pa_nil))
          (pa_cons (pe_callTy call_tuple_of (by rfl) T.tuple (by decide +kernel) (pa_cons (pv 2) pa_nil))
          (pa_cons (pe_callTy call_tuple_of (by rfl) T.tuple (by decide +kernel) (pa_cons (pe_lc (own := [("_law_a", 10), ("_law_b", 11), ("_law_c", 12), ("_law_d", 13)]) (g := gUnl K 4 (gCons (gName 10) (gCons (gName 11) (gCons (gName 12) (gCons (gName 13) gNil))))) (tt := tYes) rfl scRead.nd (pi_list (pv 3)) (blkOk_by (N := nRead) (sc := defScope sRead) (by decide +kernel))
              (fun _ _ _ _ _ => pg_unl (by rfl) (pgs_cons (pg_name (i := 10) scRead.nd rfl (.inl rfl)) (pgs_cons (pg_name (i := 11) scRead.nd rfl (.inl rfl)) (pgs_cons (pg_name (i := 12) scRead.nd rfl (.inl rfl)) (pgs_cons (pg_name (i := 13) scRead.nd rfl (.inl rfl)) pgs_nil))))) (fun _ _ _ _ _ => pts_nil)
              (fun _ _ _ _ _ => pe_tupR (pa_cons (pv 10) (pa_cons (pv 11) (pa_cons (pe_callTy (T := "tuple") (r := rTupOf K) call_tuple_of (by rfl) T.tuple (by decide +kernel) (pa_cons (pv 12) pa_nil)) (pa_cons (pv 13) pa_nil)))))) pa_nil)) pa_nil)))))
      <| pss_cons (ps_set (i := 14) scRead.nd rfl (.inl rfl) (pe_callB call_len (by rfl) T.len PySem.boot_len (pa_cons (pe_ix (r := rIxL K) ix_list (pv 9) pe_int (fun _ _ => rfl)) pa_nil)))
      <| pss_cons (ps_if (pt_cmpR (op_neE hr.units) (pe_op op_catR (pe_call GN hr2 (by rfl) D.gn D.n.kp bN .nil pass0 (pa_cons (pe_ix (r := rIxL K) ix_list (pv 9) pe_int (fun _ _ => rfl)) pa_nil)) (pe_call GY hr3 (by rfl) D.gy D.y.kp bY .nil pass0 (pa_cons (pe_ix (r := rIxL K) ix_list (pv 9) pe_int (fun _ _ => rfl)) (pa_cons (pv 14) pa_nil)))) (pe_lstR pa_nil) (nomark _)) (pss_one (ps_ret (pe_lstR pa_nil))) pss_nil)
      <| pss_one (ps_ret (pe_ifExp (pt_cmpR (op_eqE hr.units) (pe_call GR hr (by rfl) D.gr D.r.kp bR .nil pass0 (pa_cons (pe_ix (r := rIxL K) ix_list (pv 9) pe_int (fun _ _ => rfl)) (pa_cons (pe_ix (r := rIxL K) ix_list (pv 9) pe_int (fun _ _ => rfl)) (pa_cons (pv 14) pa_nil)))) (pe_lstR pa_nil) (nomark _)) (pv 9) (pe_lstR pa_nil))), ?_⟩
    -- the lines
    refine ⟨_, rfl, ⟨_, rfl⟩, _, _, rfl, rfl, by decide +kernel, Pg.lt6 hR.r.z, fun lL nL => ?_⟩
    have hline : ∀ l ∈ Txt.split t "\n", LineW l := fun l hl => hR.line hl
    obtain ⟨l0, ls, et⟩ : ∃ l0 ls, Txt.split t "\n" = l0 :: ls := by
      cases e : Txt.split t "\n" with
      | nil => exact absurd e (Nu.split_ne (y := "\n") (by rw [Pg.eL]; simp) Pg.eL2)
      | cons a b => exact ⟨a, b, rfl⟩
    have nfew : ls.length ≤ 989 := by
      have := hR.r.n
      rw [et, List.length_cons] at this
      omega
    rw [et]
    have sL := same_new (o := .lst ((l0 :: ls).map V.str)) nL
    have hL : upd H lL (.lst ((l0 :: ls).map V.str)) lL = some (.lst ((l0 :: ls).map V.str)) := upd_same
    generalize upd H lL (.lst ((l0 :: ls).map V.str)) = H1 at sL hL ⊢
    refine ⟨(show 0 ≤ 1000 by decide), fun S H2 nS => ⟨(show 0 ≤ 1000 by decide), fun Ar H3 nA => ⟨_, _, _, rfl, ?_⟩⟩⟩
    have s13 := nS.2.2.trans nA.2.2
    have hL3 := s13 _ _ hL
    have hS3 := nA.2.2 _ _ nS.2.1
    have hA3 := nA.2.1
    have s03 := sL.trans s13
    have none0 : ∀ {y : Addr} {Ha : Hp}, Same H Ha → Ha y = none → H y = none := fun {y Ha} s n => by
      cases e : H y with
      | none => rfl
      | some o =>
        rw [s _ _ e] at n
        cases n
    have fS := none0 sL nS.1
    have fA := none0 (sL.trans nS.2.2) nA.1
    have nLS : lL ≠ S := ne_of_none hL nS.1
    have nLA : lL ≠ Ar := ne_of_none (nS.2.2 _ _ hL) nA.1
    have nSA : S ≠ Ar := ne_of_none nS.2.1 nA.1
    refine ⟨_, rfl, _, rfl, lL, _, rfl, SqL.of hL3, fun lP nP => ?_⟩
    have eC : cutV (List.map V.str (l0 :: ls)) (some 1) none = ls.map V.str := cutL_drop (i := 1) (by rw [List.map_cons, List.length_cons]; omega)
    rw [eC]
    have s34 := same_new (o := .lst (ls.map V.str)) nP
    have hP4 : upd H3 lP (.lst (ls.map V.str)) lP = some (.lst (ls.map V.str)) := upd_same
    have fP := none0 s03 nP
    have nPS : lP ≠ S := (ne_of_none hS3 nP).symm
    have nPA : lP ≠ Ar := (ne_of_none hA3 nP).symm
    generalize upd H3 lP (.lst (ls.map V.str)) = H4 at s34 hP4 ⊢
    have rd4 : RdAt K H H4 lL lP S Ar (l0 :: ls) ls ⟨[], []⟩ [] := ⟨s03.trans s34, s34 _ _ hL3, hP4, ⟨[], s34 _ _ hS3, .nil⟩, s34 _ _ hA3, .nil, ⟨nLS, nLA, nPS, nPA, nSA⟩, List.nodup_nil, List.nodup_nil, fun _ h => (by cases h), fun _ h => (by cases h), ⟨nL, fP, fS, fA⟩, fun _ h => (by cases h)⟩
    clear nS nA hS3 hA3 hL3 s13 s03 hL sL s34 hP4 nP fS fA fP nLS nLA nPS nPA nSA
    refine ⟨lP, rfl, ⟨_, SqL.of rd4.p⟩, for_list (K := K) (a := lP) (xs := ls.map V.str) (fun j σ H' => ∃ (m : Rm) (cs : List (Addr × Addr)) (x4 x5 x6 x7 : Option V), σ = [some (.str t), some (.ref lL), some (.ref S), some (.ref Ar), x4, x5, x6, x7, none, none, none, none, none, none, none] ∧ foldW (ls.take j) = some m ∧ Pg.MzW j m ∧ RdAt K H H' lL lP S Ar (l0 :: ls) ls m cs) ⟨_, _, _, _, _, _, rfl, rfl, ⟨Nat.le_refl _, Nat.le_refl _, (fun _ h => by cases h), (fun _ h => by cases h)⟩, rd4⟩ (fun j σ H' _ ⟨_, _, _, _, _, _, _, _, _, r⟩ => SqL.of r.p) ?_ ?_⟩
    · rintro j x σ H5 ex ⟨m, cs, x4, x5, x6, x7, rfl, hf, hm, rd⟩
      obtain ⟨l, el, rfl⟩ := Pg.strs_at ex
      have hj : j < ls.length := (List.getElem?_eq_some_iff.mp el).1
      have lw : LineW l := hline l (by rw [et]; exact List.mem_cons_of_mem _ (List.mem_of_getElem? el))
      obtain ⟨h0, ws, ews⟩ : ∃ h0 ws, Txt.split l " " = h0 :: ws := by
        cases e : Txt.split l " " with
        | nil => exact absurd e (Nu.split_ne Pg.y1 Pg.y2)
        | cons a b => exact ⟨a, b, rfl⟩
      have few := lw.few
      have word : ∀ x ∈ Txt.split l " ", x.length ≤ 570 := fun x hx => lw.word hx
      have stop : stepW m (Txt.split l " ") = none → ∀ r H', Same H5 H' → H' r = some (.lst []) → Q (.ref r) H' := fun hn r H' s' e => kN (Pg.no_text et hf el hn) r H' (rd.s.trans s') e
      have next : ∀ m', stepW m (Txt.split l " ") = some m' → foldW (ls.take (j + 1)) = some m' ∧ Pg.MzW (j + 1) m' := fun m' e => ⟨by rw [Pg.foldW_take el, hf]; exact e, Pg.mzW_step hm lw e⟩
      have tur := lw.turns
      have turn : ∀ p ∈ Txt.split (Txt.join " " ((Txt.split l " ").drop 1)) "; ", ∀ x ∈ Txt.split p " ", x.length ≤ 570 := fun p hp x hx => lw.turn hp hx
      have tz : (Txt.join " " ((Txt.split l " ").drop 1)).length ≤ 980 := Nat.le_trans (Pg.inf_len (Pg.inf_tail l)) lw.z
      refine ⟨_, rfl, ⟨_, rfl⟩, _, _, rfl, rfl, by decide +kernel, Pg.lt6 (by have := lw.z; omega), fun lW nW => ?_⟩
      rw [ews]
      rw [ews] at few word stop next tur turn tz
      have s6 := same_new (o := .lst ((h0 :: ws).map V.str)) nW
      have hW6 : upd H5 lW (.lst ((h0 :: ws).map V.str)) lW = some (.lst ((h0 :: ws).map V.str)) := upd_same
      generalize upd H5 lW (.lst ((h0 :: ws).map V.str)) = H6 at s6 hW6 ⊢
      have rd6 := rd.same s6
      -- ended
      dsimp only [gName]
      refine or_cut (endedB m.arms) (fun R' c => ?_) (fun H7 s7 => ?_)
      · refine ⟨_, rfl, (show 0 ≤ 1000 by decide), fun lE HE nE => ⟨Ar, lE, _, rfl, rfl, SqL.of (nE.2.2 _ _ rd6.av), SqL.of nE.2.1, ?_⟩⟩
        have rdE := rd6.same nE.2.2
        refine ⟨_, rfl, ?_⟩
        rw [arms_nil rdE.arm]
        rcases List.eq_nil_or_concat m.arms with e | ⟨bs, b, e⟩
        · rw [e] at c ⊢
          exact iteT (c HE nE.2.2)
        · have ar := rdE.arm
          rw [e, List.concat_eq_append] at ar
          obtain ⟨cs0, ⟨a, Tt⟩, ec, ar0, tv, u, q1, q2, q3, q4⟩ := ar.unsnoc
          have hav := rdE.av
          rw [ec, List.map_append] at hav
          refine iteDN (by rw [e]; simp) ?_
          obtain ⟨ds, eds⟩ : ∃ ds, turnD b.turn = .tuple ds := by
            cases b.turn with
            | none => exact ⟨_, rfl⟩
            | some X => exact ⟨_, rfl⟩
          rw [eds] at q2
          obtain ⟨ua, us, rfl, hua, hus⟩ := Pg.rp_tup (.inl q2)
          have lu := Pg.dp_len' hus
          refine ⟨_, rfl, _, rfl, Ar, _, -1, .ref a, rfl, rfl, SqL.of hav, atI_last _ _, a, _, 3, .ref ua, rfl, rfl, SqL.of q1, rfl, (show 0 ≤ 1000 by decide), fun lT HT nT => ⟨ua, lT, us, rfl, rfl, Same.seqT nT.2.2 hua, SqT.of nT.2.1, ?_⟩⟩
          rw [turn_empty eds lu]
          have := c HT (nE.2.2.trans nT.2.2)
          rw [e, List.concat_eq_append, Pg.ended_app] at this
          exact this
      have rd7 := rd6.same s7
      have hW7 := s7 _ _ hW6
      clear rd6 hW6
      have s57 := s6.trans s7
      -- a saying
      refine if_cut (decide (V.str h0 = V.str "say" ∧ m.arms = [] ∧ 1 < (h0 :: ws).length)) (fun Kk c => ?_) (fun ok H8 s8 => ?_) (fun no H8 s8 => ?_)
      · refine ⟨_, rfl, lW, _, 0, .str h0, rfl, rfl, SqL.of hW7, atI_nat (j := 0) rfl, rfl, _, rfl, ?_⟩
        by_cases e1 : V.str h0 = V.str "say"
        · refine iteDY e1 ?_
          refine ⟨_, rfl, (show 0 ≤ 1000 by decide), fun lE HE nE => ⟨Ar, lE, _, rfl, rfl, SqL.of (nE.2.2 _ _ rd7.av), SqL.of nE.2.1, _, rfl, ?_⟩⟩
          rw [arms_nil rd7.arm]
          by_cases ea : m.arms = []
          · refine iteDY ea ?_
            refine ⟨_, rfl, _, _, rfl, .inl ⟨_, SqL.of (nE.2.2 _ _ hW7), rfl⟩, _, _, rfl, rfl, _, rfl, ?_⟩
            refine Eq.mp (congrArg (fun b => Kk b HE) ?_) (c HE nE.2.2)
            rw [decide_eq_decide, List.length_map]
            exact ⟨fun q => by have := q.2.2; omega, fun q => ⟨e1, ea, by omega⟩⟩
          · refine iteDN ea ?_
            have := c HE nE.2.2
            rw [decide_eq_false (fun q => ea q.2.1)] at this
            exact this
        · refine iteDN e1 ?_
          have := c H7 (Same.refl _)
          rw [decide_eq_false (fun q => e1 q.1)] at this
          exact this
      · obtain ⟨e1, ea, e2⟩ := of_decide_eq_true ok
        obtain ⟨p, rs, rfl⟩ : ∃ p rs, ws = p :: rs := by
          cases ws with
          | nil => simp at e2
          | cons p rs => exact ⟨p, rs, rfl⟩
        obtain ⟨n1, n2⟩ := next _ (stepW_say ⟨e1, ea, e2⟩)
        have rd8 := rd7.same s8
        have hW8 := s8 _ _ hW7
        obtain ⟨sv, hsv, dsv⟩ := rd8.sv
        have lsv := Pg.dp_len' dsv
        rw [List.length_map] at lsv
        have msv := hm.n
        have eC2 : cutV (List.map V.str (h0 :: p :: rs)) (some 2) none = rs.map V.str := cutL_drop (i := 2) (by simp)
        refine ⟨_, rfl, .inl ⟨rfl, _, SqL.of hsv⟩, _, rfl, lW, _, 1, .str p, rfl, rfl, SqL.of hW8, atI_nat (j := 1) rfl, _, rfl, _, rfl, lW, _, rfl, SqL.of hW8, fun lX nX => ?_⟩
        have sX := same_new (o := .lst (cutV (List.map V.str (h0 :: p :: rs)) (some 2) none)) nX
        have hX : upd H8 lX (.lst (cutV (List.map V.str (h0 :: p :: rs)) (some 2) none)) lX = some (.lst (rs.map V.str)) := by rw [upd_same, eC2]
        generalize upd H8 lX (.lst (cutV (List.map V.str (h0 :: p :: rs)) (some 2) none)) = H9 at sX hX ⊢
        refine ⟨lX, rs, rfl, SqL.of hX, by simp at few; omega, fun z hz => word z (List.mem_cons_of_mem _ (List.mem_cons_of_mem _ hz)), fun v HX s9 hv => ⟨(show 2 ≤ 1000 by decide), fun q Hq nq => ?_⟩⟩
        have s8q := sX.trans (s9.trans nq.2.2)
        have hsq := s8q _ _ hsv
        refine ⟨S, _, _, rfl, rfl, hsq, small1000 (by omega), ?_⟩
        exact ⟨_, cs, _, _, _, _, rfl, n1, n2, (rd8.same s8q).say hsq (.tup (SqT.of nq.2.1) (.cons (.str _) (.cons (dp_same nq.2.2 _ hv) .nil)))⟩
      have no1 := of_decide_eq_false no
      have rd8 := rd7.same s8
      have hW8 := s8 _ _ hW7
      have s58 := s57.trans s8
      clear rd7 hW7 s57
      -- a branch
      refine if_cut (decide (V.str h0 = V.str "branch" ∧ endedB m.arms = true ∧ (h0 :: ws).length = 3)) (fun Kk c => ?_) (fun ok H9 s9 => ?_) (fun no H9 s9 => ?_)
      · refine ⟨_, rfl, lW, _, 0, .str h0, rfl, rfl, SqL.of hW8, atI_nat (j := 0) rfl, rfl, _, rfl, ?_⟩
        by_cases e1 : V.str h0 = V.str "branch"
        · refine iteDY e1 ?_
          refine ⟨_, rfl, _, rfl, ?_⟩
          cases ea : endedB m.arms with
          | true =>
            refine iteT ?_
            refine ⟨_, rfl, _, _, rfl, .inl ⟨_, SqL.of hW8, rfl⟩, rfl, _, rfl, ?_⟩
            refine Eq.mp (congrArg (fun b => Kk b H8) ?_) (c H8 (Same.refl _))
            rw [decide_eq_decide, List.length_map]
            exact ⟨fun q => by rw [q.2.2]; rfl, fun q => ⟨e1, ea, by have := V.int.inj q; omega⟩⟩
          | false =>
            refine iteF ?_
            have := c H8 (Same.refl _)
            rw [decide_eq_false (fun q => by have := q.2.1; rw [ea] at this; cases this)] at this
            exact this
        · refine iteDN e1 ?_
          have := c H8 (Same.refl _)
          rw [decide_eq_false (fun q => e1 q.1)] at this
          exact this
      · obtain ⟨e1, ea, e2⟩ := of_decide_eq_true ok
        obtain ⟨p, q0, rfl⟩ : ∃ p q0, ws = [p, q0] := by
          match ws, e2 with
          | [p, q0], _ => exact ⟨p, q0, rfl⟩
        obtain ⟨n1, n2⟩ := next _ (stepW_branch no1 ⟨e1, ea, e2⟩)
        have rd9 := rd8.same s9
        have hW9 := s9 _ _ hW8
        have lcs := rd9.arm.len
        have msv := hm.k
        refine ⟨_, rfl, .inl ⟨rfl, _, SqL.of rd9.av⟩, _, rfl, lW, _, 1, .str p, rfl, rfl, SqL.of hW9, atI_nat (j := 1) rfl, _, rfl, lW, _, 2, .str q0, rfl, rfl, SqL.of hW9, atI_nat (j := 2) rfl, (show 0 ≤ 1000 by decide), fun Tt HT nT => ⟨(show 0 ≤ 1000 by decide), fun U HU nU => ⟨(show 4 ≤ 1000 by decide), fun a Ha na => ?_⟩⟩⟩
        have s9a := nT.2.2.trans (nU.2.2.trans na.2.2)
        have n9a : H9 a = none := by
          cases e : H9 a with
          | none => rfl
          | some o =>
            have := (nT.2.2.trans nU.2.2) _ _ e
            rw [na.1] at this
            cases this
        have aT : a ≠ Tt := (ne_of_none (nU.2.2 _ _ nT.2.1) na.1).symm
        have hav := s9a _ _ rd9.av
        refine ⟨Ar, _, _, rfl, rfl, hav, small1000 (by rw [List.length_map]; omega), ?_⟩
        exact ⟨_, _, _, _, _, _, rfl, n1, n2, rd9.branch (b := ⟨p, q0, [], none⟩) s9a n9a nT.1 aT ⟨[], .ref U, na.2.1, .tup (SqT.of (na.2.2 _ _ nU.2.1)) .nil, (nU.2.2.trans na.2.2) _ _ nT.2.1, .nil⟩⟩
      have no2 := of_decide_eq_false no
      have rd9 := rd8.same s9
      have hW9 := s9 _ _ hW8
      have s59 := s58.trans s9
      clear rd8 hW8 s58
      -- a test, or what becomes
      refine if_cut (decide ((V.str h0 = V.str "test" ∨ V.str h0 = V.str "then") ∧ endedB m.arms = false)) (fun Kk c => ?_) (fun ok Ha sa => ?_) (fun no Ha sa => ?_)
      · refine ⟨_, rfl, lW, _, 0, .str h0, rfl, rfl, SqL.of hW9, atI_nat (j := 0) rfl, (show 2 ≤ 1000 by decide), fun lB HB nB => ?_⟩
        refine ⟨lB, _, rfl, .inl (SqL.of nB.2.1), rfl, Pg.flat_strs ["test", "then"], _, rfl, ?_⟩
        rw [if_neg Bool.false_ne_true, in_two]
        by_cases e1 : V.str h0 = V.str "test" ∨ V.str h0 = V.str "then"
        · refine iteDY e1 ?_
          refine ⟨_, rfl, _, rfl, ?_⟩
          refine Eq.mp (congrArg (fun b => Kk b HB) ?_) (c HB nB.2.2)
          cases ea : endedB m.arms with
          | true => exact decide_eq_false fun q => by cases q.2
          | false => exact decide_eq_true ⟨e1, rfl⟩
        · refine iteDN e1 ?_
          have := c HB nB.2.2
          rw [decide_eq_false (fun q => e1 q.1)] at this
          exact this
      · obtain ⟨e1, ea⟩ := of_decide_eq_true ok
        have rda := rd9.same sa
        have hWa := sa _ _ hW9
        obtain ⟨bs, b, eb, etn⟩ := Pg.ended_some ea
        have ar := rda.arm
        rw [eb] at ar
        obtain ⟨cs0, ⟨a, Tt⟩, ec, ar0, tv, u, q1, q2, q3, q4⟩ := ar.unsnoc
        subst ec
        have hav := rda.av
        rw [List.map_append] at hav
        have ltv := Pg.dp_len' q4
        rw [List.length_map] at ltv
        have mtv := (hm.ar b (by rw [eb]; exact List.mem_append_right _ (List.mem_singleton.mpr rfl))).n
        refine ⟨_, rfl, _, rfl, Ar, _, -1, .ref a, rfl, rfl, SqL.of hav, atI_last _ _, ?_⟩
        have eC1 : cutV (List.map V.str (h0 :: ws)) (some 1) none = ws.map V.str := cutL_drop (i := 1) (by simp)
        refine ⟨_, rfl, lW, _, 0, .str h0, rfl, rfl, SqL.of hWa, atI_nat (j := 0) rfl, rfl, _, rfl, ?_⟩
        by_cases e2 : V.str h0 = V.str "test"
        · refine iteDY e2 ?_
          obtain ⟨n1, n2⟩ := next _ (stepW_test no1 no2 ⟨e2, ea⟩ eb)
          refine ⟨_, rfl, a, _, 2, .ref Tt, rfl, rfl, SqL.of q1, rfl, .inl ⟨rfl, _, SqL.of q3⟩, _, rfl, _, rfl, lW, _, rfl, SqL.of hWa, fun lX nX => ?_⟩
          have sX := same_new (o := .lst (cutV (List.map V.str (h0 :: ws)) (some 1) none)) nX
          have hX : upd Ha lX (.lst (cutV (List.map V.str (h0 :: ws)) (some 1) none)) lX = some (.lst (ws.map V.str)) := by rw [upd_same, eC1]
          generalize upd Ha lX (.lst (cutV (List.map V.str (h0 :: ws)) (some 1) none)) = Hb at sX hX ⊢
          refine ⟨lX, ws, rfl, SqL.of hX, by simp at few; omega, fun z hz => word z (List.mem_cons_of_mem _ hz), fun v HX sb hv => ?_⟩
          have sab := sX.trans sb
          have q3' := sab _ _ q3
          refine ⟨Tt, _, _, rfl, rfl, q3', small1000 (by omega), ?_⟩
          exact ⟨_, _, _, _, _, _, rfl, n1, n2, (rda.same sab).test eb q3' hv⟩
        · refine iteDN e2 ?_
          have e3 := e1.resolve_left e2
          obtain ⟨n1, n2⟩ := next _ (stepW_then no1 no2 e2 ⟨e3, ea⟩ eb)
          replace tz : (Txt.join " " ws).length ≤ 980 := tz
          replace tur : (turnsW ws).length ≤ 981 ∧ ∀ x ∈ turnsW ws, x.length ≤ 981 := tur
          replace turn : ∀ p ∈ Txt.split (Txt.join " " ws) "; ", ∀ x ∈ Txt.split p " ", x.length ≤ 570 := turn
          have peach : ∀ p ∈ Txt.split (Txt.join " " ws) "; ", p.length ≤ 980 := fun p hp => Nat.le_trans (Pg.inf_len (Pg.inf_part hp)) tz
          have eT : turnsW ws = (Txt.split (Txt.join " " ws) "; ").map fun p => Txt.split p " " := rfl
          refine ⟨⟨_, rfl⟩, _, rfl, _, rfl, lW, _, rfl, SqL.of hWa, fun lX nX => ?_⟩
          have sX := same_new (o := .lst (cutV (List.map V.str (h0 :: ws)) (some 1) none)) nX
          have hX : upd Ha lX (.lst (cutV (List.map V.str (h0 :: ws)) (some 1) none)) lX = some (.lst (ws.map V.str)) := by rw [upd_same, eC1]
          generalize upd Ha lX (.lst (cutV (List.map V.str (h0 :: ws)) (some 1) none)) = Hb at sX hX ⊢
          have wsum : (ws.map (·.length)).sum + ws.length * (" " : Str).length ≤ 16777216 := by
            have h1 := Pg.sum_le (l := ws.map (·.length)) (b := 570) fun x hx => by
              obtain ⟨z, hz, rfl⟩ := List.mem_map.mp hx
              exact word z (List.mem_cons_of_mem _ hz)
            rw [List.length_map] at h1
            rw [show (" " : Str).length = 1 by decide +kernel]
            simp at few
            omega
          refine ⟨_, lX, ws, rfl, rfl, .inl (SqL.of hX), wsum, ⟨_, rfl⟩, _, _, rfl, rfl, by decide +kernel, Pg.lt6 (by omega), fun lS nS => ?_⟩
          generalize Txt.split (Txt.join " " ws) "; " = parts at turn peach eT nS ⊢
          have lp : parts.length ≤ 981 := by
            have := tur.1
            rw [eT, List.length_map] at this
            exact this
          have sS := same_new (o := .lst (parts.map V.str)) nS
          have hS : upd Hb lS (.lst (parts.map V.str)) lS = some (.lst (parts.map V.str)) := upd_same
          generalize upd Hb lS (.lst (parts.map V.str)) = Hc at sS hS ⊢
          refine ⟨lS, rfl, ⟨_, SqL.of hS⟩, lcR (walk_list (K := K) (xs := parts.map V.str)) (n1 := by rw [List.length_map]; omega) (fun H' s' => s'.seq (SqL.of hS)) (fun i y H' => ∃ p : Str, parts[i]? = some p ∧ Dp K H' y (figsD (Txt.split p " "))) (fun i y H' H'' s' ⟨p, e, d⟩ => ⟨p, e, dp_same s' _ d⟩) ?_ ?_⟩
          · rintro D acc j' x Hd He K2 hj' s' nD hD ⟨rfl, ex⟩ kk
            obtain ⟨p, ep, rfl⟩ := Pg.strs_at ex
            have mp := List.mem_of_getElem? ep
            have pf := Nu.split_few (x := p) Pg.y1 Pg.y2
            have pl := peach p mp
            refine ⟨rfl, _, rfl, ⟨_, rfl⟩, _, _, rfl, rfl, by decide +kernel, Pg.lt6 (by omega), fun lq nq => ⟨lq, Txt.split p " ", rfl, SqL.of upd_same, by omega, turn p mp, fun v Hf sf hv => ?_⟩⟩
            have sef := (same_new (o := .lst ((Txt.split p " ").map V.str)) nq).trans sf
            exact kk v Hf sef ⟨p, ep, dp_nl (nl_delL (sef _ _ hD)) _ (nol_figs _) hv⟩
          · rintro D Hd ys nw hlen he
            have dys : DpAll K Hd ys (parts.map fun p => figsD (Txt.split p " ")) := dp_of_at (by rw [hlen, List.length_map]) fun i y e => by
              obtain ⟨p, e1, e2⟩ := he i y e
              exact ⟨p, e1, dp_same same_to _ e2⟩
            refine ⟨D, _, rfl, .inl ⟨SqL.of nw.2.1, fun q nq => ?_⟩⟩
            have sq := same_new (o := .tup ys) nq
            have saq := sX.trans (sS.trans (nw.2.2.trans sq))
            have rdq := rda.same saq
            have hq : Dp K (upd Hd q (.tup ys)) (.ref q) (turnD (some ws)) := by
              show Dp K _ _ (.tuple ((turnsW ws).map figsD))
              rw [eT, List.map_map]
              exact .tup (SqT.of upd_same) (dp_sameAll sq _ dys)
            refine ⟨_, rfl, a, _, 3, 3, rfl, rfl, saq _ _ q1, rfl, ?_⟩
            exact ⟨_, _, _, _, _, _, rfl, n1, n2, rdq.turn eb hq⟩
      · refine ⟨(show 0 ≤ 1000 by decide), fun r Hr nr => stop (stepW_none no1 no2 (of_decide_eq_false no)) r Hr (s59.trans (sa.trans nr.2.2)) nr.2.1⟩
    · rintro σ H5 ⟨m, cs, x4, x5, x6, x7, rfl, hf, hm, rd⟩
      rw [List.length_map, List.take_length] at hf
      rw [List.length_map] at hm
      have lw0 : LineW l0 := hline l0 (by rw [et]; exact List.mem_cons_self ..)
      have bad : (∀ ns ss as, OkP ns ss as → t = textS ns ss as → False) → ∀ r H', Same H5 H' → H' r = some (.lst []) → Q (.ref r) H' := fun hn r H' s' e => kN (fun ns ss as ok e2 => hn ns ss as ok e2) r H' (rd.s.trans s') e
      have fin := fun ns ss as (ok : OkP ns ss as) (e : t = textS ns ss as) => Pg.right_end et hf ok e
      have oN := Pg.okD_namesW lw0
      have oS := Pg.okD_saysW (by omega) hm
      have oA := Pg.okD_armsW (by omega) hm
      have c9 : (cutS l0 (some 5) none).length ≤ 980 := Nat.le_trans (cutS_length _ _ _) lw0.z
      have eH : headW l0 = Txt.split (cutS l0 (some 5) none) " " := rfl
      have hfew : (headW l0).length ≤ 981 := by
        rw [eH]
        have := Nu.split_few (x := cutS l0 (some 5) none) Pg.y1 Pg.y2
        omega
      -- nothing at all
      dsimp only
      refine if_cut (D := Ends.mk _ _ _ _) (decide (m.arms = [] ∨ V.str (cutS l0 none (some 5)) ≠ V.str "vars ")) (fun Kk c => ?_) (fun ok H6 s6 => ?_) (fun no H6 s6 => ?_)
      · refine ⟨_, rfl, (show 0 ≤ 1000 by decide), fun lE HE nE => ⟨Ar, lE, _, rfl, rfl, SqL.of (nE.2.2 _ _ rd.av), SqL.of nE.2.1, _, rfl, ?_⟩⟩
        rw [arms_nil rd.arm]
        by_cases ea : m.arms = []
        · refine iteDY ea ?_
          have := c HE nE.2.2
          rw [decide_eq_true (.inl ea)] at this
          exact this
        · refine iteDN ea ?_
          refine ⟨_, rfl, lL, _, 0, .str l0, rfl, rfl, SqL.of (nE.2.2 _ _ rd.l), atI_nat (j := 0) rfl, _, rfl, l0, rfl, Nat.le_trans lw0.z (by decide), rfl, _, rfl, ?_⟩
          refine Eq.mp (congrArg (fun b => Kk b HE) ?_) (c HE nE.2.2)
          rw [← decide_not, decide_eq_decide]
          exact ⟨fun q => q.resolve_left ea, .inr⟩
      · refine ⟨(show 0 ≤ 1000 by decide), fun r Hr nr => bad (fun ns ss as okp e => ?_) r Hr (s6.trans nr.2.2) nr.2.1⟩
        obtain ⟨f1, f2, _⟩ := fin ns ss as okp e
        rcases of_decide_eq_true ok with q | q
        · exact f2 q
        · exact q (by rw [f1])
      have no1 := of_decide_eq_false no
      have ev : l0 = Pg.lineV (headW l0) := Pg.head_line (by
        by_cases q : V.str (cutS l0 none (some 5)) = V.str "vars "
        · exact V.str.inj q
        · exact absurd (.inr q) no1)
      have rd6 := rd.same s6
      -- what is found
      obtain ⟨sv, hsv, dsv⟩ := rd6.sv
      refine ⟨_, rfl, lL, _, 0, .str l0, rfl, rfl, SqL.of rd6.l, atI_nat (j := 0) rfl, _, rfl, l0, rfl, Nat.le_trans lw0.z (by decide), ⟨_, rfl⟩, _, _, rfl, rfl, by decide +kernel, Pg.lt6 (by omega), fun l1 n1 => ?_⟩
      rw [← eH]
      have s7 := same_new (o := .lst ((headW l0).map V.str)) n1
      have h7 : upd H6 l1 (.lst ((headW l0).map V.str)) l1 = some (.lst ((headW l0).map V.str)) := upd_same
      generalize upd H6 l1 (.lst ((headW l0).map V.str)) = H7 at s7 h7 ⊢
      refine ⟨l1, _, rfl, .inl ⟨SqL.of h7, fun q1 nq1 => ?_⟩⟩
      have s8 := same_new (o := .tup ((headW l0).map V.str)) nq1
      have hq8 : upd H7 q1 (.tup ((headW l0).map V.str)) q1 = some (.tup ((headW l0).map V.str)) := upd_same
      generalize upd H7 q1 (.tup ((headW l0).map V.str)) = H8 at s8 hq8 ⊢
      have s68 := s7.trans s8
      refine ⟨_, rfl, S, sv, rfl, .inl ⟨SqL.of (s68 _ _ hsv), fun q2 nq2 => ?_⟩⟩
      have s9 := same_new (o := .tup sv) nq2
      have hq9 : upd H8 q2 (.tup sv) q2 = some (.tup sv) := upd_same
      generalize upd H8 q2 (.tup sv) = H9 at s9 hq9 ⊢
      have s69 := s68.trans s9
      have rd9 := rd6.same s69
      have lcs := rd9.arm.len
      have mk := hm.k
      refine ⟨_, rfl, Ar, rfl, ⟨_, SqL.of rd9.av⟩, lcR (walk_list (K := K) (xs := cs.map fun c => V.ref c.1)) (n1 := by rw [List.length_map]; omega) (fun H' s' => s'.seq (SqL.of rd9.av)) (fun i y H' => ∃ a : RArm, m.arms[i]? = some a ∧ Dp K H' y (armW a)) (fun i y H' H'' s' ⟨p, e, d⟩ => ⟨p, e, dp_same s' _ d⟩) ?_ ?_⟩
      · rintro D acc j x Hd He K2 hj s' nD hD ⟨rfl, ex⟩ kk
        obtain ⟨c, ec, rfl⟩ : ∃ c, cs[j]? = some c ∧ x = V.ref c.1 := by
          rw [List.getElem?_map] at ex
          cases e : cs[j]? with
          | none =>
            rw [e] at ex
            cases ex
          | some c =>
            rw [e] at ex
            exact ⟨c, rfl, (Option.some.inj ex).symm⟩
        obtain ⟨a, ea, tv, u, q1', q2', q3', q4'⟩ := (rd9.same s').arm.at ec
        refine ⟨c.1, _, rfl, SqL.of q1', rfl, _, _, rfl, _, _, rfl, _, _, rfl, _, _, rfl, rfl, rfl, _, rfl, _, rfl, _, rfl, c.2, tv, rfl, .inl ⟨SqL.of q3', fun qt nqt => ⟨_, rfl, (show 4 ≤ 1000 by decide), fun q Hq nq => ?_⟩⟩⟩
        have st := (same_new (o := .tup tv) nqt).trans nq.2.2
        refine kk _ Hq st ⟨a, ea, dp_nl (nl_delL (st _ _ hD)) _ (nol_armW a) ?_⟩
        exact .tup (SqT.of nq.2.1) (.cons (.str _) (.cons (.str _) (.cons (.tup (SqT.of (nq.2.2 _ _ upd_same)) (dp_sameAll st _ q4')) (.cons (dp_same st _ q2') .nil))))
      rintro D H10 ys nw hlen he
      have dys : DpAll K H10 ys (m.arms.map armW) := dp_of_at (by rw [hlen, List.length_map, lcs]) fun i y e => by
        obtain ⟨p, e1, e2⟩ := he i y e
        exact ⟨p, e1, dp_same same_to _ e2⟩
      refine ⟨D, _, rfl, .inl ⟨SqL.of nw.2.1, fun q3 nq3 => ⟨(show 3 ≤ 1000 by decide), fun r Hr nr => ?_⟩⟩⟩
      have sr := (same_new (o := .tup ys) nq3).trans nr.2.2
      have s9r := nw.2.2.trans sr
      have d1 : Dp K Hr (.ref q1) (namesD (headW l0)) := Pg.dp_names (SqT.of (s9r _ _ (s9 _ _ hq8)))
      have t1 := SqT.of (K := K) (s9r _ _ (s9 _ _ hq8))
      have d2 : Dp K Hr (.ref q2) (.tuple (m.says.map sayW)) := .tup (SqT.of (s9r _ _ hq9)) (dp_sameAll (s69.trans s9r) _ dsv)
      have d3 : Dp K Hr (.ref q3) (.tuple (m.arms.map armW)) := .tup (SqT.of (nr.2.2 _ _ upd_same)) (dp_sameAll sr _ dys)
      have hr9 := nr.2.1
      have s5r := s6.trans (s69.trans s9r)
      clear nw dys he nq3 nr sr s9r hq9 s9 s69 rd9 hq8 s8 s68 h7 s7 n1 nq1 nq2 hsv dsv rd6 hlen
      refine ⟨_, rfl, r, _, 0, .ref q1, rfl, rfl, SqL.of hr9, rfl, _, _, rfl, .inr ⟨_, t1, rfl⟩, ?_⟩
      rw [List.length_map]
      -- what is wrong with it
      dsimp only [gName]
      refine if_cut (D := Ends.mk _ _ _ _) (decide (¬ (Pg.wrongN (namesD (headW l0)) = none ∧ Pg.wrongS (headW l0).length (.tuple (m.says.map sayW)) = none))) (fun Kk c => ?_) (fun ok Hs ss => ?_) (fun no Hs ss => ?_)
      · refine ⟨_, rfl, r, _, 0, .ref q1, rfl, rfl, SqL.of hr9, rfl, .ref q1, _, rfl, vp_dp _ d1, oN, fun la Ha sa wa => ?_⟩
        refine ⟨_, rfl, r, _, 1, .ref q2, rfl, rfl, SqL.of (sa _ _ hr9), rfl, _, rfl, .ref q2, _, (headW l0).length, rfl, vp_dp _ (dp_same sa _ d2), oS, fun lb Hb sb wb => ?_⟩
        obtain ⟨xa, ea, ia, la1⟩ := wrong_is wa
        obtain ⟨xb, eb, ib, lb1⟩ := wrong_is wb
        refine ⟨la, lb, xa, xb, rfl, rfl, sb _ _ ea, eb, by omega, fun lc Hc nc => ⟨(show 0 ≤ 1000 by decide), fun le He ne => ⟨lc, le, xa ++ xb, rfl, rfl, SqL.of (ne.2.2 _ _ nc.2.1), SqL.of ne.2.1, _, rfl, ?_⟩⟩⟩
        refine Eq.mp (congrArg (fun b => Kk b He) ?_) (c He (sa.trans (sb.trans (nc.2.2.trans ne.2.2))))
        have e1 : (xa ++ xb).isEmpty = (xa.isEmpty && xb.isEmpty) := by cases xa <;> rfl
        rw [e1, ia, ib]
        cases Pg.wrongN (namesD (headW l0)) <;> cases Pg.wrongS (headW l0).length (.tuple (m.says.map sayW)) <;> simp
      · refine ⟨(show 0 ≤ 1000 by decide), fun r' Hr' nr' => bad (fun ns ss' as okp e => ?_) r' Hr' (s5r.trans (ss.trans nr'.2.2)) nr'.2.1⟩
        obtain ⟨f1, f2, f3, f4, f5⟩ := fin ns ss' as okp e
        refine of_decide_eq_true ok ⟨?_, ?_⟩
        · rw [f3]
          exact Pg.names_right okp.n
        · rw [f3, f4]
          exact Pg.says_right okp.s
      obtain ⟨wn, ws⟩ : Pg.wrongN (namesD (headW l0)) = none ∧ Pg.wrongS (headW l0).length (.tuple (m.says.map sayW)) = none := Decidable.of_not_not (of_decide_eq_false no)
      obtain ⟨ns', en, okn⟩ := Pg.right_names wn
      have en2 := Pg.names_inj en
      subst en2
      obtain ⟨sy, es, oks⟩ := Pg.right_says ws
      have d2s := d2
      rw [es] at d2
      refine ⟨_, rfl, r, _, 1, .ref q2, rfl, rfl, SqL.of (ss _ _ hr9), rfl, _, rfl, r, _, 2, .ref q3, rfl, rfl, SqL.of (ss _ _ hr9), rfl, _, rfl, .ref q2, .ref q3, _, (headW l0).length, sy, rfl, by have := okn.three; omega, dp_same ss _ d2, oks.three, vp_dp _ (dp_same ss _ d3), oA, fun la Ha sa wa => ?_⟩
      obtain ⟨xa, ea, ia, la1⟩ := wrong_is wa
      refine ⟨(show 0 ≤ 1000 by decide), fun le He ne => ⟨la, le, xa, rfl, rfl, SqL.of (ne.2.2 _ _ ea), SqL.of ne.2.1, _, rfl, ?_⟩⟩
      have sse := ss.trans (sa.trans ne.2.2)
      cases hA : Pg.wrongA (headW l0).length sy (.tuple (m.arms.map armW)) with
      | none =>
        obtain ⟨as, eas, oka⟩ := Pg.right_arms hA
        refine Pg.iteBT (by rw [ia, hA]; rfl) ?_
        refine ⟨_, rfl, kY (headW l0) sy as (Pg.read_text et ev hf okn es oks eas oka) ⟨okn, oks, oka⟩ r _ _ _ He ((rd.s.trans s5r).trans sse) (sse _ _ hr9) (dp_same sse _ d1) (dp_same sse _ d2) (by rw [← eas]; exact dp_same sse _ d3)⟩
      | some o =>
        refine Pg.iteBF (by rw [ia, hA]; rfl) ?_
        refine ⟨(show 0 ≤ 1000 by decide), fun r' Hr' nr' => bad (fun ns ss' as okp e => ?_) r' Hr' (s5r.trans (sse.trans nr'.2.2)) nr'.2.1⟩
        obtain ⟨f1, f2, f3, f4, f5⟩ := fin ns ss' as okp e
        rw [f4] at es
        rw [f3, f5, ← says_inj es, Pg.arms_right okp.a] at hA
        cases hA
end
end K5
set_option Elab.async false
set_option linter.all false
set_option maxRecDepth 100000
set_option maxHeartbeats 8000000
namespace Pg
open PySem PySem.Spec PyProof.Rows L2 Gd Rl Te Nu TL Vd Sz
/-! ### how far a text can be bent -/
def Lin (L : Nat) (l : List Nat) : Prop := ∀ b, b <:+: l → 10 ∉ b → b.length ≤ L
structure Bx (M L N : Nat) (l : List Nat) : Prop where
  run : Run M l
  lin : Lin L l
  cnt : l.count 10 ≤ N
  asc : ∀ c ∈ l, c < 128
theorem Bx.mono {M M' L L' N N' : Nat} {l : List Nat} (h : Bx M L N l) (a : M ≤ M') (b : L ≤ L') (c : N ≤ N') : Bx M' L' N' l :=
  ⟨h.run.mono a, fun x i n => Nat.le_trans (h.lin x i n) b, Nat.le_trans h.cnt c, h.asc⟩
theorem Bx.inf {M L N : Nat} {l l' : List Nat} (h : Bx M L N l) (i : l' <:+: l) : Bx M L N l' :=
  ⟨h.run.inf i, fun x j n => h.lin x (j.trans i) n, Nat.le_trans (List.Sublist.count_le _ i.sublist) h.cnt, fun c hc => h.asc c (i.subset hc)⟩
theorem Bx.short {k : Nat} {l : List Nat} (h : l.length ≤ k) (a : ∀ c ∈ l, c < 128) : Bx k k k l :=
  ⟨fun b i _ _ => Nat.le_trans i.length_le h, fun b i _ => Nat.le_trans i.length_le h, Nat.le_trans List.count_le_length h, a⟩
/-- what stands within two parts -/
theorem inf_two {b x y : List Nat} (h : b <:+: x ++ y) : b <:+: x ∨ b <:+: y ∨ ∃ b1 b2, b = b1 ++ b2 ∧ b1 <:+: x ∧ b2 <+: y := by
  obtain ⟨s, t, e⟩ := h
  rw [List.append_assoc] at e
  rcases List.append_eq_append_iff.mp e with ⟨a, e1, e2⟩ | ⟨a, e1, e2⟩
  · rcases List.append_eq_append_iff.mp e2 with ⟨a', e3, e4⟩ | ⟨a', e3, e4⟩
    · exact .inl ⟨s, a', by rw [e1, e3, List.append_assoc]⟩
    · exact .inr (.inr ⟨a, a', e3, ⟨s, [], by rw [List.append_nil]; exact e1.symm⟩, ⟨t, e4.symm⟩⟩)
  · exact .inr (.inl ⟨a, t, by rw [List.append_assoc]; exact e2.symm⟩)
theorem sep_two {s : Nat} {b x y : List Nat} (h : b <:+: x ++ s :: y) (n : s ∉ b) : b <:+: x ∨ b <:+: y := by
  rcases inf_two h with h | h | ⟨b1, b2, e, h1, h2⟩
  · exact .inl h
  · rcases inf_two (x := [s]) (y := y) h with h | h | ⟨b1, b2, e, h1, h2⟩
    · have : b = [] := by
        cases b with
        | nil => rfl
        | cons c r => exact absurd (by rw [List.mem_singleton.mp (h.subset (List.mem_cons_self ..))]; exact List.mem_cons_self ..) n
      rw [this]
      exact .inl ⟨[], x, rfl⟩
    · exact .inr h
    · cases b1 with
      | nil =>
        rw [e]
        exact .inr h2.isInfix
      | cons c r => exact absurd (by rw [e, ← List.mem_singleton.mp (h1.subset (List.mem_cons_self ..))]; exact List.mem_cons_self ..) n
  · cases b2 with
    | nil =>
      rw [e, List.append_nil]
      exact .inl h1
    | cons c r =>
      obtain ⟨t, et⟩ := h2
      have : c = s := by
        rw [List.cons_append] at et
        exact (List.cons.inj et).1
      exact absurd (by rw [e, this]; exact List.mem_append_right _ (List.mem_cons_self ..)) n
theorem Bx.app {M M' L L' N N' : Nat} {x y : List Nat} (h : Bx M L N x) (h' : Bx M' L' N' y) : Bx (M + M') (L + L') (N + N') (x ++ y) := by
  refine ⟨fun b i n1 n2 => ?_, fun b i n => ?_, ?_, fun c hc => ?_⟩
  · rcases inf_two i with i | i | ⟨b1, b2, rfl, i1, i2⟩
    · have := h.run b i n1 n2
      omega
    · have := h'.run b i n1 n2
      omega
    · have a1 := h.run b1 i1 (fun q => n1 (List.mem_append_left _ q)) (fun q => n2 (List.mem_append_left _ q))
      have a2 := h'.run b2 i2.isInfix (fun q => n1 (List.mem_append_right _ q)) (fun q => n2 (List.mem_append_right _ q))
      rw [List.length_append]
      omega
  · rcases inf_two i with i | i | ⟨b1, b2, rfl, i1, i2⟩
    · have := h.lin b i n
      omega
    · have := h'.lin b i n
      omega
    · have a1 := h.lin b1 i1 (fun q => n (List.mem_append_left _ q))
      have a2 := h'.lin b2 i2.isInfix (fun q => n (List.mem_append_right _ q))
      rw [List.length_append]
      omega
  · rw [List.count_append]
    have := h.cnt
    have := h'.cnt
    omega
  · rcases List.mem_append.mp hc with hc | hc
    · exact h.asc c hc
    · exact h'.asc c hc
theorem Run.sep {M s : Nat} {x y : List Nat} (hs : s = 32 ∨ s = 10) (h : Run M x) (h' : Run M y) : Run M (x ++ s :: y) := fun b i n1 n2 => by
  rcases sep_two i (by rcases hs with rfl | rfl; exact n1; exact n2) with i | i
  · exact h b i n1 n2
  · exact h' b i n1 n2
/-! ### texts joined -/
theorem eN10 : tl ("\n" : Str) = [10] := eL
theorem run_join {M s : Nat} {y : Str} (ey : tl y = [s]) (hs : s = 32 ∨ s = 10) : ∀ (ps : List Str), (∀ p ∈ ps, Run M (tl p)) → Run M (tl (Str.join y ps))
  | [], _ => fun b i _ _ => by
    have := i.length_le
    exact Nat.le_trans this (Nat.zero_le _)
  | [p], h => h p (List.mem_cons_self ..)
  | p :: q :: r, h => by
    rw [tl_joinS, ey, List.append_assoc]
    exact (h p (List.mem_cons_self ..)).sep hs (run_join ey hs (q :: r) fun z hz => h z (List.mem_cons_of_mem _ hz))
theorem lin_join {L : Nat} : ∀ (ps : List Str), (∀ p ∈ ps, p.length ≤ L) → Lin L (tl (Str.join "\n" ps))
  | [], _ => fun b i _ => Nat.le_trans i.length_le (Nat.zero_le _)
  | [p], h => fun b i _ => by
    have := i.length_le
    have h2 := h p (List.mem_cons_self ..)
    rw [len_tl] at h2
    exact Nat.le_trans this h2
  | p :: q :: r, h => by
    rw [tl_joinS, eL, List.append_assoc]
    intro b i n
    rcases sep_two i n with i | i
    · have h2 := h p (List.mem_cons_self ..)
      rw [len_tl] at h2
      exact Nat.le_trans i.length_le h2
    · exact lin_join (q :: r) (fun z hz => h z (List.mem_cons_of_mem _ hz)) b i n
theorem cnt_join : ∀ (ps : List Str), (∀ p ∈ ps, 10 ∉ tl p) → (tl (Str.join "\n" ps)).count 10 ≤ ps.length - 1
  | [], _ => Nat.zero_le _
  | [p], h => by
    have h2 := h p (List.mem_cons_self ..)
    show (tl p).count 10 ≤ 0
    rw [List.count_eq_zero.mpr h2]
    exact Nat.le_refl _
  | p :: q :: r, h => by
    have h2 := h p (List.mem_cons_self ..)
    have ih := cnt_join (q :: r) fun z hz => h z (List.mem_cons_of_mem _ hz)
    rw [tl_joinS, eL, List.count_append, List.count_append, List.count_eq_zero.mpr h2]
    have e : ([10] : List Nat).count 10 = 1 := by decide
    rw [e]
    simp only [List.length_cons] at ih ⊢
    omega
theorem asc_join {y : Str} (hy : ∀ c ∈ tl y, c < 128) : ∀ (ps : List Str), (∀ p ∈ ps, ∀ c ∈ tl p, c < 128) → ∀ c ∈ tl (Str.join y ps), c < 128
  | [], _, c, hc => by cases hc
  | [p], h, c, hc => h p (List.mem_cons_self ..) c hc
  | p :: q :: r, h, c, hc => by
    rw [tl_joinS] at hc
    rcases List.mem_append.mp hc with hc | hc
    · rcases List.mem_append.mp hc with hc | hc
      · exact h p (List.mem_cons_self ..) c hc
      · exact hy c hc
    · exact asc_join hy (q :: r) (fun z hz => h z (List.mem_cons_of_mem _ hz)) c hc
/-- lines, joined -/
theorem bx_lines {M L : Nat} {ps : List Str} (h : ∀ p ∈ ps, Run M (tl p) ∧ p.length ≤ L ∧ 10 ∉ tl p ∧ ∀ c ∈ tl p, c < 128) : Bx M L (ps.length - 1) (tl (Txt.join "\n" ps)) := by
  rw [join_eq]
  exact ⟨run_join eL (.inr rfl) ps fun p hp => (h p hp).1, lin_join ps fun p hp => (h p hp).2.1, cnt_join ps fun p hp => (h p hp).2.2.1, asc_join (by decide +kernel) ps fun p hp => (h p hp).2.2.2⟩
theorem join_app (y : Str) : ∀ {as bs : List Str}, as ≠ [] → bs ≠ [] → tl (Str.join y (as ++ bs)) = tl (Str.join y as) ++ tl y ++ tl (Str.join y bs)
  | [], _, h, _ => absurd rfl h
  | [a], [], _, h => absurd rfl h
  | [a], b :: bs, _, _ => tl_joinS y a b bs
  | a :: c :: as, bs, _, hb => by
    rw [List.cons_append, List.cons_append, tl_joinS, tl_joinS, ← List.cons_append, join_app y (by simp) hb]
    simp only [List.append_assoc]
theorem inf_take (y : Str) (ps : List Str) (i : Nat) : tl (Txt.join y (ps.take i)) <:+: tl (Txt.join y ps) := by
  rw [join_eq, join_eq]
  by_cases h1 : ps.take i = []
  · rw [h1]
    exact ⟨[], tl (Str.join y ps), rfl⟩
  · by_cases h2 : ps.drop i = []
    · have := List.take_append_drop i ps
      rw [h2, List.append_nil] at this
      rw [this]
      exact List.infix_rfl
    · have := join_app y h1 h2
      rw [List.take_append_drop] at this
      rw [this]
      exact List.IsInfix.trans List.infix_append_left List.infix_append_left
theorem inf_drop (y : Str) (ps : List Str) (i : Nat) : tl (Txt.join y (ps.drop i)) <:+: tl (Txt.join y ps) := by
  rw [join_eq, join_eq]
  by_cases h1 : ps.drop i = []
  · rw [h1]
    exact ⟨[], tl (Str.join y ps), rfl⟩
  · by_cases h2 : ps.take i = []
    · have := List.take_append_drop i ps
      rw [h2, List.nil_append] at this
      rw [this]
      exact List.infix_rfl
    · have := join_app y h2 h1
      rw [List.take_append_drop] at this
      rw [this]
      exact List.infix_append_right
/-- words, joined -/
theorem bx_words {M M' L L' N N' : Nat} {as bs : List Str} (h : Bx M L N (tl (Txt.join " " as))) (h' : Bx M' L' N' (tl (Txt.join " " bs))) : Bx (M + M') (L + 1 + L') (N + N') (tl (Txt.join " " (as ++ bs))) := by
  by_cases h1 : as = []
  · rw [h1, List.nil_append]
    exact h'.mono (by omega) (by omega) (by omega)
  by_cases h2 : bs = []
  · rw [h2, List.append_nil]
    exact h.mono (by omega) (by omega) (by omega)
  rw [join_eq] at h h' ⊢
  rw [join_app " " h1 h2, eW]
  have s : Bx 0 1 0 [32] := ⟨fun b i n1 _ => by
    cases b with
    | nil => exact Nat.le_refl _
    | cons c r => exact absurd (by rw [List.mem_singleton.mp (i.subset (List.mem_cons_self ..))]; exact List.mem_cons_self ..) n1, fun b i _ => i.length_le, by decide, by decide⟩
  exact ((h.app s).app h').mono (by omega) (by omega) (by omega)
/-! ### how many lines, how long -/
theorem spl_count {s : Nat} : ∀ (l acc : List Nat), (spl [s] 0 acc l).length = l.count s + 1
  | [], acc => by
    rw [spl_nil]
    rfl
  | c :: l, acc => by
    cases hp : pre [s] (c :: l) with
    | true =>
      have ec : c = s := by
        unfold pre at hp
        simpa using hp
      rw [spl_hit hp, List.length_cons, show ([s] : List Nat).length - 1 = 0 from rfl, spl_count l [], ec, List.count_cons_self]
    | false =>
      have ec : c ≠ s := fun q => by
        rw [q] at hp
        unfold pre at hp
        simp at hp
      rw [spl_miss hp, spl_count l (acc ++ [c]), List.count_cons_of_ne ec]
theorem lines_count (t : Str) : (Txt.split t "\n").length = (tl t).count 10 + 1 := by
  have h := congrArg List.length (split_spl t "\n" (by rw [eL]; simp) (kind_ok eL2))
  rw [List.length_map, eL, spl_count] at h
  exact h
theorem Bx.line {M L N : Nat} {t p : Str} (h : Bx M L N (tl t)) (hp : p ∈ Txt.split t "\n") : Run M (tl p) ∧ p.length ≤ L ∧ 10 ∉ tl p ∧ ∀ c ∈ tl p, c < 128 := by
  have i := inf_part hp
  have n := part_free eL eL2 hp
  exact ⟨h.run.inf i, by rw [len_tl]; exact h.lin _ i n, n, fun c hc => h.asc c (i.subset hc)⟩
theorem Bx.long {M L N : Nat} {t : Str} (h : Bx M L N (tl t)) : t.length ≤ (N + 1) * (L + 1) := by
  have h1 := join_len "\n" (Txt.split t "\n")
  rw [join_split, show ("\n" : Str).length = 1 by decide +kernel, Nat.mul_one] at h1
  have h2 := sum_le (l := (Txt.split t "\n").map (·.length)) (b := L) fun x hx => by
    obtain ⟨p, hp, rfl⟩ := List.mem_map.mp hx
    exact (h.line hp).2.1
  rw [List.length_map] at h2
  have h3 := lines_count t
  have h4 := h.cnt
  have h5 : (Txt.split t "\n").length ≤ N + 1 := by omega
  have h6 := Nat.mul_le_mul_right (L + 1) h5
  have h7 : (Txt.split t "\n").length * (L + 1) = (Txt.split t "\n").length * L + (Txt.split t "\n").length := Nat.mul_succ ..
  omega
theorem Bx.read {M L N : Nat} {t : Str} (h : Bx M L N (tl t)) (m : M ≤ 570) (l : L ≤ 980) (n : N ≤ 989) : ReadW t := by
  refine ⟨⟨?_, ?_, fun p hp => Nat.le_trans (h.line hp).2.1 l⟩, h.run.mono m⟩
  · have h1 := h.long
    have h2 : (N + 1) * (L + 1) ≤ 990 * 981 := Nat.mul_le_mul (by omega) (by omega)
    omega
  · rw [lines_count]
    have := h.cnt
    omega
theorem Bx.asct {M L N : Nat} {t : Str} (h : Bx M L N (tl t)) : Vd.asc t = true := List.all_eq_true.mpr fun c hc => decide_eq_true (h.asc c hc)
theorem cut_inf (z : Str) (lo hi : Option Int) : tl (cutS z lo hi) <:+: tl z := by
  show (z.cps.toList.drop (HT.sIx z.length 0 lo)).take _ <:+: _
  exact (List.take_prefix _ _).isInfix.trans (List.drop_suffix _ _).isInfix
/-! ### a program's text -/
theorem join_len1 {y : Str} {ps : List Str} (h : ps ≠ []) : (Txt.join y ps).length + y.length ≤ (ps.map (·.length)).sum + ps.length * y.length := by
  rw [join_eq]
  induction ps with
  | nil => exact absurd rfl h
  | cons p r ih =>
    cases r with
    | nil =>
      show p.length + y.length ≤ _
      simp
    | cons q r =>
      have := ih (by simp)
      have e : Str.join y (p :: q :: r) = p ++ y ++ Str.join y (q :: r) := rfl
      rw [e, len_app, len_app, List.map_cons, List.sum_cons, List.length_cons, Nat.succ_mul]
      omega
theorem words35 {f : List Int} (ok : OkF f) (h : f ≠ []) : (wordsS f).length ≤ 35 := by
  have h1 := join_len1 (y := " ") (ps := f.map numS) (fun e => h (List.map_eq_nil_iff.mp e))
  have h2 := words_sum ok
  have h3 := ok.four
  rw [show (" " : Str).length = 1 by decide +kernel, List.length_map] at h1
  unfold wordsS
  omega
theorem run8 {z : Str} (h : z.length ≤ 8) : Run 9 (tl z) := fun b i _ _ => by
  have := i.length_le
  rw [← len_tl] at this
  omega
theorem runNums {f : List Int} (ok : OkF f) : ∀ p ∈ f.map numS, Run 9 (tl p) := fun p hp => by
  obtain ⟨i, hi, rfl⟩ := List.mem_map.mp hp
  exact run8 (num_len (ok.nums i hi))
theorem runW (a : Str) (ha : a.length ≤ 8) {ps : List Str} (h : ∀ p ∈ ps, Run 9 (tl p)) : Run 9 (tl (Txt.join " " (a :: ps))) := by
  rw [join_eq]
  refine run_join eW (.inl rfl) _ fun p hp => ?_
  rcases List.mem_cons.mp hp with rfl | hp
  · exact run8 ha
  · exact h p hp
/-- parts of changes: a ; stays at a word -/
theorem runT : ∀ (ps : List Str), (∀ p ∈ ps, Run 8 (tl p)) → Run 9 (tl (Str.join "; " ps))
  | [], _ => fun b i _ _ => Nat.le_trans i.length_le (Nat.zero_le _)
  | [p], h => (h p (List.mem_cons_self ..)).mono (by decide)
  | p :: q :: r, h => by
    have e : tl ("; " : Str) = [59] ++ [32] := by decide +kernel
    rw [tl_joinS, e, ← List.append_assoc, List.append_assoc]
    refine Run.sep (.inl rfl) (fun b i n1 n2 => ?_) (runT (q :: r) fun z hz => h z (List.mem_cons_of_mem _ hz))
    rcases inf_two i with i | i | ⟨b1, b2, rfl, i1, i2⟩
    · have := h p (List.mem_cons_self ..) b i n1 n2
      omega
    · have := i.length_le
      simp at this
      omega
    · have a1 := h p (List.mem_cons_self ..) b1 i1 (fun q => n1 (List.mem_append_left _ q)) (fun q => n2 (List.mem_append_left _ q))
      have a2 := i2.length_le
      rw [List.length_append]
      simp at a2
      omega
theorem lines_bx {m : Nat} (m1 : 1 ≤ m) {ns : List Str} {ss : List (Str × List Int)} {as : List Arm} (ok : OkT m ns ss as) : ∀ l ∈ linesS ns ss as, Run 9 (tl l) ∧ l.length ≤ 114 := by
  intro l hl
  have m3 := ok.m3
  unfold linesS at hl
  rcases List.mem_cons.mp hl with rfl | hl
  · exact ⟨runW "vars" (by decide +kernel) fun p hp => run8 (name_len8 (ok.n.nm p hp)), Nat.le_trans (lineV_len ok.n) (by decide)⟩
  rcases List.mem_append.mp hl with hl | hl
  · obtain ⟨s, hs, rfl⟩ := List.mem_map.mp hl
    obtain ⟨k1, k2⟩ := say_parts (ok.s.sy s hs)
    refine ⟨?_, Nat.le_trans (lineS_len m3 (ok.s.sy s hs)) (by decide)⟩
    rw [← eS' s (form_ne k2)]
    refine runW "say" (by decide +kernel) fun p hp => ?_
    rcases List.mem_cons.mp hp with rfl | hp
    · exact run8 (name_len8 k1)
    · exact runNums (okF_of m3 k2) p hp
  · obtain ⟨q, hq, hl⟩ := List.mem_flatten.mp hl
    obtain ⟨a, ha, rfl⟩ := List.mem_map.mp hq
    have hA := ok.arm a ha
    unfold armL at hl
    rcases List.mem_cons.mp hl with rfl | hl
    · refine ⟨?_, Nat.le_trans (lineB_len hA) (by decide)⟩
      unfold lineB
      rw [← eB']
      refine runW "branch" (by decide +kernel) fun p hp => ?_
      simp only [List.mem_cons, List.not_mem_nil, or_false] at hp
      rcases hp with rfl | rfl
      · exact run8 (name_len8 hA.s)
      · exact run8 (name_len8 hA.t)
    rcases List.mem_append.mp hl with hl | hl
    · obtain ⟨f, hf, rfl⟩ := List.mem_map.mp hl
      have k := forms_each hA.ts f hf
      refine ⟨?_, Nat.le_trans (lineT_len (okF_of m3 k)) (by decide)⟩
      rw [← eT' f (form_ne k)]
      exact runW "test" (by decide +kernel) (runNums (okF_of m3 k))
    · rw [List.mem_singleton.mp hl]
      have ne : a.turns ≠ [] := fun e => by
        have := hA.cm
        rw [e] at this
        simp at this
        omega
      have each : ∀ f ∈ a.turns, OkF f ∧ f ≠ [] := fun f hf => ⟨okF_of m3 (forms_each hA.cs f hf), form_ne (forms_each hA.cs f hf)⟩
      have r8 : ∀ p ∈ a.turns.map wordsS, Run 8 (tl p) := fun p hp => by
        obtain ⟨f, hf, rfl⟩ := List.mem_map.mp hp
        unfold wordsS
        rw [join_eq]
        refine run_join eW (.inl rfl) _ fun z hz => ?_
        obtain ⟨i, hi, rfl⟩ := List.mem_map.mp hz
        intro b ib _ _
        have h1 := ib.length_le
        rw [← len_tl] at h1
        exact Nat.le_trans h1 (num_len ((each f hf).1.nums i hi))
      constructor
      · unfold lineE
        have e : tl ("then " : Str) = tl ("then" : Str) ++ 32 :: [] := by decide +kernel
        rw [tl_append, e, List.append_assoc]
        refine Run.sep (.inl rfl) (run8 (by decide +kernel)) ?_
        show Run 9 (tl (Txt.join "; " (a.turns.map wordsS)))
        rw [join_eq]
        exact runT _ r8
      · unfold lineE
        have h1 := join_len1 (y := "; ") (ps := a.turns.map wordsS) (fun e => ne (List.map_eq_nil_iff.mp e))
        have h2 := sum_le (l := (a.turns.map wordsS).map (·.length)) (b := 35) fun x hx => by
          obtain ⟨p, hp, rfl⟩ := List.mem_map.mp hx
          obtain ⟨f, hf, rfl⟩ := List.mem_map.mp hp
          exact words35 (each f hf).1 (each f hf).2
        have h3 := hA.cm
        rw [List.length_map, List.length_map] at h2
        rw [show ("; " : Str).length = 2 by decide +kernel, List.length_map] at h1
        rw [len_app, show ("then " : Str).length = 5 by decide +kernel]
        omega
theorem text_bx {m : Nat} (m1 : 1 ≤ m) {ns : List Str} {ss : List (Str × List Int)} {as : List Arm} (ok : OkT m ns ss as) : Bx 9 114 28 (tl (textS ns ss as)) := by
  have h := bx_lines (M := 9) (L := 114) (ps := linesS ns ss as) fun l hl => by
    obtain ⟨a, b⟩ := lines_bx m1 ok l hl
    rw [← txt_all] at hl
    obtain ⟨l0, h0, rfl⟩ := List.mem_map.mp hl
    exact ⟨a, b, line_free (all_okL m1 ok l0 h0), fun c hc => by
      rcases Nat.lt_or_ge c 128 with q | q
      · exact q
      · exact absurd hc (line_big (all_okL m1 ok l0 h0) c q)⟩
  have := lines_len ok
  exact h.mono (Nat.le_refl _) (Nat.le_refl _) (by omega)
end Pg
set_option Elab.async false
set_option linter.all false
set_option maxRecDepth 100000
set_option maxHeartbeats 16000000
namespace K5
open PySem PySem.Spec PyProof.Rows L2 Gd Rl Vd TL
open Pg (top FnP Mo Bx iteDN iteDY)
abbrev sBs : Stmt := top 62
def spBs (K : PySem.W.Frag) : Sp := fun vs H Q _ => ∃ (p : Addr) (t : Str) (M L N : Nat), vs = [.ref p, .str t] ∧ Pail H p ∧ Bx M L N (tl t) ∧ L ≤ 500 ∧ N ≤ 200 ∧ ∀ t' H', Bx (2 * M + 9) (2 * L + 9) (2 * N + 1) (tl t') → Pail H' p → But p H H' → Q (.str t') H'
abbrev nBs : List Str := ["_law_pail", "_law_said", "_law_way", "_law_at", "_law_sign", "_law_lines_here", "_law_to", "_law_more", "_law_words_here", "_law_word"]
theorem scBs : FnScope nBs ["_law_pail", "_law_said"] (defScope sBs) := ⟨rfl, rfl, rfl, by decide +kernel, rfl, by decide +kernel, by decide +kernel⟩
theorem slL_st {K : PySem.W.Frag} {H : Hp} {a : Addr} {xs : List V} {lo hi : Option Int} {Q : VK} (h : SqL K H a xs) (k : ∀ l H', New H l (.lst (cutV xs lo hi)) H' → Q (.ref l) H') : rSlL K (.ref a) lo hi H Q := ⟨a, xs, rfl, h, fun p np => k p _ (.mk' np)⟩
theorem cat_st {H : Hp} {a b : Addr} {xs ys : List V} {Q : VK} (h1 : H a = some (.lst xs)) (h2 : H b = some (.lst ys)) (z : xs.length + ys.length ≤ sizeLine) (k : ∀ l H', New H l (.lst (xs ++ ys)) H' → Q (.ref l) H') : rCat (.ref a) (.ref b) H Q := ⟨a, b, xs, ys, rfl, rfl, h1, h2, z, fun p np => k p _ (.mk' np)⟩
def Run9 (M L : Nat) (p : Str) : Prop := Pg.Run M (tl p) ∧ p.length ≤ L ∧ 10 ∉ tl p ∧ ∀ c ∈ tl p, c < 128
theorem sum_join (y : Str) : ∀ ps : List Str, (ps.map (·.length)).sum ≤ (Str.join y ps).length
  | [] => Nat.zero_le _
  | [p] => by
    show _ ≤ p.length
    simp
  | p :: q :: r => by
    have ih := sum_join y (q :: r)
    have e : Str.join y (p :: q :: r) = p ++ y ++ Str.join y (q :: r) := rfl
    rw [e, Pg.len_app, Pg.len_app, List.map_cons, List.sum_cons]
    omega
theorem sum_two (ps : List Str) (i : Nat) : ((ps.take i).map (·.length)).sum + ((ps.drop i).map (·.length)).sum = (ps.map (·.length)).sum := by
  rw [← List.sum_append, ← List.map_append, List.take_append_drop]
theorem new_of {H : Hp} {l : Addr} (n : H l = none) (o : HO) : ∃ H', H' = upd H l o ∧ New H l o H' := ⟨_, rfl, .mk' n⟩
theorem sm {n : Nat} (h : n ≤ 1000000) : n ≤ sizeLine := Nat.le_trans h (by decide)
section
variable {P : Program} {w : World} {K : PySem.W.Frag} {mg : Str → Option Value} {base : Heap} {f : Addr} {fd : FuncData}
theorem ok_bs {fC fA : Addr} {dC dA : FuncData} (F : FnP K "_law_bent_said" sBs f fd) (T : Bl mg) (FC : FnP K "_law_cast" sCast fC dC) (gC : mg "_law_cast" = some (.ref fC)) (FA : FnP K "_law_any_of" sAny fA dA) (gA : mg "_law_any_of" = some (.ref fA)) : FnOk P w K mg base CX0 3 f fd ["_law_pail", "_law_said"] (spBs K) := by
  have GC : FnOk P w K mg base CX0 1 fC dC ["_law_pail", "_law_many"] spCast := ok_cast FC T
  have bC : Binds K dC ["_law_pail", "_law_many"] [] := FC.bindsN fun _ _ _ _ _ _ us hl => match us, hl with | [_, _], _ => rfl
  have GA : FnOk P w K mg base CX0 2 fA dA ["_law_pail", "_law_some"] (spAny K) := ok_any FA T FC gC
  have bA : Binds K dA ["_law_pail", "_law_some"] [] := FA.bindsN fun _ _ _ _ _ _ us hl => match us, hl with | [_, _], _ => rfl
  refine F.ok scBs (fun vs H Q E h => ?_) (fun cdv A outer s H vs Q E hr h => ?_)
  · obtain ⟨p, t, M, L, N, rfl, _⟩ := h
    rfl
  · obtain ⟨p, t, M, L, N, rfl, hp, hb, l5, n2, k⟩ := h
    have hr1 := hr.mono (show 1 ≤ 2 by decide)
    refine ⟨_, PSs.nox <| pss_cons (ps_par (i := 2) (j := 3) rfl scBs.nd rfl rfl (by decide) rfl rfl (pa_cons (pe_call GC hr1 (by rfl) gC FC.kp bC .nil pass0 (pa_cons (pv 0) (pa_cons pe_int pa_nil))) (pa_cons (pe_call GC hr1 (by rfl) gC FC.kp bC .nil pass0 (pa_cons (pv 0) (pa_cons (pe_op op_add (pe_callB call_len_str (by rfl) T.len PySem.boot_len (pa_cons (pv 1) pa_nil)) pe_int) pa_nil))) pa_nil)) (by rfl))
      <| pss_cons (ps_set (i := 4) scBs.nd rfl (.inl rfl) (pe_call GA hr (by rfl) gA FA.kp bA .nil pass0 (pa_cons (pv 0) (pa_cons (pe_lstR <| pa_cons pe_str <| pa_cons pe_str <| pa_cons pe_str <| pa_cons pe_str <| pa_cons pe_str <| pa_cons pe_str <| pa_cons pe_str <| pa_cons pe_str <| pa_cons pe_str <| pa_cons pe_str <| pa_cons pe_str pa_nil) pa_nil))))
      <| pss_cons (ps_if (pt_cmpR op_lt (pv 2) pe_int (nomark _)) (pss_one (ps_ret (pe_ix (r := rIxL K) ix_list (pe_lstR <| pa_cons (pe_op op_add_str (pe_op op_add_str (pe_slice (r := rSlS) sl_str (pv 1) po_none (po_some (pv 3))) (pv 4)) (pe_slice (r := rSlS) sl_str (pv 1) (po_some (pv 3)) po_none))
            <| pa_cons (pe_op op_add_str (pe_slice (r := rSlS) sl_str (pv 1) po_none (po_some (pv 3))) (pe_slice (r := rSlS) sl_str (pv 1) (po_some (pe_op op_add (pv 3) pe_int)) po_none))
            <| pa_cons (pe_op op_add_str (pe_op op_add_str (pe_slice (r := rSlS) sl_str (pv 1) po_none (po_some (pv 3))) (pv 4)) (pe_slice (r := rSlS) sl_str (pv 1) (po_some (pe_op op_add (pv 3) pe_int)) po_none)) pa_nil) (pv 2) (fun _ _ => rfl)))) pss_nil)
      <| pss_cons (ps_set (i := 5) scBs.nd rfl (.inl rfl) (pe_split (pv 1) pe_str))
      <| pss_cons (ps_if (pt_cmpR op_lt (pv 2) pe_int (nomark _))
          (pss_cons (ps_par (i := 3) (j := 6) rfl scBs.nd rfl rfl (by decide) rfl rfl (pa_cons (pe_call GC hr1 (by rfl) gC FC.kp bC .nil pass0 (pa_cons (pv 0) (pa_cons (pe_callB call_len (by rfl) T.len PySem.boot_len (pa_cons (pv 5) pa_nil)) pa_nil))) (pa_cons (pe_call GC hr1 (by rfl) gC FC.kp bC .nil pass0 (pa_cons (pv 0) (pa_cons (pe_callB call_len (by rfl) T.len PySem.boot_len (pa_cons (pv 5) pa_nil)) pa_nil))) pa_nil)) (by rfl))
          <| pss_cons (ps_set (i := 7) scBs.nd rfl (.inl rfl) (pe_lstR <| pa_cons (pe_op op_cat (pe_op op_cat (pe_slice (r := rSlL K) sl_list (pv 5) po_none (po_some (pv 6))) (pe_slice (r := rSlL K) sl_list (pv 5) (po_some (pv 3)) (po_some (pe_op op_add (pv 3) pe_int)))) (pe_slice (r := rSlL K) sl_list (pv 5) (po_some (pv 6)) po_none))
              <| pa_cons (pe_op op_cat (pe_slice (r := rSlL K) sl_list (pv 5) po_none (po_some (pv 3))) (pe_slice (r := rSlL K) sl_list (pv 5) (po_some (pe_op op_add (pv 3) pe_int)) po_none)) pa_nil))
          <| pss_one (ps_ret (pe_join pe_str (pe_ix (r := rIxL K) ix_list (pe_op op_cat (pv 7) (pe_lstR <| pa_cons (pe_op op_cat (pe_slice (r := rSlL K) sl_list (pv 5) po_none (po_some pe_int)) (pe_revL (pe_slice (r := rSlL K) sl_list (pv 5) (po_some pe_int) po_none))) pa_nil)) (pe_op op_sub (pv 2) pe_int) (fun _ _ => rfl))))) pss_nil)
      <| pss_cons (ps_set (i := 8) scBs.nd rfl (.inl rfl) (pe_split (pv 1) pe_str))
      <| pss_cons (ps_set (i := 3) scBs.nd rfl (.inl rfl) (pe_call GC hr1 (by rfl) gC FC.kp bC .nil pass0 (pa_cons (pv 0) (pa_cons (pe_callB call_len (by rfl) T.len PySem.boot_len (pa_cons (pv 8) pa_nil)) pa_nil))))
      <| pss_cons (ps_set (i := 9) scBs.nd rfl (.inl rfl) (pe_call GA hr (by rfl) gA FA.kp bA .nil pass0 (pa_cons (pv 0) (pa_cons (pe_lstR <| pa_cons pe_str <| pa_cons pe_str <| pa_cons pe_str <| pa_cons pe_str <| pa_cons pe_str <| pa_cons pe_str <| pa_cons pe_str <| pa_cons pe_str <| pa_cons pe_str <| pa_cons pe_str pa_nil) pa_nil))))
      <| pss_cons (ps_set (i := 7) scBs.nd rfl (.inl rfl) (pe_lstR <| pa_cons (pe_op op_cat (pe_slice (r := rSlL K) sl_list (pv 8) po_none (po_some (pv 3))) (pe_slice (r := rSlL K) sl_list (pv 8) (po_some (pe_op op_add (pv 3) pe_int)) po_none))
          <| pa_cons (pe_op op_cat (pe_op op_cat (pe_slice (r := rSlL K) sl_list (pv 8) po_none (po_some (pv 3))) (pe_lstR (pa_cons (pv 9) pa_nil))) (pe_slice (r := rSlL K) sl_list (pv 8) (po_some (pe_op op_add (pv 3) pe_int)) po_none))
          <| pa_cons (pe_op op_cat (pe_slice (r := rSlL K) sl_list (pv 8) po_none (po_some (pe_op op_add (pv 3) pe_int))) (pe_slice (r := rSlL K) sl_list (pv 8) (po_some (pv 3)) po_none)) pa_nil))
      <| pss_one (ps_ret (pe_join pe_str (pe_ix (r := rIxL K) ix_list (pv 7) (pe_op op_sub (pv 2) pe_int) (fun _ _ => rfl)))), ?_⟩
    have tl0 : t.length ≤ 201 * 501 := Nat.le_trans hb.long (Nat.mul_le_mul (by omega) (by omega))
    have tsz : t.length ≤ sizeLine := sm (by omega)
    refine ⟨_, rfl, p, _, rfl, hp, by decide, by decide, fun wy H1 w0 w1 hp1 b1 => ⟨_, rfl, _, rfl, _, rfl, tsz, _, _, rfl, rfl, p, _, rfl, hp1, by omega, by omega, fun at0 H2 a0 a1 hp2 b2 => ⟨_, _, rfl, ?_⟩⟩⟩
    obtain ⟨ia, rfl⟩ := Int.eq_ofNat_of_zero_le a0
    have b02 := b1.trans b2
    -- a sign
    refine ⟨_, rfl, (show 11 ≤ 1000 by decide), fun LB HB nB => ⟨p, LB, _, rfl, hp2.same nB.2.2, nB.2.1, (hp2.ne nB.1).symm, (show 0 < 11 by decide), (show 11 ≤ 1000 by decide), fun i x H4 ex hp4 b4 => ?_⟩⟩
    obtain ⟨sg, rfl, sg1, sga⟩ : ∃ sg : Str, x = .str sg ∧ (tl sg).length ≤ 1 ∧ ∀ c ∈ tl sg, c < 128 := by
      have hm := List.mem_of_getElem? ex
      simp only [List.mem_cons, List.not_mem_nil, or_false] at hm
      rcases hm with rfl | rfl | rfl | rfl | rfl | rfl | rfl | rfl | rfl | rfl | rfl <;> exact ⟨_, rfl, by decide +kernel, by decide +kernel⟩
    have sgl : sg.length ≤ 1 := by
      rw [len_tl]
      exact sg1
    have bsg : Bx 1 1 1 (tl sg) := Bx.short sg1 sga
    have b04 : But p H H4 := b02.trans ((but_same nB.2.2).trans b4)
    clear b1 b2 b02 nB b4 ex hp1 hp2
    refine ⟨_, rfl, _, _, rfl, rfl, _, rfl, ?_⟩
    refine ite2 (fun hw => ?_) (fun hw => ?_)
    · have hw3 : wy < 3 := of_decide_eq_true hw
      have c1 := cutS_length t none (some (ia : Int))
      have c2 := cutS_length t (some (ia : Int)) none
      have c3 := cutS_length t (some ((ia : Int) + 1)) none
      have i1 := hb.inf (Pg.cut_inf t none (some (ia : Int)))
      have i2 := hb.inf (Pg.cut_inf t (some (ia : Int)) none)
      have i3 := hb.inf (Pg.cut_inf t (some ((ia : Int) + 1)) none)
      have a1 := (i1.app bsg).app i2
      have a2 := i1.app i3
      have a3 := (i1.app bsg).app i3
      refine ⟨_, rfl, _, rfl, _, rfl, t, rfl, tsz, _, rfl, _, _, rfl, rfl, sm (by omega), _, rfl, _, rfl, _, rfl, t, rfl, tsz, _, _, rfl, rfl, sm (by rw [Pg.len_app]; omega), ?_⟩
      refine ⟨_, rfl, _, rfl, _, rfl, t, rfl, tsz, _, rfl, _, rfl, _, _, rfl, rfl, _, rfl, t, rfl, tsz, _, _, rfl, rfl, sm (by omega), ?_⟩
      refine ⟨_, rfl, _, rfl, _, rfl, t, rfl, tsz, _, rfl, _, _, rfl, rfl, sm (by omega), _, rfl, _, rfl, _, _, rfl, rfl, _, rfl, t, rfl, tsz, _, _, rfl, rfl, sm (by rw [Pg.len_app]; omega), (show 3 ≤ 1000 by decide), fun lR HR nR => ?_⟩
      have hpR := hp4.same nR.2.2
      have bR := b04.trans (but_same nR.2.2)
      have out : ∀ x : Str, Bx (2 * M + 9) (2 * L + 9) (2 * N + 1) (tl x) → Q (.str x) HR := fun x hx => k x HR hx hpR bR
      rcases (by omega : wy = 0 ∨ wy = 1 ∨ wy = 2) with rfl | rfl | rfl
      · refine ⟨_, rfl, lR, _, 0, _, rfl, rfl, SqL.of nR.2.1, atI_nat (j := 0) rfl, out _ ?_⟩
        rw [TL.tl_append, TL.tl_append]
        exact a1.mono (by omega) (by omega) (by omega)
      · refine ⟨_, rfl, lR, _, 1, _, rfl, rfl, SqL.of nR.2.1, atI_nat (j := 1) rfl, out _ ?_⟩
        rw [TL.tl_append]
        exact a2.mono (by omega) (by omega) (by omega)
      · refine ⟨_, rfl, lR, _, 2, _, rfl, rfl, SqL.of nR.2.1, atI_nat (j := 2) rfl, out _ ?_⟩
        rw [TL.tl_append, TL.tl_append]
        exact a3.mono (by omega) (by omega) (by omega)
    have hw3 : ¬ wy < 3 := fun q => hw (decide_eq_true q)
    -- lines
    refine ⟨_, rfl, ⟨_, rfl⟩, _, _, rfl, rfl, by decide +kernel, Pg.lt6 (by omega), fun lL nL => ?_⟩
    have hline : ∀ l ∈ Txt.split t "\n", Run9 M L l := fun l hl => hb.line hl
    have lcnt : (Txt.split t "\n").length ≤ N + 1 := by
      rw [Pg.lines_count]
      have := hb.cnt
      omega
    have lpos : 1 ≤ (Txt.split t "\n").length := by
      rw [Pg.lines_count]
      omega
    generalize Txt.split t "\n" = ls at hline lcnt lpos nL ⊢
    have s5 := same_new (o := .lst (ls.map V.str)) nL
    have hL5 : upd H4 lL (.lst (ls.map V.str)) lL = some (.lst (ls.map V.str)) := upd_same
    have hp5 := hp4.same s5
    have lLp : lL ≠ p := (hp4.ne nL).symm
    generalize upd H4 lL (.lst (ls.map V.str)) = H5 at s5 hL5 hp5 ⊢
    have b05 := b04.trans (but_same s5)
    refine ⟨_, rfl, _, _, rfl, rfl, _, rfl, ?_⟩
    refine ite2 (fun hw6 => ?_) (fun hw6 => ?_)
    · have hw6' : wy < 6 := of_decide_eq_true hw6
      refine ⟨_, rfl, _, rfl, _, _, rfl, .inl ⟨_, SqL.of hL5, rfl⟩, p, _, rfl, hp5, by rw [List.length_map]; omega, by rw [List.length_map]; omega, fun at1 H6 c0 c1 hp6 b6 => ?_⟩
      rw [List.length_map] at c1
      have hL6 := b6 _ _ hL5 lLp
      refine ⟨_, rfl, _, rfl, _, _, rfl, .inl ⟨_, SqL.of hL6, rfl⟩, p, _, rfl, hp6, by rw [List.length_map]; omega, by rw [List.length_map]; omega, fun to1 H7 d0 d1 hp7 b7 => ⟨_, _, rfl, ?_⟩⟩
      rw [List.length_map] at d1
      have hL7 := b7 _ _ hL6 lLp
      have b07 := b05.trans (b6.trans b7)
      obtain ⟨ja, rfl⟩ := Int.eq_ofNat_of_zero_le c0
      obtain ⟨jt, rfl⟩ := Int.eq_ofNat_of_zero_le d0
      have lm : (ls.map V.str).length = ls.length := List.length_map ..
      have e1 : cutV (ls.map V.str) none (some ((jt : Nat) : Int)) = (ls.take jt).map V.str := by rw [Pg.cut_take (by omega), List.map_take]
      have e2 : cutV (ls.map V.str) (some ((ja : Nat) : Int)) (some ((ja : Int) + 1)) = ((ls.drop ja).take 1).map V.str := by
        rw [show ((ja : Int) + 1) = ((ja + 1 : Nat) : Int) from rfl, Vd.cut_mid (by omega) (by omega), show ja + 1 - ja = 1 by omega, List.map_take, List.map_drop]
      have e3 : cutV (ls.map V.str) (some ((jt : Nat) : Int)) none = (ls.drop jt).map V.str := by rw [Vd.cut_drop (by omega), List.map_drop]
      have e4 : cutV (ls.map V.str) none (some ((ja : Nat) : Int)) = (ls.take ja).map V.str := by rw [Pg.cut_take (by omega), List.map_take]
      have e5 : cutV (ls.map V.str) (some ((ja : Int) + 1)) none = (ls.drop (ja + 1)).map V.str := by
        rw [show ((ja : Int) + 1) = ((ja + 1 : Nat) : Int) from rfl, Vd.cut_drop (by omega), List.map_drop]
      have e6 : cutV (ls.map V.str) none (some 1) = (ls.take 1).map V.str := by
        rw [show (1 : Int) = ((1 : Nat) : Int) from rfl, Pg.cut_take (by omega), List.map_take]
      have e7 : cutV (ls.map V.str) (some 1) none = (ls.drop 1).map V.str := by
        rw [show (1 : Int) = ((1 : Nat) : Int) from rfl, Vd.cut_drop (by omega), List.map_drop]
      have z1 : ((ls.take jt).map V.str).length ≤ ls.length := by rw [List.length_map, List.length_take]; omega
      have z2 : (((ls.drop ja).take 1).map V.str).length ≤ 1 := by rw [List.length_map, List.length_take]; omega
      have z3 : ((ls.drop jt).map V.str).length ≤ ls.length := by rw [List.length_map, List.length_drop]; omega
      have z4 : ((ls.take ja).map V.str).length ≤ ls.length := by rw [List.length_map, List.length_take]; omega
      have z5 : ((ls.drop (ja + 1)).map V.str).length ≤ ls.length := by rw [List.length_map, List.length_drop]; omega
      have z6 : ((ls.take 1).map V.str).length ≤ 1 := by rw [List.length_map, List.length_take]; omega
      have z7 : (((ls.drop 1).map V.str).reverse).length ≤ ls.length := by rw [List.length_reverse, List.length_map, List.length_drop]; omega
      -- the lists
      refine ⟨_, rfl, _, rfl, _, rfl, slL_st (SqL.of hL7) fun l8 H8 n8 => ⟨_, rfl, _, rfl, _, rfl, _, rfl, _, _, rfl, rfl, _, rfl, slL_st (SqL.of (n8.2.2 _ _ hL7)) fun l9 H9 n9 => ?_⟩⟩
      have s79 := n8.2.2.trans n9.2.2
      rw [e1] at n8
      rw [e2] at n9
      refine cat_st (n9.2.2 _ _ n8.2.1) n9.2.1 (sm (by omega)) fun l10 H10 n10 => ?_
      have s710 := s79.trans n10.2.2
      refine ⟨_, rfl, _, rfl, _, rfl, lL, _, rfl, SqL.of (s710 _ _ hL7), fun l11 np11 => ?_⟩
      obtain ⟨H11, e11, n11⟩ := new_of np11 (.lst (cutV (ls.map V.str) (some ((jt : Nat) : Int)) none))
      rw [← e11]
      have s711 := s710.trans n11.2.2
      rw [e3] at n11
      refine cat_st (n11.2.2 _ _ n10.2.1) n11.2.1 (sm (by rw [List.length_append]; omega)) fun l12 H12 n12 => ?_
      have s712 := s711.trans n12.2.2
      refine ⟨_, rfl, _, rfl, _, rfl, slL_st (SqL.of (s712 _ _ hL7)) fun l13 H13 n13 => ⟨_, rfl, _, rfl, _, _, rfl, rfl, _, rfl, lL, _, rfl, SqL.of ((s712.trans n13.2.2) _ _ hL7), fun l14 np14 => ?_⟩⟩
      obtain ⟨H14, e14, n14⟩ := new_of np14 (.lst (cutV (ls.map V.str) (some ((ja : Int) + 1)) none))
      rw [← e14]
      have s714 := s712.trans (n13.2.2.trans n14.2.2)
      rw [e4] at n13
      rw [e5] at n14
      refine cat_st (n14.2.2 _ _ n13.2.1) n14.2.1 (sm (by omega)) fun l15 H15 n15 => ⟨(show 2 ≤ 1000 by decide), fun l16 H16 n16 => ?_⟩
      have s716 := s714.trans (n15.2.2.trans n16.2.2)
      -- once more
      refine ⟨⟨_, rfl⟩, _, rfl, _, rfl, _, rfl, slL_st (SqL.of (s716 _ _ hL7)) fun l17 H17 n17 => ⟨_, rfl, _, rfl, lL, _, rfl, SqL.of ((s716.trans n17.2.2) _ _ hL7), fun l18 np18 => ?_⟩⟩
      obtain ⟨H18, e18, n18⟩ := new_of np18 (.lst (cutV (ls.map V.str) (some 1) none))
      rw [← e18]
      have s718 := s716.trans (n17.2.2.trans n18.2.2)
      rw [e6] at n17
      rw [e7] at n18
      refine ⟨l18, _, rfl, SqL.of n18.2.1, fun l19 np19 => ?_⟩
      obtain ⟨H19, e19, n19⟩ := new_of np19 (.lst ((ls.drop 1).map V.str).reverse)
      rw [← e19]
      refine cat_st (n19.2.2 _ _ (n18.2.2 _ _ n17.2.1)) n19.2.1 (sm (by omega)) fun l20 H20 n20 => ⟨(show 1 ≤ 1000 by decide), fun l21 H21 n21 => ?_⟩
      have s1619 := n17.2.2.trans (n18.2.2.trans (n19.2.2.trans (n20.2.2.trans n21.2.2)))
      refine cat_st (s1619 _ _ n16.2.1) n21.2.1 (sm (show 2 + 1 ≤ 1000000 by decide)) fun l22 H22 n22 => ?_
      have h20 := (n21.2.2.trans n22.2.2) _ _ n20.2.1
      have h15 := (n16.2.2.trans (s1619.trans n22.2.2)) _ _ n15.2.1
      have h12 := (n13.2.2.trans (n14.2.2.trans (n15.2.2.trans (n16.2.2.trans (s1619.trans n22.2.2))))) _ _ n12.2.1
      have s722 := s716.trans (s1619.trans n22.2.2)
      have hp22 := hp7.same s722
      have b22 := b07.trans (but_same s722)
      have out : ∀ ps : List Str, (∀ x ∈ ps, x ∈ ls) → ps.length ≤ ls.length + 1 → (ps.map (·.length)).sum + ps.length * ("\n" : Str).length ≤ 16777216 ∧ Q (.str (Txt.join "\n" ps)) H22 := fun ps hps hl => by
        constructor
        · have h1 := Pg.sum_le (l := ps.map (·.length)) (b := 500) fun x hx => by
            obtain ⟨z, hz, rfl⟩ := List.mem_map.mp hx
            exact Nat.le_trans (hline z (hps z hz)).2.1 l5
          rw [List.length_map] at h1
          rw [show ("\n" : Str).length = 1 by decide +kernel]
          omega
        · exact k _ H22 ((Pg.bx_lines fun z hz => hline z (hps z hz)).mono (by omega) (by omega) (by omega)) hp22 b22
      have mt : ∀ (i : Nat), ∀ x ∈ ls.take i, x ∈ ls := fun i x h => List.mem_of_mem_take h
      have md : ∀ (i : Nat), ∀ x ∈ ls.drop i, x ∈ ls := fun i x h => List.mem_of_mem_drop h
      rcases (by omega : wy = 3 ∨ wy = 4 ∨ wy = 5) with rfl | rfl | rfl
      · obtain ⟨o1, o2⟩ := out (ls.take jt ++ (ls.drop ja).take 1 ++ ls.drop jt) (fun x hx => by
          rcases List.mem_append.mp hx with hx | hx
          · rcases List.mem_append.mp hx with hx | hx
            · exact mt _ x hx
            · exact md _ x (List.mem_of_mem_take hx)
          · exact md _ x hx) (by simp only [List.length_append, List.length_take, List.length_drop]; omega)
        refine ⟨_, rfl, _, _, rfl, rfl, l22, _, 0, .ref l12, rfl, rfl, SqL.of n22.2.1, atI_nat (j := 0) rfl, _, l12, _, rfl, rfl, .inl (SqL.of (h12.trans ?_)), o1, o2⟩
        simp only [List.map_append]
      · obtain ⟨o1, o2⟩ := out (ls.take ja ++ ls.drop (ja + 1)) (fun x hx => by
          rcases List.mem_append.mp hx with hx | hx
          · exact mt _ x hx
          · exact md _ x hx) (by simp only [List.length_append, List.length_take, List.length_drop]; omega)
        refine ⟨_, rfl, _, _, rfl, rfl, l22, _, 1, .ref l15, rfl, rfl, SqL.of n22.2.1, atI_nat (j := 1) rfl, _, l15, _, rfl, rfl, .inl (SqL.of (h15.trans ?_)), o1, o2⟩
        simp only [List.map_append]
      · obtain ⟨o1, o2⟩ := out (ls.take 1 ++ (ls.drop 1).reverse) (fun x hx => by
          rcases List.mem_append.mp hx with hx | hx
          · exact mt _ x hx
          · exact md _ x (List.mem_reverse.mp hx)) (by simp only [List.length_append, List.length_take, List.length_drop, List.length_reverse]; omega)
        refine ⟨_, rfl, _, _, rfl, rfl, l22, _, 2, .ref l20, rfl, rfl, SqL.of n22.2.1, atI_nat (j := 2) rfl, _, l20, _, rfl, rfl, .inl (SqL.of (h20.trans ?_)), o1, o2⟩
        simp only [List.map_append, List.map_reverse]
    have hw6' : ¬ wy < 6 := fun q => hw6 (decide_eq_true q)
    clear hL5 lLp hline lcnt lpos
    -- words
    refine ⟨_, rfl, ⟨_, rfl⟩, _, _, rfl, rfl, by decide +kernel, Pg.lt6 (by omega), fun lW nW => ?_⟩
    have wne : Txt.split t " " ≠ [] := Nu.split_ne Pg.y1 Pg.y2
    have wfew := Nu.split_few (x := t) Pg.y1 Pg.y2
    have wj := Pg.join_split t " "
    have weach : ∀ z ∈ Txt.split t " ", z.length ≤ t.length := fun z hz => Nu.split_each Pg.y1 Pg.y2 hz
    generalize Txt.split t " " = ws at wne wfew wj weach nW ⊢
    have wpos : 1 ≤ ws.length := by
      cases ws with
      | nil => exact absurd rfl wne
      | cons _ _ => simp
    have s6 := same_new (o := .lst (ws.map V.str)) nW
    have hW6 : upd H5 lW (.lst (ws.map V.str)) lW = some (.lst (ws.map V.str)) := upd_same
    have hp6 := hp5.same s6
    have lWp : lW ≠ p := (hp5.ne nW).symm
    generalize upd H5 lW (.lst (ws.map V.str)) = H6 at s6 hW6 hp6 ⊢
    refine ⟨_, rfl, _, rfl, _, _, rfl, .inl ⟨_, SqL.of hW6, rfl⟩, p, _, rfl, hp6, by rw [List.length_map]; omega, by rw [List.length_map]; omega, fun at1 H7 c0 c1 hp7 b7 => ?_⟩
    rw [List.length_map] at c1
    obtain ⟨ja, rfl⟩ := Int.eq_ofNat_of_zero_le c0
    have hW7 := b7 _ _ hW6 lWp
    refine ⟨_, rfl, (show 10 ≤ 1000 by decide), fun LC HC nC => ⟨p, LC, _, rfl, hp7.same nC.2.2, nC.2.1, (hp7.ne nC.1).symm, (show 0 < 10 by decide), (show 10 ≤ 1000 by decide), fun i y H8 ey hp8 b8 => ?_⟩⟩
    obtain ⟨wd, rfl, wd7, wda, wd1⟩ : ∃ wd : Str, y = .str wd ∧ (tl wd).length ≤ 7 ∧ (∀ c ∈ tl wd, c < 128) ∧ (tl wd).count 10 ≤ 1 := by
      have hm := List.mem_of_getElem? ey
      simp only [List.mem_cons, List.not_mem_nil, or_false] at hm
      rcases hm with rfl | rfl | rfl | rfl | rfl | rfl | rfl | rfl | rfl | rfl <;> exact ⟨_, rfl, by decide +kernel, by decide +kernel, by decide +kernel⟩
    have wdl : wd.length ≤ 7 := by
      rw [len_tl]
      exact wd7
    have bwd : Bx 7 7 1 (tl (Txt.join " " [wd])) := by
      rw [TL.join_eq]
      have q := Bx.short wd7 wda
      exact ⟨q.run, q.lin, wd1, q.asc⟩
    have hW8 := b8 _ _ (nC.2.2 _ _ hW7) lWp
    have b08 : But p H H8 := b05.trans ((but_same s6).trans (b7.trans ((but_same nC.2.2).trans b8)))
    clear b7 b8 nC ey hp7 hp6
    have lm : (ws.map V.str).length = ws.length := List.length_map ..
    have e1 : cutV (ws.map V.str) none (some ((ja : Nat) : Int)) = (ws.take ja).map V.str := by rw [Pg.cut_take (by omega), List.map_take]
    have e2 : cutV (ws.map V.str) (some ((ja : Int) + 1)) none = (ws.drop (ja + 1)).map V.str := by
      rw [show ((ja : Int) + 1) = ((ja + 1 : Nat) : Int) from rfl, Vd.cut_drop (by omega), List.map_drop]
    have e3 : cutV (ws.map V.str) none (some ((ja : Int) + 1)) = (ws.take (ja + 1)).map V.str := by
      rw [show ((ja : Int) + 1) = ((ja + 1 : Nat) : Int) from rfl, Pg.cut_take (by omega), List.map_take]
    have e4 : cutV (ws.map V.str) (some ((ja : Nat) : Int)) none = (ws.drop ja).map V.str := by rw [Vd.cut_drop (by omega), List.map_drop]
    have z1 : ((ws.take ja).map V.str).length ≤ ws.length := by rw [List.length_map, List.length_take]; omega
    have z2 : ((ws.drop (ja + 1)).map V.str).length ≤ ws.length := by rw [List.length_map, List.length_drop]; omega
    have z3 : ((ws.take (ja + 1)).map V.str).length ≤ ws.length := by rw [List.length_map, List.length_take]; omega
    have z4 : ((ws.drop ja).map V.str).length ≤ ws.length := by rw [List.length_map, List.length_drop]; omega
    refine ⟨_, rfl, _, rfl, _, rfl, slL_st (SqL.of hW8) fun l9 H9 n9 => ⟨_, rfl, _, rfl, _, _, rfl, rfl, _, rfl, lW, _, rfl, SqL.of (n9.2.2 _ _ hW8), fun l10 np10 => ?_⟩⟩
    obtain ⟨H10, e10, n10⟩ := new_of np10 (.lst (cutV (ws.map V.str) (some ((ja : Int) + 1)) none))
    rw [← e10]
    have s810 := n9.2.2.trans n10.2.2
    rw [e1] at n9
    rw [e2] at n10
    refine cat_st (n10.2.2 _ _ n9.2.1) n10.2.1 (sm (by omega)) fun l11 H11 n11 => ?_
    have s811 := s810.trans n11.2.2
    refine ⟨_, rfl, _, rfl, _, rfl, slL_st (SqL.of (s811 _ _ hW8)) fun l12 H12 n12 => ⟨_, rfl, (show 1 ≤ 1000 by decide), fun l13 H13 n13 => ?_⟩⟩
    have s813 := s811.trans (n12.2.2.trans n13.2.2)
    rw [e1] at n12
    refine cat_st (n13.2.2 _ _ n12.2.1) n13.2.1 (sm (by show _ + 1 ≤ 1000000; omega)) fun l14 H14 n14 => ?_
    have s814 := s813.trans n14.2.2
    refine ⟨_, rfl, _, rfl, _, _, rfl, rfl, _, rfl, lW, _, rfl, SqL.of (s814 _ _ hW8), fun l15 np15 => ?_⟩
    obtain ⟨H15, e15, n15⟩ := new_of np15 (.lst (cutV (ws.map V.str) (some ((ja : Int) + 1)) none))
    rw [← e15]
    have s815 := s814.trans n15.2.2
    rw [e2] at n15
    refine cat_st (n15.2.2 _ _ n14.2.1) n15.2.1 (sm (by rw [List.length_append]; show _ + 1 + _ ≤ 1000000; omega)) fun l16 H16 n16 => ?_
    have s816 := s815.trans n16.2.2
    refine ⟨_, rfl, _, rfl, _, _, rfl, rfl, _, rfl, slL_st (SqL.of (s816 _ _ hW8)) fun l17 H17 n17 => ⟨_, rfl, _, rfl, _, rfl, lW, _, rfl, SqL.of ((s816.trans n17.2.2) _ _ hW8), fun l18 np18 => ?_⟩⟩
    obtain ⟨H18, e18, n18⟩ := new_of np18 (.lst (cutV (ws.map V.str) (some ((ja : Nat) : Int)) none))
    rw [← e18]
    have s818 := s816.trans (n17.2.2.trans n18.2.2)
    rw [e3] at n17
    rw [e4] at n18
    refine cat_st (n18.2.2 _ _ n17.2.1) n18.2.1 (sm (by omega)) fun l19 H19 n19 => ⟨(show 3 ≤ 1000 by decide), fun l20 H20 n20 => ?_⟩
    have s820 := s818.trans (n19.2.2.trans n20.2.2)
    have h19 := n20.2.2 _ _ n19.2.1
    have h16 := (n17.2.2.trans (n18.2.2.trans (n19.2.2.trans n20.2.2))) _ _ n16.2.1
    have h11 := (n12.2.2.trans (n13.2.2.trans (n14.2.2.trans (n15.2.2.trans (n16.2.2.trans (n17.2.2.trans (n18.2.2.trans (n19.2.2.trans n20.2.2)))))))) _ _ n11.2.1
    have hp20 := hp8.same s820
    have b20 := b08.trans (but_same s820)
    have it : ∀ i : Nat, Bx M L N (tl (Txt.join " " (ws.take i))) := fun i => by
      have := Pg.inf_take " " ws i
      rw [wj] at this
      exact hb.inf this
    have id' : ∀ i : Nat, Bx M L N (tl (Txt.join " " (ws.drop i))) := fun i => by
      have := Pg.inf_drop " " ws i
      rw [wj] at this
      exact hb.inf this
    have tot : (ws.map (·.length)).sum ≤ t.length := by
      have := sum_join " " ws
      rw [← TL.join_eq, wj] at this
      exact this
    have st : ∀ i : Nat, ((ws.take i).map (·.length)).sum ≤ t.length := fun i => by
      have := sum_two ws i
      omega
    have sd : ∀ i : Nat, ((ws.drop i).map (·.length)).sum ≤ t.length := fun i => by
      have := sum_two ws i
      omega
    have out : ∀ ps : List Str, (ps.map (·.length)).sum ≤ 2 * t.length + 7 → ps.length ≤ 2 * ws.length + 1 → Bx (2 * M + 9) (2 * L + 9) (2 * N + 1) (tl (Txt.join " " ps)) → (ps.map (·.length)).sum + ps.length * (" " : Str).length ≤ 16777216 ∧ Q (.str (Txt.join " " ps)) H20 := fun ps h1 h2 h3 => by
      constructor
      · rw [show (" " : Str).length = 1 by decide +kernel]
        omega
      · exact k _ H20 h3 hp20 b20
    have w9 : wy < 9 := w1
    rcases (by omega : wy = 6 ∨ wy = 7 ∨ wy = 8) with rfl | rfl | rfl
    · obtain ⟨o1, o2⟩ := out (ws.take ja ++ ws.drop (ja + 1)) (by rw [List.map_append, List.sum_append]; have := st ja; have := sd (ja + 1); omega) (by simp only [List.length_append, List.length_take, List.length_drop]; omega) ((Pg.bx_words (it ja) (id' (ja + 1))).mono (by omega) (by omega) (by omega))
      refine ⟨⟨_, rfl⟩, _, rfl, _, rfl, _, _, rfl, rfl, l20, _, 0, .ref l11, rfl, rfl, SqL.of n20.2.1, atI_nat (j := 0) rfl, _, l11, _, rfl, rfl, .inl (SqL.of (h11.trans ?_)), o1, o2⟩
      simp only [List.map_append]
    · obtain ⟨o1, o2⟩ := out (ws.take ja ++ [wd] ++ ws.drop (ja + 1)) (by rw [List.map_append, List.map_append, List.sum_append, List.sum_append]; have := st ja; have := sd (ja + 1); show _ + (wd.length + 0) + _ ≤ _; omega) (by simp only [List.length_append, List.length_take, List.length_drop, List.length_singleton]; omega) ((Pg.bx_words (Pg.bx_words (it ja) bwd) (id' (ja + 1))).mono (by omega) (by omega) (by omega))
      refine ⟨⟨_, rfl⟩, _, rfl, _, rfl, _, _, rfl, rfl, l20, _, 1, .ref l16, rfl, rfl, SqL.of n20.2.1, atI_nat (j := 1) rfl, _, l16, _, rfl, rfl, .inl (SqL.of (h16.trans ?_)), o1, o2⟩
      simp only [List.map_append, List.map_cons, List.map_nil]
    · obtain ⟨o1, o2⟩ := out (ws.take (ja + 1) ++ ws.drop ja) (by rw [List.map_append, List.sum_append]; have := st (ja + 1); have := sd ja; omega) (by simp only [List.length_append, List.length_take, List.length_drop]; omega) ((Pg.bx_words (it (ja + 1)) (id' ja)).mono (by omega) (by omega) (by omega))
      refine ⟨⟨_, rfl⟩, _, rfl, _, rfl, _, _, rfl, rfl, l20, _, 2, .ref l19, rfl, rfl, SqL.of n20.2.1, atI_nat (j := 2) rfl, _, l19, _, rfl, rfl, .inl (SqL.of (h19.trans ?_)), o1, o2⟩
      simp only [List.map_append]
end
end K5
set_option Elab.async false
set_option linter.all false
set_option maxRecDepth 100000
set_option maxHeartbeats 8000000
namespace Pg
open PySem PySem.Spec PyProof.Rows L2 TL PySem.Builtin.Str
/-! ### what is shown of a text -/
theorem repr_char : ∀ c, c < 128 → ∀ q, q = 34 ∨ q = 39 → ∀ x ∈ PySem.Builtin.Str.reprChar q c, x < 128 := by
  have h : ((List.range 128).all fun c => (PySem.Builtin.Str.reprChar 34 c).all (fun x => decide (x < 128)) && (PySem.Builtin.Str.reprChar 39 c).all fun x => decide (x < 128)) = true := by decide +kernel
  intro c hc q hq x hx
  have h1 := List.all_eq_true.mp h c (List.mem_range.mpr hc)
  obtain ⟨h2, h3⟩ := Bool.and_eq_true_iff.mp h1
  rcases hq with rfl | rfl
  · exact of_decide_eq_true (List.all_eq_true.mp h2 x hx)
  · exact of_decide_eq_true (List.all_eq_true.mp h3 x hx)
theorem repr_fold (q : Nat) (hq : q = 34 ∨ q = 39) : ∀ (l : List Nat) (acc : Array Nat), (∀ c ∈ l, c < 128) → (∀ x ∈ acc.toList, x < 128) → ∀ x ∈ (l.foldl (fun out c => out ++ (PySem.Builtin.Str.reprChar q c).toArray) acc).toList, x < 128
  | [], acc, _, h => h
  | c :: l, acc, hl, h => by
    refine repr_fold q hq l _ (fun d hd => hl d (List.mem_cons_of_mem _ hd)) fun x hx => ?_
    rw [Array.toList_append] at hx
    rcases List.mem_append.mp hx with hx | hx
    · exact h x hx
    · exact repr_char c (hl c (List.mem_cons_self ..)) q hq x hx
theorem asc_repr {z : Str} (h : Vd.asc z = true) : Vd.asc (PyData.str z).shown = true := by
  have h0 : ∀ c ∈ z.cps.toList, c < 128 := fun c hc => of_decide_eq_true (List.all_eq_true.mp h c hc)
  have hq : reprQuote z = 34 ∨ reprQuote z = 39 := by
    unfold reprQuote
    split
    · exact .inl rfl
    · exact .inr rfl
  refine List.all_eq_true.mpr fun c hc => decide_eq_true ?_
  simp only [PyData.shown] at hc
  unfold reprText at hc
  rw [← Array.foldl_toList, Array.toList_push] at hc
  have q128 : reprQuote z < 128 := by rcases hq with e | e <;> rw [e] <;> decide
  rcases List.mem_append.mp hc with hc | hc
  · refine repr_fold _ hq _ _ h0 (fun x hx => ?_) c hc
    have : x = reprQuote z := by simpa using hx
    rw [this]
    exact q128
  · rw [List.mem_singleton.mp hc]
    exact q128
theorem repr_len (q : Nat) (hq : q = 34 ∨ q = 39) : ∀ (l : List Nat) (acc : Array Nat), (∀ c ∈ l, c < 128) → (l.foldl (fun out c => out ++ (PySem.Builtin.Str.reprChar q c).toArray) acc).size ≤ acc.size + 4 * l.length
  | [], acc, _ => by simp
  | c :: l, acc, hl => by
    have h4 : (PySem.Builtin.Str.reprChar q c).length ≤ 4 := by
      have h : ((List.range 128).all fun c => decide ((PySem.Builtin.Str.reprChar 34 c).length ≤ 4) && decide ((PySem.Builtin.Str.reprChar 39 c).length ≤ 4)) = true := by decide +kernel
      have h1 := List.all_eq_true.mp h c (List.mem_range.mpr (hl c (List.mem_cons_self ..)))
      obtain ⟨h2, h3⟩ := Bool.and_eq_true_iff.mp h1
      rcases hq with rfl | rfl
      · exact of_decide_eq_true h2
      · exact of_decide_eq_true h3
    have ih := repr_len q hq l (acc ++ (PySem.Builtin.Str.reprChar q c).toArray) fun d hd => hl d (List.mem_cons_of_mem _ hd)
    simp only [Array.size_append, List.size_toArray] at ih
    rw [List.foldl_cons, List.length_cons]
    omega
theorem shown_len {z : Str} (h : Vd.asc z = true) : (PyData.str z).shown.length ≤ 4 * z.length + 2 := by
  have h0 : ∀ c ∈ z.cps.toList, c < 128 := fun c hc => of_decide_eq_true (List.all_eq_true.mp h c hc)
  have hq : reprQuote z = 34 ∨ reprQuote z = 39 := by
    unfold reprQuote
    split
    · exact .inl rfl
    · exact .inr rfl
  simp only [PyData.shown]
  unfold reprText
  show ((z.cps.foldl (fun out c => out ++ (reprChar (reprQuote z) c).toArray) #[reprQuote z]).push (reprQuote z)).size ≤ _
  rw [Array.size_push, ← Array.foldl_toList]
  have := repr_len (reprQuote z) hq z.cps.toList #[reprQuote z] h0
  have e : z.length = z.cps.toList.length := len_tl z
  simp at this
  rw [e]
  simp
  omega
theorem asc_big {z : Str} (h : Vd.asc z = true) : ∀ c ∈ z.cps.toList, c < 16 ^ 8 := fun c hc => by
  have := of_decide_eq_true (List.all_eq_true.mp h c hc)
  exact Nat.lt_trans this (by decide)
end Pg
namespace K5
open PySem PySem.Spec PyProof.Rows L2 Gd Rl Vd Nu TL Ow Sz Hy
open Pg (top FnP Mo FunP Arm namesD saysD armsD fD OkP ProgAt spGet sGn sGs sGb)
abbrev sTold : Stmt := top 64
/-- where the properties stand -/
structure Prs (K : PySem.W.Frag) (C : Addr) (p1 p2 p3 g1 g2 g3 : Addr) (d1 d2 d3 : FuncData) : Prop where
  n : PropOf K C "names" p1 g1
  s : PropOf K C "sayings" p2 g2
  b : PropOf K C "branches" p3 g3
  fn : FunP K "names" "Program.names" sGn g1 d1
  fs : FunP K "sayings" "Program.sayings" sGs g2 d2
  fb : FunP K "branches" "Program.branches" sGb g3 d3
section
variable {P : Program} {w : World} {K : PySem.W.Frag} {mg : Str → Option Value} {base : Heap} {f C : Addr} {fd : FuncData}
def spTold (K : PySem.W.Frag) (C : Addr) : Sp := fun vs H Q _ => ∃ (p : Addr) (ns : List Str) (ss : List (Str × List Int)) (as : List Arm), vs = [.ref p] ∧ ProgAt K C H p ns ss as ∧ OkP ns ss as ∧
  ∀ (l : Addr) (u v z : V) (H' : Hp), New H l (.lst [u, v, z]) H' → Dp K H u (namesD ns) → Dp K H v (saysD ss) → Dp K H z (armsD as) → Q (.ref l) H'
theorem scTold : FnScope ["_law_mine"] ["_law_mine"] (defScope sTold) := ⟨rfl, rfl, rfl, by decide +kernel, rfl, by decide +kernel, by decide +kernel⟩
theorem ok_told {p1 p2 p3 g1 g2 g3 : Addr} {d1 d2 d3 : FuncData} (F : FnP K "_law_told" sTold f fd) (X : Pg.Txt K mg C) (R : Prs K C p1 p2 p3 g1 g2 g3 d1 d2 d3) : FnOk P w K mg base CX0 3 f fd ["_law_mine"] (spTold K C) := by
  have H1 : FnOk P w K mg base CX0 1 g1 d1 ["self"] (spGet K C fun ns ss as v H => Dp K H v (namesD ns)) := Pg.ok_gnames R.fn X
  have b1 : Binds K d1 ["self"] [] := R.fn.bindsN fun _ _ _ _ _ _ us hl => match us, hl with | [_], _ => rfl
  have H2 : FnOk P w K mg base CX0 1 g2 d2 ["self"] (spGet K C fun ns ss as v H => Dp K H v (saysD ss)) := Pg.ok_gsayings R.fs X
  have b2 : Binds K d2 ["self"] [] := R.fs.bindsN fun _ _ _ _ _ _ us hl => match us, hl with | [_], _ => rfl
  have H3 : FnOk P w K mg base CX0 1 g3 d3 ["self"] (spGet K C fun ns ss as v H => Dp K H v (armsD as)) := Pg.ok_gbranches R.fb X
  have b3 : Binds K d3 ["self"] [] := R.fb.bindsN fun _ _ _ _ _ _ us hl => match us, hl with | [_], _ => rfl
  refine F.ok scTold (fun vs H Q E h => ?_) (fun cdv A outer s H vs Q E hr h => ?_)
  · obtain ⟨p, ns, ss, as, rfl, _⟩ := h
    rfl
  · obtain ⟨p, ns, ss, as, rfl, hp, ok, k⟩ := h
    refine ⟨_, PSs.nox <| pss_one (ps_ret (pe_lstR (pa_cons (pe_prop (pv 0) X.cl R.n H1 hr b1 .nil pass0 (by rfl)) (pa_cons (pe_prop (pv 0) X.cl R.s H2 hr b2 .nil pass0 (by rfl)) (pa_cons (pe_prop (pv 0) X.cl R.b H3 hr b3 .nil pass0 (by rfl)) pa_nil))))), ?_⟩
    obtain ⟨dx, _, _, _, _, hx, _⟩ := id hp
    exact ⟨_, rfl, p, dx, _, rfl, hx, p, ns, ss, as, rfl, hp, ok, fun u hu => ⟨_, rfl, p, dx, _, rfl, hx, p, ns, ss, as, rfl, hp, ok, fun v hv => ⟨_, rfl, p, dx, _, rfl, hx, p, ns, ss, as, rfl, hp, ok, fun z hz => ⟨(show 3 ≤ 1000 by decide), fun l H' n => k l u v z H' n hu hv hz⟩⟩⟩⟩
end
end K5
set_option Elab.async false
set_option linter.all false
set_option maxRecDepth 100000
set_option maxHeartbeats 16000000
namespace K5
open PySem PySem.Spec PyProof.Rows L2 Gd Rl Nu TL Ow Sz Hy LamX Vd
open Pg (top FnP Arm namesD saysD armsD fD OkP ProgAt Mo Defs Mkr FunP sIni sRd spLl sLs sLw sLa sLl nolD textS Bx ReadW spRdV)
abbrev sRight : Stmt := top 65
theorem sh_str4 {z : Str} {n : Nat} (h : Vd.asc z = true) (hn : z.length ≤ n) : Sh (.str z) (4 * n + 2) 1 := by
  refine ⟨?_, ?_, ?_⟩
  · have := Pg.shown_len h
    omega
  · simp only [PyData.showable]
  · simp only [PyData.depth]
    decide
/-- what is told -/
def backD (ns : List Str) (ss : List (Str × List Int)) (as : List Arm) : PyData := .list [.str "back", .list [namesD ns, saysD ss, armsD as]]
def noD' (s : Str) : PyData := .list [.str "InvalidText", .str s]
theorem sh_back {ns : List Str} {ss : List (Str × List Int)} {as : List Arm} (ok : OkP ns ss as) : Sh (backD ns ss as) 20000 7 := by
  have q : Sh (.list [namesD ns, saysD ss, armsD as]) 8500 6 := by
    refine (sh_lst (n := 2828) (k := 5) fun d hd => ?_).mono (show 3 * (2828 + 2) + 2 ≤ 8500 by decide) (by decide)
    simp only [List.mem_cons, List.not_mem_nil, or_false] at hd
    rcases hd with rfl | rfl | rfl
    · exact (Pg.sh_names ok.n.nm ok.n.three).mono (by decide) (by decide)
    · exact (Pg.sh_says ok).mono (by decide) (by decide)
    · exact Pg.sh_arms ok
  refine (sh_lst (n := 8500) (k := 6) fun d hd => ?_).mono (show 2 * (8500 + 2) + 2 ≤ 20000 by decide) (by decide)
  simp only [List.mem_cons, List.not_mem_nil, or_false] at hd
  rcases hd with rfl | rfl
  · exact ⟨by decide +kernel, by decide +kernel, by decide +kernel⟩
  · exact q
theorem sh_no {s : Str} (h : Vd.asc s = true) (hl : s.length ≤ 910000) : Sh (noD' s) 8000000 7 := by
  have q := sh_str4 h hl
  refine (sh_lst (n := 3640002) (k := 1) fun d hd => ?_).mono (show 2 * (3640002 + 2) + 2 ≤ 8000000 by decide) (by decide)
  simp only [List.mem_cons, List.not_mem_nil, or_false] at hd
  rcases hd with rfl | rfl
  · exact ⟨by decide +kernel, by decide +kernel, by decide +kernel⟩
  · exact q.mono (by decide) (Nat.le_refl _)
section
variable {K : PySem.W.Frag} {C c0 : Addr}
/-- a text, read and told -/
theorem tt_text {tl' : (XK → Hp → VK → Prop)} {H : Hp} {Q : VK} {t : Str}
    (htl : ∀ E (Q' : VK), spRdV K C c0 [.ref C, .str t] H (fun y H' => spTold K C [y] H' Q' C8.E0) E → tl' E H Q') (hr : Pg.Read t) (ha : Vd.asc t = true) (hl : t.length ≤ 227000)
    (kY : ∀ ns ss as, t = textS ns ss as → OkP ns ss as → ∀ l H2, Same H H2 → Dp K H2 (.ref l) (backD ns ss as) → Q (.ref l) H2)
    (kN : (∀ ns ss as, OkP ns ss as → t ≠ textS ns ss as) → ∀ l H2, Same H H2 → Dp K H2 (.ref l) (noD' (PyData.str t).shown) → Q (.ref l) H2) : TTans K (known c0) tl' H Q := by
  refine htl _ _ (.inl ⟨t, rfl, hr, fun ns ss as e ok x H' s g => ?_, fun no H1 dd s1 nd => ?_⟩)
  · refine ⟨x, ns, ss, as, rfl, g, ok, fun l u v z H2 n hu hv hz => ⟨_, rfl, (show 2 ≤ 1000 by decide), fun l3 H3 n3 => ?_⟩⟩
    have s3 := n.2.2.trans n3.2.2
    exact kY ns ss as e ok l3 H3 (s.trans s3) (.lst (SqL.of n3.2.1) (.cons (.str _) (.cons (.lst (SqL.of (n3.2.2 _ _ n.2.1)) (.cons (dp_same s3 _ hu) (.cons (dp_same s3 _ hv) (.cons (dp_same s3 _ hz) .nil)))) .nil)))
  · have s3 := s1.trans (same_new (o := .xd [("given", .str t)]) nd)
    have q := sh_str4 ha hl
    exact ⟨(c0, "InvalidText", "given"), dd, _, .str t, List.mem_singleton.mpr rfl, rfl, rfl, upd_same, ⟨.inl (.str _), q.sh, Nat.le_trans q.dp (by decide), Nat.le_trans q.len (by decide)⟩, fun l H3 n3 => kN no l H3 (s3.trans n3.2.2) (.lst (SqL.of n3.2.1) (.cons (.str _) (.cons (.str _) .nil)))⟩
/-- no text -/
theorem tt_none {tl' : (XK → Hp → VK → Prop)} {H : Hp} {Q : VK} {v : V} {d : PyData}
    (htl : ∀ E (Q' : VK), spRdV K C c0 [.ref C, v] H (fun y H' => spTold K C [y] H' Q' C8.E0) E → tl' E H Q') (hv : Rp K H v d) (hd : ∀ z, d ≠ .str z) (ok : ThOk d)
    (kN : ∀ l H2, Same H H2 → Dp K H2 (.ref l) (noD' d.shown) → Q (.ref l) H2) : TTans K (known c0) tl' H Q := by
  refine htl _ _ (.inr ⟨v, d, rfl, hv, hd, fun dd nd => ?_⟩)
  have s3 := same_new (o := .xd [("given", v)]) nd
  exact ⟨(c0, "InvalidText", "given"), dd, _, d, List.mem_singleton.mpr rfl, rfl, rfl, upd_same, ⟨rp_same s3 hv, ok.sh, Nat.le_trans ok.dp (by decide), sz1000 ok.len⟩, fun l H3 n3 => kN l H3 (s3.trans n3.2.2) (.lst (SqL.of n3.2.1) (.cons (.str _) (.cons (.str _) .nil)))⟩
end
/-! ### how far a text is bent -/
def lvM : Nat → Nat
  | 0 => 9
  | n + 1 => 2 * lvM n + 9
def lvL : Nat → Nat
  | 0 => 114
  | n + 1 => 2 * lvL n + 9
def lvN : Nat → Nat
  | 0 => 28
  | n + 1 => 2 * lvN n + 1
theorem lv2 : ∀ j, j < 3 → lvL j ≤ 500 ∧ lvN j ≤ 200
  | 0, _ => by decide
  | 1, _ => by decide
  | 2, _ => by decide
  | j + 3, h => by omega
theorem lv3 : ∀ j, j ≤ 3 → lvM j ≤ 135 ∧ lvL j ≤ 975 ∧ lvN j ≤ 231
  | 0, _ => by decide
  | 1, _ => by decide
  | 2, _ => by decide
  | 3, _ => by decide
  | j + 4, h => by omega
/-- a value that is read -/
def Val (K : PySem.W.Frag) (H : Hp) (v : V) : Prop := ∃ d, Rp K H v d ∧ ((∃ t, d = .str t ∧ Bx 135 975 231 (tl t)) ∨ ((∀ z, d ≠ .str z) ∧ ThOk d))
theorem val_thing {K : PySem.W.Frag} {H : Hp} {v : V} (h : Thing K H v) : Val K H v := by
  obtain ⟨d, r, _, ok⟩ := h
  by_cases hs : ∃ z, d = .str z
  · obtain ⟨z, rfl⟩ := hs
    obtain ⟨h1, h2⟩ := ok.z z rfl
    refine ⟨_, r, .inl ⟨z, rfl, (Bx.short (k := 10) (by rw [← len_tl]; exact h1) fun c hc => of_decide_eq_true (List.all_eq_true.mp h2 c hc)).mono (by decide) (by decide) (by decide)⟩⟩
  · exact ⟨d, r, .inr ⟨fun z e => hs ⟨z, e⟩, ok⟩⟩
structure Bl2 (mg : Str → Option Value) : Prop where
  repr : mg "repr" = none
/-- where the law's greater defs stand -/
structure Df (K : PySem.W.Frag) (mg : Str → Option Value) (fP fN fS fB fH fR fT : Addr) (dP dN dS dB dH dR dT : FuncData) : Prop where
  p : FnP K "_law_parts" sParts fP dP
  n : FnP K "_law_answer" sAns fN dN
  s : FnP K "_law_sort" sSort fS dS
  b : FnP K "_law_bent_said" sBs fB dB
  h : FnP K "_law_thing" sThing fH dH
  r : FnP K "_law_read" sRead fR dR
  t : FnP K "_law_told" sTold fT dT
  gp : mg "_law_parts" = some (.ref fP)
  gn : mg "_law_answer" = some (.ref fN)
  gs : mg "_law_sort" = some (.ref fS)
  gb : mg "_law_bent_said" = some (.ref fB)
  gh : mg "_law_thing" = some (.ref fH)
  gr : mg "_law_read" = some (.ref fR)
  gt : mg "_law_told" = some (.ref fT)
abbrev lamQ : Str := (envOfC "_law_right" (defScope sRight) 0 0 .none).qual ++ "<lambda>"
def spRight (T : List (Addr × Str)) : Sp := fun vs H Q _ => ∃ p, vs = [.ref p] ∧ Pail H p ∧ Tabs T H ∧ ∀ H', ButT p H H' → Tabs T H' → Q (.bl true) H'
abbrev nRight : List Str := ["_law_pail", "_law_turn", "_law_said", "_law_again", "_law_value", "_law_parts_here", "_law_due"]
theorem scRight : FnScope nRight ["_law_pail"] (defScope sRight) := ⟨rfl, rfl, rfl, by decide +kernel, rfl, by decide +kernel, by decide +kernel⟩
section
variable {P : Program} {w : World} {K : PySem.W.Frag} {mg : Str → Option Value} {base : Heap} {f C : Addr} {fd : FuncData}
variable {fI fN fF fS fU fCN fCS fCB fY fB fP fX fW fA fO : Addr} {dI dN dF dS dU dCN dCS dCB dY dB dP dX dW dA dO : FuncData}
theorem ok_right {cC cA cT cW cF mcp fRd fLw fLa fLl fLs qP qN qS qB qH qR qT rG rF rT rO rW rA rS rN rY rR p1 p2 p3 g1 g2 g3 c0 b0 b1 b2 cR tR : Addr} {mc : Value} {eC eA eT eW eF dRd dLw dLa dLl dLs eP eN eS eB eH eR eT2 sG sF sT sO sW sA sS sN sY sR d1 d2 d3 : FuncData} {LT : List (Addr × Str)} (F : FnP K "_law_right" sRight f fd) (T : Bl mg) (R : RangeB mg) (U : Bl2 mg) (M0 : Mo mg) (G : Dr K mg cC cA cT cW cF eC eA eT eW eF)
    (X : Pg.Txt K mg C) (Z : Rdr K C mcp fRd mc dRd) (GRd : FnOk P w K mg base (L2.CX P w) 9 fRd dRd ["cls", "text"] (spRdV K C c0)) (L : Tx K mg fLw fLa fLl fLs dLw dLa dLl dLs) (Pr : Prs K C p1 p2 p3 g1 g2 g3 d1 d2 d3) (B : Df K mg qP qN qS qB qH qR qT eP eN eS eB eH eR eT2) (Rd : Rs K mg rG rF rT rO rW rA rS rN rY rR sG sF sT sO sW sA sS sN sY sR)
    (BB : Bas K mg b0 b1 b2) (ER : Errs K mg b0 b1 b2 c0) (US : BlS mg) (TB : TabB base mg cR tR) (hLT : (tR, lamQ) ∈ LT) (hLU : ∀ q ∈ LT, q.1 = tR → q.2 = lamQ) (HC : ∀ c, CodeAt K f c → c = cR) : FnG P w K mg base 13 f fd ["_law_pail"] (spRight LT) := by
  have GC : FnOk P w K mg base CX0 1 cC eC ["_law_pail", "_law_many"] spCast := ok_cast G.c T
  have bC : Binds K eC ["_law_pail", "_law_many"] [] := G.c.bindsN fun _ _ _ _ _ _ us hl => match us, hl with | [_, _], _ => rfl
  have GP : FnOk P w K mg base CX0 5 qP eP ["_law_pail"] (spParts K) := ok_parts B.p T R G
  have bP : Binds K eP ["_law_pail"] [] := B.p.bindsN fun _ _ _ _ _ _ us hl => match us, hl with | [_], _ => rfl
  have GS : FnOk P w K mg base CX0 4 fLs dLs ["_law_parts_here"] (spLl K fun ns ss as y _ => y = .str (textS ns ss as)) := Pg.ok_ls L.s M0 L.w L.gw L.a L.ga L.l L.gl
  have bS : Binds K dLs ["_law_parts_here"] [] := L.s.bindsN fun _ _ _ _ _ _ us hl => match us, hl with | [_], _ => rfl
  have GB : FnOk P w K mg base CX0 3 qB eB ["_law_pail", "_law_said"] (spBs K) := ok_bs B.b T G.c G.gc G.a G.ga
  have bB : Binds K eB ["_law_pail", "_law_said"] [] := B.b.bindsN fun _ _ _ _ _ _ us hl => match us, hl with | [_, _], _ => rfl
  have GH : FnOk P w K mg base CX0 3 qH eH ["_law_pail"] (spThing K) := ok_thing B.h T G.a G.ga G.c G.gc
  have bH : Binds K eH ["_law_pail"] [] := B.h.bindsN fun _ _ _ _ _ _ us hl => match us, hl with | [_], _ => rfl
  have GR : FnOk P w K mg base CX0 5 qR eR ["_law_said"] (spRead K) := ok_read B.r M0 R T.abs Rd
  have bR : Binds K eR ["_law_said"] [] := B.r.bindsN fun _ _ _ _ _ _ us hl => match us, hl with | [_], _ => rfl
  have GT : FnOk P w K mg base CX0 3 qT eT2 ["_law_mine"] (spTold K C) := ok_told B.t X Pr
  have bT : Binds K eT2 ["_law_mine"] [] := B.t.bindsN fun _ _ _ _ _ _ us hl => match us, hl with | [_], _ => rfl
  have GO : FnQ P w K mg base 1 qS eS ["_law_e"] (spSort K (known c0)) := ok_sort B.s BB US ER
  have bN : Binds K eN ["_law_call_here"] [] := B.n.bindsN fun _ _ _ _ _ _ us hl => match us, hl with | [_], _ => rfl
  have bRd : Binds K dRd ["cls", "text"] [] := Z.f.bindsN fun _ _ _ _ _ _ us hl => match us, hl with | [_, _], _ => rfl
  have kN := B.n.kp
  obtain ⟨oc, od, dV, kV, doc, pm, an, cdn, ct, osl, rfl, lkN, hcdN, _, _⟩ := B.n.ex
  refine okGc F scRight (fun vs H Q E h => ?_) (fun c A outer s H vs Q E hcode hgd hr h => ?_)
  · obtain ⟨p, rfl, _⟩ := h
    rfl
  · obtain ⟨p, rfl, hp, hT, k⟩ := h
    cases HC c hcode
    have hr1 := hr.mono (show 1 ≤ 12 by decide)
    have hr2 := hr.mono (show 2 ≤ 12 by decide)
    have hr3 := hr.mono (show 3 ≤ 12 by decide)
    have hr4 := hr.mono (show 4 ≤ 12 by decide)
    have hr5 := hr.mono (show 5 ≤ 12 by decide)
    have hr11 := hr.mono (show 9 + 2 ≤ 12 by decide)
    refine ⟨_, PSs.nox <| pss_cons (ps_for PassesOwn.never rfl (pi_range1 (by rfl) R.range (pa_cons pe_int pa_nil)) (pg_name (i := 1) scRight.nd rfl (.inl rfl))
        (pss_cons (ps_set (i := 2) scRight.nd rfl (.inl rfl) (pe_call GS hr4 (by rfl) L.gs L.s.kp bS .nil pass0 (pa_cons (pe_call GP hr5 (by rfl) B.gp B.p.kp bP .nil pass0 (pa_cons (pv 0) pa_nil)) pa_nil)))
        <| pss_cons (ps_for PassesOwn.never rfl (pi_range1 (by rfl) R.range (pa_cons (pe_call GC hr1 (by rfl) G.gc G.c.kp bC .nil pass0 (pa_cons (pv 0) (pa_cons pe_int pa_nil))) pa_nil)) (pg_name (i := 3) scRight.nd rfl (.inl rfl))
            (pss_one (ps_set (i := 2) scRight.nd rfl (.inl rfl) (pe_call GB hr3 (by rfl) B.gb B.b.kp bB .nil pass0 (pa_cons (pv 0) (pa_cons (pv 2) pa_nil))))))
        <| pss_cons (ps_set (i := 4) scRight.nd rfl (.inr rfl) (pe_ifExp (pt_cmpR op_gt (pe_call GC hr1 (by rfl) G.gc G.c.kp bC .nil pass0 (pa_cons (pv 0) (pa_cons pe_int pa_nil))) pe_int (nomark _)) (pv 2) (pe_call GH hr3 (by rfl) B.gh B.h.kp bH .nil pass0 (pa_cons (pv 0) pa_nil))))
        <| pss_cons (ps_set (i := 5) scRight.nd rfl (.inl rfl) (pe_ifExp (pt_val (pe_callB (call_isD (T := "str")) (by rfl) M0.isi boot_isinstance (pa_cons (pv 4) (pa_cons (pe_bltn (v := .ty "str") (by rfl) M0.str (by decide +kernel) rfl) pa_nil)))) (pe_call GR hr5 (by rfl) B.gr B.r.kp bR .nil pass0 (pa_cons (pv 4) pa_nil)) (pe_lstR pa_nil)))
        <| pss_cons (ps_set (i := 6) scRight.nd rfl (.inl rfl) (pe_ifExp (pt_cmpR (op_neE hr.units) (pv 5) (pe_lstR pa_nil) (nomark _)) (pe_lstR (pa_cons pe_str (pa_cons (pv 5) pa_nil))) (pe_lstR (pa_cons pe_str (pa_cons (pe_callB (call_repr hgd hr.units) (by rfl) U.repr boot_repr (pa_cons (pv 4) pa_nil)) pa_nil)))))
        <| pss_one (ps_if (pt_cmpR op_ne (pe_callB (call_repr hgd hr.units) (by rfl) U.repr boot_repr (pa_cons (pe_lamcall (T := LT) (TT := TTans K (known c0)) (by rfl) B.gn kN lkN hcdN bN scAns rfl (.inl rfl) (ans_gives rfl rfl hr2 hgd BB ER B.s B.gs GO) TB rfl hLT hLU hr11 (lamS_by (by show lamSB (defScope sRight) _ = true; decide +kernel)) rfl (fun _ _ _ _ _ => rfl)
                (fun A outer s H E f c' hr' => pe_call (E := C8.E0) GT (hr'.mono (show 3 ≤ 9 by decide)) (by rfl) B.gt B.t.kp bT .nil pass0 (pa_cons (ClX.pe_cmeth (E := E) (pe_glob (v := .ref C) (by rfl) X.g rfl) Z.r Z.m (GRd.raw bRd .nil) hr' (passes_call (takes_of rfl rfl rfl rfl) fun _ _ _ _ h => h) (pa_cons (pv 4) pa_nil)) pa_nil))) pa_nil))
              (pe_callB (call_repr hgd hr.units) (by rfl) U.repr boot_repr (pa_cons (pv 6) pa_nil)) (nomark _)) (pss_one (ps_ret pe_bl)) pss_nil)))
      <| pss_one (ps_ret pe_bl), ?_⟩
    refine ⟨8, rfl, by decide, by decide, for_range (lo := 0) (n := 8) (fun i σ H' => ∃ y1 y2 y3 y4 y5 y6 : Option V, σ = [some (.ref p), y1, y2, y3, y4, y5, y6] ∧ Pail H' p ∧ ButT p H H' ∧ Tabs LT H') ⟨_, _, _, _, _, _, rfl, hp, ButT.refl, hT⟩ ?_ ?_⟩
    · rintro i σ H8 hi ⟨y1, y2, y3, y4, y5, y6, rfl, hp8, b8, t8⟩
      -- a text, bent
      refine ⟨_, rfl, p, rfl, hp8, fun r u v z ns ss as H9 ok nr er hu hv hz hp9 b9 => ⟨r, u, v, z, _, ns, ss, as, rfl, er, hu, hv, hz, ok.t, fun y H10 s10 ey => ?_⟩⟩
      subst ey
      have hp10 := hp9.same s10
      have b10 : But p H8 H10 := b9.trans (but_same s10)
      have bx0 : Bx (lvM 0) (lvL 0) (lvN 0) (tl (textS ns ss as)) := Pg.text_bx ok.n.one ok.t
      clear hu hv hz er nr s10 hp9 b9
      refine ⟨_, rfl, p, _, rfl, hp10, by decide, by decide, fun k4 H11 k0 k1 hp11 b11 => ?_⟩
      obtain ⟨n4, rfl⟩ := Int.eq_ofNat_of_zero_le k0
      refine ⟨_, rfl, by omega, by omega, for_range (lo := 0) (n := ((n4 : Nat) : Int).toNat) (fun j σ H' => ∃ (t : Str) (x3 : Option V), σ = [some (.ref p), some (.int (0 + (i : Nat))), some (.str t), x3, y4, y5, y6] ∧ Bx (lvM j) (lvL j) (lvN j) (tl t) ∧ Pail H' p ∧ But p H8 H') ⟨_, _, rfl, bx0, hp11, b10.trans b11⟩ ?_ ?_⟩
      · rintro j σ H12 hj ⟨t, x3, rfl, bx, hp12, b12⟩
        obtain ⟨l1, l2⟩ := lv2 j (by omega)
        refine ⟨_, rfl, _, rfl, p, t, _, _, _, rfl, hp12, bx, l1, l2, fun t' H13 bx' hp13 b13 => ?_⟩
        exact ⟨t', _, rfl, bx', hp13, b12.trans b13⟩
      rintro σ H12 ⟨t, x3, rfl, bx, hp12, b12⟩
      obtain ⟨l1, l2, l3⟩ := lv3 n4 (by omega)
      replace bx : Bx 135 975 231 (tl t) := bx.mono l1 l2 l3
      clear bx0 hp10 b10 hp11 b11 k0 k1
      -- the value
      refine ⟨_, rfl, p, _, rfl, hp12, by decide, by decide, fun k6 H13 _ _ hp13 b13 => ⟨_, _, rfl, rfl, _, rfl, ?_⟩⟩
      refine if_val (fun y H' => Val K H' y ∧ Pail H' p ∧ But p H8 H') (fun hb R c => ?_) (fun hb R c => ?_) (fun v H14 q => ?_)
      · exact ⟨_, rfl, c _ _ ⟨⟨_, .inl (.str _), .inl ⟨t, rfl, bx⟩⟩, hp13, b12.trans b13⟩⟩
      · refine ⟨_, rfl, p, rfl, hp13, fun v H' th hp' b' => c _ _ ⟨?_, hp', b12.trans (b13.trans b')⟩⟩
        obtain ⟨d, r, ok⟩ := val_thing th
        exact ⟨d, rp_same same_to r, ok⟩
      obtain ⟨⟨d, hv, hd⟩, hp14, b14⟩ := q
      have t14 := tabs_but t8 hp8 b14
      have b014 : ButT p H H14 := b8.trans b14.t
      clear hp12 b12 hp13 b13 bx t8 hp8 b8 b14 l1 l2 l3
      refine ⟨_, rfl, v, d, _, rfl, hv, kit_str d, _, rfl, ?_⟩
      have big : ∀ {n : Nat}, n ≤ 8000000 → n ≤ sizeLine := fun {n} h => by
        have : sizeLine = 16777216 := by decide
        omega
      -- what is read
      rcases hd with ⟨t, rfl, bx⟩ | ⟨hd, ok⟩
      · have hvv : v = .str t := by
          rcases hv with h | ⟨_, _, _, _, _, _, e⟩
          · cases h
            rfl
          · cases e
        subst hvv
        refine iteT ?_
        have asct := bx.asct
        have tlen : t.length ≤ 227000 := by
          have := bx.long
          omega
        have rw' := bx.read (by decide) (by decide) (by decide)
        have sT := sh_str4 asct tlen
        have sN := sh_no (Pg.asc_repr asct) (by have := Pg.shown_len asct; omega)
        refine ⟨_, rfl, t, rfl, rw', fun ns' ss' as' e ok' r u w' z H15 s15 er hu hw hz => ?_, fun no r H15 s15 er => ?_⟩
        · refine ⟨_, rfl, (show 0 ≤ 1000 by decide), fun le He ne => ⟨r, le, _, rfl, rfl, SqL.of (ne.2.2 _ _ er), SqL.of ne.2.1, _, rfl, ?_⟩⟩
          refine iteT ?_
          refine ⟨_, rfl, (show 2 ≤ 1000 by decide), fun ld Hd nd => ?_⟩
          have sd := s15.trans (ne.2.2.trans nd.2.2)
          have s5d := ne.2.2.trans nd.2.2
          have due : Dp K Hd (.ref ld) (backD ns' ss' as') := .lst (SqL.of nd.2.1) (.cons (.str _) (.cons (.lst (SqL.of (s5d _ _ er)) (.cons (dp_same s5d _ hu) (.cons (dp_same s5d _ hw) (.cons (dp_same s5d _ hz) .nil)))) .nil))
          have sB := sh_back ok'
          refine ⟨tabs_same t14 sd, fun H16 e16 t16 => ?_⟩
          refine tt_text (t := t) (fun E Q' h => ⟨rfl, _, rfl, h⟩) rw'.r asct tlen (fun ns2 ss2 as2 e2 ok2 l H17 s17 dl => ?_) (fun no _ _ _ _ => absurd e (no ns' ss' as' ok'))
          obtain ⟨f1, f2, f3⟩ := Pg.read_right ok2
          obtain ⟨h1, h2, h3⟩ := Pg.read_right ok'
          rw [← e2] at f1 f2 f3
          rw [← e] at h1 h2 h3
          have g1 : ns2 = ns' := f1.symm.trans h1
          have g2 : ss2 = ss' := f2.symm.trans h2
          have g3 : as2 = as' := f3.symm.trans h3
          subst g1 g2 g3
          have e17 := e16.trans (same_ext s17)
          refine ⟨_, backD ns2 ss2 as2, rfl, .inl dl, sB.sh, Nat.le_trans sB.dp (by decide), big (Nat.le_trans sB.len (by decide)), _, rfl, _, backD ns2 ss2 as2, rfl, .inl (dp_ext e17 _ due), sB.sh, Nat.le_trans sB.dp (by decide), big (Nat.le_trans sB.len (by decide)), ?_⟩
          generalize (backD ns2 ss2 as2).shown = shw
          refine ⟨rfl, _, rfl, ?_⟩
          refine iteNS rfl ?_
          have eE := (same_ext sd).trans e17
          exact ⟨_, _, _, _, _, _, rfl, hp14.ext eE, b014.trans (ext_t eE), tabs_same t16 s17⟩
        · refine ⟨_, rfl, (show 0 ≤ 1000 by decide), fun le He ne => ⟨r, le, _, rfl, rfl, SqL.of (ne.2.2 _ _ er), SqL.of ne.2.1, _, rfl, ?_⟩⟩
          refine iteF ?_
          refine ⟨_, rfl, _, .str t, rfl, .inl (.str _), sT.sh, Nat.le_trans sT.dp (by decide), big (Nat.le_trans sT.len (by decide)), (show 2 ≤ 1000 by decide), fun ld Hd nd => ?_⟩
          have sd := s15.trans (ne.2.2.trans nd.2.2)
          have due : Dp K Hd (.ref ld) (noD' (PyData.str t).shown) := .lst (SqL.of nd.2.1) (.cons (.str _) (.cons (.str _) .nil))
          refine ⟨tabs_same t14 sd, fun H16 e16 t16 => ?_⟩
          refine tt_text (t := t) (fun E Q' h => ⟨rfl, _, rfl, h⟩) rw'.r asct tlen (fun ns2 ss2 as2 e2 ok2 l H17 s17 dl => absurd e2 (no ns2 ss2 as2 ok2)) (fun _ l H17 s17 dl => ?_)
          have e17 := e16.trans (same_ext s17)
          refine ⟨_, noD' (PyData.str t).shown, rfl, .inl dl, sN.sh, Nat.le_trans sN.dp (by decide), big (Nat.le_trans sN.len (by decide)), _, rfl, _, noD' (PyData.str t).shown, rfl, .inl (dp_ext e17 _ due), sN.sh, Nat.le_trans sN.dp (by decide), big (Nat.le_trans sN.len (by decide)), ?_⟩
          generalize (noD' (PyData.str t).shown).shown = shw
          refine ⟨rfl, _, rfl, ?_⟩
          refine iteNS rfl ?_
          have eE := (same_ext sd).trans e17
          exact ⟨_, _, _, _, _, _, rfl, hp14.ext eE, b014.trans (ext_t eE), tabs_same t16 s17⟩
      · have sN := sh_no ok.asc (Nat.le_trans ok.len (by decide))
        have no : (match d with | .str _ => true | _ => false) = false → True := fun _ => trivial
        refine Pg.iteBF (by cases d with | str z => exact absurd rfl (hd z) | _ => rfl) ?_
        refine ⟨(show 0 ≤ 1000 by decide), fun r H15 n15 => ?_⟩
        have s15 := n15.2.2
        have er := n15.2.1
        refine ⟨_, rfl, (show 0 ≤ 1000 by decide), fun le He ne => ⟨r, le, _, rfl, rfl, SqL.of (ne.2.2 _ _ er), SqL.of ne.2.1, _, rfl, ?_⟩⟩
        refine iteF ?_
        have sve := s15.trans ne.2.2
        refine ⟨_, rfl, v, d, rfl, rp_same sve hv, ok.sh, Nat.le_trans ok.dp (by decide), sz1000 ok.len, (show 2 ≤ 1000 by decide), fun ld Hd nd => ?_⟩
        have sd := sve.trans nd.2.2
        have due : Dp K Hd (.ref ld) (noD' d.shown) := .lst (SqL.of nd.2.1) (.cons (.str _) (.cons (.str _) .nil))
        refine ⟨tabs_same t14 sd, fun H16 e16 t16 => ?_⟩
        refine tt_none (v := v) (fun E Q' h => ⟨rfl, _, rfl, h⟩) (rp_ext ((same_ext sd).trans e16) hv) hd ok (fun l H17 s17 dl => ?_)
        have e17 := e16.trans (same_ext s17)
        refine ⟨_, noD' d.shown, rfl, .inl dl, sN.sh, Nat.le_trans sN.dp (by decide), big (Nat.le_trans sN.len (by decide)), _, rfl, _, noD' d.shown, rfl, .inl (dp_ext e17 _ due), sN.sh, Nat.le_trans sN.dp (by decide), big (Nat.le_trans sN.len (by decide)), ?_⟩
        generalize (noD' d.shown).shown = shw
        refine ⟨rfl, _, rfl, ?_⟩
        refine iteNS rfl ?_
        have eE := (same_ext sd).trans e17
        exact ⟨_, _, _, _, _, _, rfl, hp14.ext eE, b014.trans (ext_t eE), tabs_same t16 s17⟩
    · rintro σ H2 ⟨x1, x2, x3, x4, x5, x6, rfl, hp2, b2, t2⟩
      exact k H2 b2 t2
end
end K5
set_option Elab.async false
set_option linter.all false
set_option maxRecDepth 100000
set_option maxHeartbeats 8000000
namespace Gd
open PySem PySem.Spec PyProof.Rows L2
/-! a law's end with tables of code objects, its promise kept where nothing is being shown -/
section
variable {P : Program} {w : World} {K : PySem.W.Frag} {mg mb : Str → Option Value} {k : Nat} {fa a : Addr} {fd : FuncData} {x : Str} {sp : Sp} {z : Shared} {vs : List Value} {cs : List (Addr × Addr)}
/-- what is known of the tables -/
structure TabH (K : PySem.W.Frag) (mg : Str → Option Value) (cs : List (Addr × Addr)) (h : Heap) : Prop where
  empty : ∀ p ∈ cs, h.get? p.2 = some { cls := .none, data := .fields #[] }
  out : ∀ p ∈ cs, K.lookup p.2 = none
  code : ∀ p ∈ cs, PySem.W.CodeHd h p.1 p.2
  mod : ∃ (bm : Addr) (ob : Obj), mg "__builtins__" = some (.ref bm) ∧ bm ≠ builtinsNs ∧ h.get? bm = some ob ∧ ob.cls = .type "module" ∧ ob.dict = some builtinsNs ∧ ob.data = .plain
theorem law_coreT {H : Hp} (KX : K.In z.heap) (g1 : z.heap.Ns mainGlobals mg) (g2 : z.heap.Ns builtinsNs mb) (g3 : ∀ y : Str, y ≠ "__name__" → mb y = bootBuiltins y) (g4 : z.heap.NoLimit) (g5 : z.gens = #[]) (T : TabH K mg cs z.heap)
    (ha : z.heap.get? a = some { cls := .type "list", data := .seq vs.toArray }) (hr : Room k callerA) (F : ∀ base : Heap, K.In base → base.Ns mainGlobals mg → (∀ p ∈ cs, LamX.TabB base mg p.1 p.2) → FnG P w K mg base k fa fd [x] sp) (hbind : ∀ (s : Shared) (u : Value), BindsTo s fd ⟨[u], []⟩ [(x, u)])
    (hH : ∀ p ∈ cs, H p.2 = some (.tbl #[])) (only : ∀ b, H b = none ∨ b ∈ cs.map (·.2) ∨ ∃ o xs, H b = some (.frz o (.lst xs))) (hsp : sp [.ref a] H (fun v _ => v = .bl true) fun _ _ _ => False) (ok : HOk P w H z.heap) (hA : ∀ b, H b ≠ none → b = a ∨ b ∈ cs.map (·.2)) (hK : H a ≠ none → K.lookup a = none) :
    codeAny (model P w) callerA (.call (.ref fa) ⟨[.ref a], []⟩) (fun r s' => r = .ok (.ret (.bool true)) ∧ OldK z.heap s'.heap ∧ s'.os = z.os ∧ AllBare s'.gens) z := by
  have tab : ∀ {b : Addr}, b ∈ cs.map (·.2) → ∃ p ∈ cs, p.2 = b := fun {b} hb => List.mem_map.mp hb
  have out : ∀ {b : Addr} {o : Obj}, z.heap.get? b = some o → (∀ xs n, o.data ≠ .seq xs n) → o.data ≠ .fields #[] → H b = none := by
    intro b o e h1 h2
    cases q : H b with
    | none => rfl
    | some u =>
      rcases hA b (by rw [q]; exact fun y => nomatch y) with e' | e'
      · subst e'
        rw [ha] at e
        cases e
        exact absurd rfl (h1 _ _)
      · obtain ⟨p, hp, rfl⟩ := tab e'
        rw [T.empty p hp] at e
        cases e
        exact absurd rfl h2
  have dictOut : ∀ {b : Addr} {o : Obj} {es : Array DictEntry} {ep : Nat}, z.heap.get? b = some o → o.data = .dict es ep → H b = none := fun {b o es ep} e d =>
    out e (fun xs n q => by rw [d] at q; cases q) (fun q => by rw [d] at q; cases q)
  have ns : ∀ {b : Addr} {m : Str → Option Value}, z.heap.Ns b m → (hidT z.heap H).Ns b m := by
    intro b m ⟨o, es, ep, e, d, r⟩
    exact ⟨o, es, ep, hidT_get e (dictOut e d), d, r⟩
  have kin : K.In (hidT z.heap H) := by
    intro b o e
    refine hidT_get (KX b o e) ?_
    cases q : H b with
    | none => rfl
    | some u =>
      rcases hA b (by rw [q]; exact fun y => nomatch y) with e' | e'
      · subst e'
        rw [hK (by rw [q]; exact fun y => nomatch y)] at e
        cases e
      · obtain ⟨p, hp, rfl⟩ := tab e'
        rw [T.out p hp] at e
        cases e
  have mod : Mod K mg (hidT z.heap H) := by
    obtain ⟨mc, h1, h2⟩ := g4
    exact ⟨kin, ns g1, ⟨mb, ns g2, g3⟩, ⟨mc, ns h1, h2⟩⟩
  have tb : ∀ p ∈ cs, LamX.TabB (hidT z.heap H) mg p.1 p.2 := by
    intro p hp
    refine ⟨?_, ?_, fun q => ?_⟩
    · obtain ⟨o, us, file, tf, flags, tg, inF, text, tt, e1, r1, r2, r3, r⟩ := T.code p hp
      refine ⟨o, us, file, tf, flags, tg, inF, text, tt, hidT_get e1 (out e1 (fun xs n q => by rw [r2] at q; cases q) fun q => ?_), r1, r2, r3, r⟩
      rw [r2] at q
      cases q
      simp at r3
    · obtain ⟨bm, ob, b1, b2, b3, b4, b5, b6⟩ := T.mod
      refine ⟨bm, ob, b1, b2, fun q => ?_, fun q => ?_, hidT_get b3 (out b3 (fun xs n q => by rw [b6] at q; cases q) fun q => by rw [b6] at q; cases q), b4, b5, b6⟩
      · obtain ⟨o, es, ep, e, d, _⟩ := g1
        rw [q, e] at b3
        cases b3
        rw [d] at b6
        cases b6
      · rw [q, T.empty p hp] at b3
        cases b3
        cases b6
    · obtain ⟨o, es, ep, e, d, _⟩ := g1
      rw [q, T.empty p hp] at e
      cases e
      cases d
  have e0 : Env0 P w K mg (hidT z.heap H) callerA [] z H :=
    ⟨rfl, mod, fun b o e => of_hidT e, Nat.le_of_eq (hidT_size _ _), trivial, fun b hb => (nomatch (show b ∈ ([] : List Addr) from hb)), ok, .of_eq g5⟩
  refine codeAny_mono ((F _ kin (ns g1) tb).run callerA [] z H ⟨[.ref a], []⟩ [.ref a] [.ref a] _ _ rfl hr e0 (hbind z (.ref a)) (.cons rfl .nil) hsp) fun r s' h => ?_
  cases r with
  | error e => exact h.elim
  | ok fl =>
    cases fl with
    | next => exact h.elim
    | brk => exact h.elim
    | cont => exact h.elim
    | ret u =>
      obtain ⟨v, H', os, bare, un, ok', r', q⟩ := h
      obtain rfl : v = V.bl true := q
      have eu : u = Value.bool true := r'
      subst eu
      have keep : ∀ b o, b ∉ cs.map (·.2) → z.heap.get? b = some o → s'.heap.get? b = some o := fun b o nb e => by
        cases q : H b with
        | none => exact un.keep b o e q (fun y => nomatch (show b ∈ ([] : List Addr) from y)) (fun y => nomatch y)
        | some u =>
          rcases only b with y | y | ⟨ob, xs, y⟩
          · rw [q] at y
            cases y
          · exact absurd y nb
          · obtain ⟨e1, _⟩ := ok b _ y
            obtain ⟨e2, _⟩ := ok' b _ (un.frzs b ob _ y)
            rw [e] at e1
            cases e1
            exact e2
      have grown : ∀ p ∈ cs, ∃ more : Array Value, s'.heap.get? p.2 = some { cls := .none, data := .fields more } := fun p hp => by
        obtain ⟨more, y⟩ := un.tbls p.2 #[] (hH p hp)
        exact ⟨_, ok' p.2 _ y⟩
      refine ⟨rfl, ⟨fun b o e => ?_, fun b o e => ?_⟩, os, bare⟩
      · by_cases hb : b ∈ cs.map (·.2)
        · obtain ⟨p, hp, rfl⟩ := tab hb
          obtain ⟨more, hm⟩ := grown p hp
          rw [T.empty p hp] at e
          cases e
          exact .inr (.inl ⟨((T.code p hp).tab (T.empty p hp)).isCodeTable, rfl, #[], more, rfl, by rw [Array.empty_append]; exact hm⟩)
        · exact .inl (keep b o hb e)
      · by_cases hb : b ∈ cs.map (·.2)
        · obtain ⟨p, hp, rfl⟩ := tab hb
          obtain ⟨more, hm⟩ := grown p hp
          exact ⟨_, hm⟩
        · exact ⟨o, keep b o hb e⟩
theorem law_callT {ns : List Int} (KX : K.In z.heap) (g1 : z.heap.Ns mainGlobals mg) (g2 : z.heap.Ns builtinsNs mb) (g3 : ∀ y : Str, y ≠ "__name__" → mb y = bootBuiltins y) (g4 : z.heap.NoLimit) (g5 : z.gens = #[]) (T : TabH K mg cs z.heap)
    (ha : z.heap.get? a = some { cls := .type "list", data := .seq vs.toArray }) (hi : IntsAre vs ns) (hl : ns.length ≤ sizeLine) (hr : Room k callerA) (F : ∀ base : Heap, K.In base → base.Ns mainGlobals mg → (∀ p ∈ cs, LamX.TabB base mg p.1 p.2) → FnG P w K mg base k fa fd [x] sp) (hbind : ∀ (s : Shared) (u : Value), BindsTo s fd ⟨[u], []⟩ [(x, u)])
    (hsp : ∀ H : Hp, (∀ p ∈ cs, H p.2 = some (.tbl #[])) → SqL K H a (ns.map V.int) → sp [.ref a] H (fun v _ => v = .bl true) fun _ _ _ => False) :
    codeAny (model P w) callerA (.call (.ref fa) ⟨[.ref a], []⟩) (fun r s' => r = .ok (.ret (.bool true)) ∧ OldK z.heap s'.heap ∧ s'.os = z.os ∧ AllBare s'.gens) z := by
  have rv := vals_ints hi
  have lv := hi.length
  have aT : ∀ p ∈ cs, p.2 ≠ a := fun p hp q => by
    have e := T.empty p hp
    rw [q, ha] at e
    cases e
  have mem : ∀ p ∈ cs, p.2 ∈ cs.map (·.2) := fun p hp => List.mem_map.mpr ⟨p, hp, rfl⟩
  have laid : ∀ b, b ∈ cs.map (·.2) → z.heap.get? b = some { cls := .none, data := .fields #[] } := fun b hb => by
    obtain ⟨p, hp, rfl⟩ := List.mem_map.mp hb
    exact T.empty p hp
  cases hk : K.lookup a with
  | some o =>
    have e := KX a o hk
    rw [ha] at e
    cases e
    let H : Hp := fun b => if b ∈ cs.map (·.2) then some (.tbl #[]) else none
    have on : ∀ b, b ∈ cs.map (·.2) → H b = some (.tbl #[]) := fun b hb => if_pos hb
    have off : ∀ b, b ∉ cs.map (·.2) → H b = none := fun b hb => if_neg hb
    have sq : SqL K H a (ns.map V.int) := .inr ⟨_, vs.toArray, _, hk, rfl, rfl, rfl, by rw [List.size_toArray, lv]; exact hl, by simpa using rv⟩
    have na : H a = none := off a fun q => by
      obtain ⟨p, hp, e⟩ := List.mem_map.mp q
      exact aT p hp e
    refine law_coreT (H := H) KX g1 g2 g3 g4 g5 T ha hr F hbind (fun p hp => on _ (mem p hp)) (fun b => ?_) (hsp H (fun p hp => on _ (mem p hp)) sq) (fun b u y => ?_) (fun b y => ?_) fun y => absurd na y
    · by_cases hb : b ∈ cs.map (·.2)
      · exact .inr (.inl hb)
      · exact .inl (off b hb)
    · by_cases hb : b ∈ cs.map (·.2)
      · rw [on b hb] at y
        cases y
        exact laid b hb
      · rw [off b hb] at y
        cases y
    · by_cases hb : b ∈ cs.map (·.2)
      · exact .inr hb
      · exact absurd (off b hb) y
  | none =>
    let H : Hp := fun b => if b = a then some (.frz { cls := .type "list", data := .seq vs.toArray } (.lst (ns.map V.int))) else if b ∈ cs.map (·.2) then some (.tbl #[]) else none
    have at_a : H a = some (.frz { cls := .type "list", data := .seq vs.toArray } (.lst (ns.map V.int))) := if_pos rfl
    have on : ∀ p ∈ cs, H p.2 = some (.tbl #[]) := fun p hp => (if_neg (aT p hp)).trans (if_pos (mem p hp))
    have onB : ∀ b, b ∈ cs.map (·.2) → H b = some (.tbl #[]) := fun b hb => by
      obtain ⟨p, hp, rfl⟩ := List.mem_map.mp hb
      exact on p hp
    have off : ∀ b, b ≠ a → b ∉ cs.map (·.2) → H b = none := fun b h1 h2 => (if_neg h1).trans (if_neg h2)
    refine law_coreT (H := H) KX g1 g2 g3 g4 g5 T ha hr F hbind on (fun b => ?_) (hsp H on (.inl (.inr ⟨_, at_a⟩))) (fun b u y => ?_) (fun b y => ?_) fun _ => hk
    · by_cases hb : b = a
      · subst hb
        exact .inr (.inr ⟨_, _, at_a⟩)
      · by_cases hb2 : b ∈ cs.map (·.2)
        · exact .inr (.inl hb2)
        · exact .inl (off b hb hb2)
    · by_cases hb : b = a
      · subst hb
        rw [at_a] at y
        cases y
        refine ⟨ha, ?_, vs, _, rv, ha⟩
        rw [List.length_map]
        exact hl
      · by_cases hb2 : b ∈ cs.map (·.2)
        · rw [onB b hb2] at y
          cases y
          exact laid b hb2
        · rw [off b hb hb2] at y
          cases y
    · by_cases hb : b = a
      · exact .inl hb
      · by_cases hb2 : b ∈ cs.map (·.2)
        · exact .inr hb2
        · exact absurd (off b hb hb2) y
end
/-- the end over a head by facts and tables -/
theorem walk_GT {l : PySem.W.OpenLaw} {n k : Nat} {q : Program} {loose : List Str} {XP : (Str → Option Value) → Heap → Prop} {YP : World → Heap → Prop} {d : DefRec} {x : Str}
    (hn : l.most = some n) (hn2 : n ≤ sizeLine) (hdf : d.params.defaults = []) (hr : Room k callerA)
    (F : ∀ (w : World) (mg : Str → Option Value) (fa : Addr) (h : Heap), YP w h → h.Ns mainGlobals mg → mg d.name = some (.ref fa) →
      ∃ (K : PySem.W.Frag) (fd : FuncData) (sp : Sp) (cs : List (Addr × Addr)), K.In h ∧ ((∀ p ∈ cs, h.get? p.2 = some { cls := .none, data := .fields #[] }) ∧ (∀ p ∈ cs, K.lookup p.2 = none) ∧ ∀ p ∈ cs, PySem.W.CodeHd h p.1 p.2) ∧ (∀ (s : Shared) (u : Value), BindsTo s fd ⟨[u], []⟩ [(x, u)]) ∧
        (∀ (H : Hp) (a : Addr) (ns : List Int), ns.length ≤ n → (∀ y ∈ ns, Builtin.Int.intBits y ≤ 1048576) → (∀ p ∈ cs, H p.2 = some (.tbl #[])) → SqL K H a (ns.map V.int) → sp [.ref a] H (fun v _ => v = .bl true) fun _ _ _ => False) ∧
        ∀ base : Heap, K.In base → base.Ns mainGlobals mg → (∀ p ∈ cs, LamX.TabB base mg p.1 p.2) → FnG l.prog w K mg base k fa fd [x] sp) :
    PySem.W.WalkO q loose XP YP l.row.toRowW d [] (fun f vs => PySem.call f vs) := by
  refine Att.attach_callB hn hdf fun w s₀ z mg mb fa o pm cd doc a vs ns G Y ho hd hcd hmg hobj hints hlen hbits hg => ?_
  obtain ⟨K, fd, sp, cs, KX, ⟨t1, t2, t3⟩, hb, hsp, hF⟩ := F w mg fa _ Y G.T.g hmg
  exact law_callT KX G.T.g G.T.b G.T.builtins G.T.nolimit hg ⟨t1, t2, t3, G.T.bmain⟩ hobj hints (Nat.le_trans hlen hn2) hr hF hb fun H hH hS => hsp H a ns hlen hbits hH hS
end Gd
set_option Elab.async false
set_option linter.all false
set_option maxRecDepth 100000
set_option maxHeartbeats 16000000
namespace L2
open PySem PySem.Spec PyProof.Rows
/-- two lists of two texts, the same -/
def rNeSame (K : PySem.W.Frag) : R2 := fun x y H Q => ∃ a b s t, x = .ref a ∧ y = .ref b ∧ SqL K H a [.str s, .str t] ∧ SqL K H b [.str s, .str t] ∧ Q (.bl false) H
section
variable {X : Cx}
theorem op_neSame (hu : X.A.units + 64 < cLine) : OpR X (compareOp .NotEq) (rNeSame X.K) := by
  intro pins s σ H x y v u Q I rx ry h
  obtain ⟨a, b, z, t, rfl, rfl, ha, hb, q⟩ := h
  cases rx
  cases ry
  obtain ⟨ia, ra, ⟨oa, na, ha1, ha2, _, ha3⟩, _⟩ := I.list ha
  obtain ⟨ib, rb, ⟨ob, nb, hb1, hb2, _, hb3⟩, _⟩ := I.list hb
  cases ra with
  | cons r1 ra =>
  cases ra with
  | cons r2 ra =>
  cases ra
  cases rb with
  | cons r3 rb =>
  cases rb with
  | cons r4 rb =>
  cases rb
  obtain ⟨t1, rfl⟩ := r1
  obtain ⟨t2, rfl⟩ := r2
  obtain ⟨t3, rfl⟩ := r3
  obtain ⟨t4, rfl⟩ := r4
  refine EqBoolInt.of_rcne (k := false) ?_ ⟨.bl false, H, I, rfl, q⟩
  have h := SeqAt.RcNeAt.lists (A := X.A) (s := s) (e := fun _ => true) ⟨oa, ha1, ha2, na, ha3⟩ ⟨ob, hb1, hb2, nb, hb3⟩ rfl (by omega) fun j h1 h2 => by
    match j, h1 with
    | 0, _ =>
      have := SeqAt.EqAt.str_str (A := X.A.in1) (s := s) z t1 z t3
      rw [show (z == z) = true from beq_self_eq_true z] at this
      exact this
    | 1, _ =>
      have := SeqAt.EqAt.str_str (A := X.A.in1) (s := s) t t2 t t4
      rw [show (t == t) = true from beq_self_eq_true t] at this
      exact this
  exact h
/-- text * int -/
theorem op_mulS : OpR X (binaryOp .Mult) (fun x y H Q => ∃ a n, x = .str a ∧ y = .int n ∧ MulOk a n ∧ Q (.str (Txt.mul a n)) H) := by
  intro pins s σ H x y v u Q I rx ry h
  obtain ⟨a, n, rfl, rfl, hm, q⟩ := h
  obtain ⟨t, rfl⟩ := rx
  obtain ⟨t', rfl⟩ := ry
  exact SB.mul hm fun t'' k => ⟨.str (Txt.mul a n), H, I.tok _, ⟨_, rfl⟩, q⟩
end
instance {x : Str} {n : Int} : Decidable (MulOk x n) := by
  unfold MulOk
  infer_instance
end L2
namespace Pg
open PySem PySem.Spec PyProof.Rows L2 Gd Rl Te Nu TL
/-! ### whether a text is a program's, computed -/
def formC (t : Str) : List Int := if (Txt.split t " ").all wordB = true then (Txt.split t " ").map fun s => (intText? s).getD 0 else []
theorem formC_eq (t : Str) : formS t = formC t := by
  unfold formS formC
  split
  · rename_i h
    refine List.map_congr_left fun s hs => ?_
    rw [(word_num (List.all_eq_true.mp h s hs)).1]
    rfl
  · rfl
def lnC (l : Str) : Option Ln :=
  let w := (Txt.partition l " ").1
  let r := (Txt.partition l " ").2.2
  if V.str w = V.str "vars" then some (.v (Txt.split r " "))
  else if V.str w = V.str "say" then some (.s (Txt.partition r " ").1 (formC (Txt.partition r " ").2.2))
  else if V.str w = V.str "branch" then some (.b (Txt.partition r " ").1 (Txt.partition r " ").2.2)
  else if V.str w = V.str "test" then some (.t (formC r))
  else if V.str w = V.str "then" then some (.e ((Txt.split r "; ").map formC))
  else none
theorem lnC_eq (l : Str) : lnX l = lnC l := by
  unfold lnX lnC
  simp only [show formS = formC from funext formC_eq]
def stepC (m : Ms) (l : Str) : Ms := match lnC l with
  | some ln => stepM m ln
  | none => m
def readC (t : Str) : Ms := (Txt.split t "\n").foldl stepC m0
theorem readC_eq (t : Str) : readX t = readC t := by
  unfold readX readC
  congr 1
  funext m l
  unfold stepX stepC
  rw [lnC_eq]
  all_goals (cases lnC l <;> rfl)
def okPB (ns : List Str) (ss : List (Str × List Int)) (as : List Arm) : Bool := (decide (1 ≤ ns.length) && (decide (ns.length ≤ 3) && (ns.all nameS && decide (ns.Nodup)))) && ((decide (ss.length ≤ 3) && ss.all fun s => sayB ns.length (sayD s)) && (decide (1 ≤ as.length) && (decide (as.length ≤ 5) && ((as.all fun a => brB ns.length (armD a)) && decide ((placesS ss as).length ≤ 3)))))
theorem okPB_of {ns : List Str} {ss : List (Str × List Int)} {as : List Arm} (h : OkP ns ss as) : okPB ns ss as = true := by
  unfold okPB
  have e1 : ns.all nameS = true := List.all_eq_true.mpr h.n.nm
  have e2 : (ss.all fun s => sayB ns.length (sayD s)) = true := List.all_eq_true.mpr h.s.sy
  have e3 : (as.all fun a => brB ns.length (armD a)) = true := List.all_eq_true.mpr fun a ha => arm_is.mpr (h.a.arm a ha)
  rw [e1, e2, e3, decide_eq_true h.n.one, decide_eq_true h.n.three, decide_eq_true h.n.nd, decide_eq_true h.s.three, decide_eq_true h.a.one, decide_eq_true h.a.five, decide_eq_true h.a.pl]
  rfl
def badT (t : Str) : Bool := !okPB (readC t).names (readC t).says (readC t).arms || !decide (textS (readC t).names (readC t).says (readC t).arms = t)
theorem badT_no {t : Str} (h : badT t = true) : ∀ ns ss as, OkP ns ss as → t ≠ textS ns ss as := fun ns ss as ok e => by
  obtain ⟨r1, r2, r3⟩ := read_right ok
  rw [← e, readC_eq] at r1 r2 r3
  unfold badT at h
  rw [r1, r2, r3, okPB_of ok, decide_eq_true e.symm] at h
  cases h
def fineT (t : Str) : Bool := badT t && (decide (t.length ≤ 1000) && (decide ((Txt.split t "\n").length ≤ 990) && Vd.asc t))
structure FineT (t : Str) : Prop where
  no : ∀ ns ss as, OkP ns ss as → t ≠ textS ns ss as
  r : Read t
  asc : Vd.asc t = true
  len : t.length ≤ 980
theorem eachT {t : Str} (h : t.length ≤ 980) : ∀ p ∈ Txt.split t "\n", p.length ≤ 980 := fun p hp => Nat.le_trans (split_each (by rw [eL]; simp) eL2 hp) h
end Pg
namespace K5
open PySem PySem.Spec PyProof.Rows L2 Gd Rl Vd Nu TL Ow Sz Hy LamX
open Pg (Mo FunP Defs Mkr namesD saysD armsD Arm OkN OkS OkA OkP ArmOk textS ProgAt spRd spGet sGb spRdV FineT)
abbrev sLaw : Stmt := Pg.top 66
abbrev lamL : Str := (envOfC "law" (defScope sLaw) 0 0 .none).qual ++ "<lambda>"
structure Bl3 (mg : Str → Option Value) : Prop where
  max : mg "max" = none
  min : mg "min" = none
/-! ### texts of no program -/
def tailS : Str := "\nbranch a a\nthen 1 0"
def w0 : List Str := [("" : Str), ("vars x" : Str), (("vars" : Str) ++ tailS), (("vars " : Str) ++ tailS), (("vars x y" : Str) ++ tailS), (("vars X" : Str) ++ tailS), ((("vars x" : Str) ++ tailS) ++ ("\n" : Str))]
def w1 : List Str := w0 ++ [(("\nvars x" : Str) ++ tailS), (("vars x " : Str) ++ tailS), (("vars x\nsay a 1" : Str) ++ tailS), (("vars x\nsay a 1 0 0" : Str) ++ tailS)]
def w2 : List Str := w1 ++ [((("vars x" : Str) ++ tailS) ++ ("\nsay a 1 0" : Str)), (("vars x\ntest 1 0" : Str) ++ tailS), (("vars x\nthen 1 0" : Str) ++ tailS)]
def w3 : List Str := w2 ++ [("vars x\nbranch a a" : Str), ("vars x\nbranch a\nthen 1 0" : Str), ("vars x\nbranch a a b\nthen 1 0" : Str)]
def w4 : List Str := w3 ++ [("vars x\nbranch a a\nthen 1 0;" : Str), ("vars x\nbranch a a\nthen 1 0; 1 0" : Str)]
def w5 : List Str := w4 ++ [("vars x\nbranch a a\nthen 01 0" : Str)]
def w6 : List Str := w5 ++ [("vars x\nbranch a a\nthen -0 0" : Str), ("vars x\nbranch a a\nthen 1 0\nthen 1 0" : Str), ("vars x y\nbranch a a" : Str)]
def w7 : List Str := w6 ++ [("vars x\nbranch a a\ntest 1\nthen 1 0" : Str), ("vars x\nbranch a a\nthen 1000001 0" : Str), (("vars x" : Str) ++ (Txt.mul tailS 6))]
def w8 : List Str := w7 ++ [((("vars x\nbranch a a" : Str) ++ (Txt.mul ("\ntest 1 0" : Str) 4)) ++ ("\nthen 1 0" : Str))]
def w9 : List Str := w8 ++ [("vars x y\nbranch a a\nthen 1 0 0;0 1 0" : Str)]
def fineB (t : Str) : Bool := Pg.badT t && (decide (t.length ≤ 980) && (decide ((Txt.split t "\n").length ≤ 990) && Vd.asc t))
theorem fine_of {t : Str} (h : fineB t = true) : FineT t := by
  unfold fineB at h
  obtain ⟨h1, h⟩ := Bool.and_eq_true_iff.mp h
  obtain ⟨h2, h⟩ := Bool.and_eq_true_iff.mp h
  obtain ⟨h3, h4⟩ := Bool.and_eq_true_iff.mp h
  have h2' := of_decide_eq_true h2
  exact ⟨Pg.badT_no h1, ⟨by omega, of_decide_eq_true h3, Pg.eachT h2'⟩, h4, h2'⟩
theorem all_fine : (w9).all fineB = true := by decide +kernel
/-! ### a text of one -/
def goodS : Str := "vars say then\nsay test -1 0 5\nbranch test vars\ntest 1 0 -3\nthen 0 1 0; 1 0 -1000000"
def nsG : List Str := ["say", "then"]
def ssG : List (Str × List Int) := [("test", [-1, 0, 5])]
def asG : List Arm := [⟨"test", "vars", [[1, 0, -3]], [[0, 1, 0], [1, 0, -1000000]]⟩]
theorem good_is : goodS = textS nsG ssG asG := by decide +kernel
theorem okG : OkP nsG ssG asG := ⟨⟨by decide, by decide, fun z hz => by
    simp only [nsG, List.mem_cons, List.not_mem_nil, or_false] at hz
    rcases hz with rfl | rfl <;> decide +kernel, by decide +kernel⟩, ⟨by decide, fun s hs => by
    rw [List.mem_singleton.mp hs]
    decide +kernel⟩, ⟨by decide, by decide, fun a ha => by
    rw [List.mem_singleton.mp ha]
    exact ⟨by decide +kernel, by decide +kernel, by decide +kernel, by decide, by decide +kernel, by decide⟩, by decide +kernel⟩⟩
theorem none_of {H H' : Hp} {y : Addr} (s : Same H H') (n : H' y = none) : H y = none := by
  cases e : H y with
  | none => rfl
  | some o =>
    rw [s _ _ e] at n
    cases n
def spLaw (K : PySem.W.Frag) (T : List (Addr × Str)) : Sp := fun vs H Q _ => ∃ (a : Addr) (ns : List Int), vs = [.ref a] ∧ SqL K H a (ns.map V.int) ∧ ns.length ≤ 63 ∧ (∀ z ∈ ns, Builtin.Int.intBits z ≤ 1048576) ∧ Tabs T H ∧ ∀ H', Q (.bl true) H'
abbrev nLaw : List Str := ["_law_script", "_law_tail", "_law_wrong", "_law_value", "_law_good", "_law_turn"]
theorem scLaw : FnScope nLaw ["_law_script"] (defScope sLaw) := ⟨rfl, rfl, rfl, by decide +kernel, rfl, by decide +kernel, by decide +kernel⟩
section
variable {P : Program} {w : World} {K : PySem.W.Frag} {mg : Str → Option Value} {base : Heap} {f C : Addr} {fd : FuncData} {T : List (Addr × Str)}
variable {fI fN fF fS fU fCN fCS fCB fY fB fP fX fW fA fO : Addr} {dI dN dF dS dU dCN dCS dCB dY dB dP dX dW dA dO : FuncData}
/-- no program's text -/
theorem tt_bad {c0 : Addr} {tl' : (XK → Hp → VK → Prop)} {H : Hp} {Q : VK} {t : Str}
    (htl : ∀ E (Q' : VK), spRdV K C c0 [.ref C, .str t] H Q' E → tl' E H Q') (ft : FineT t)
    (k : ∀ l H2, Same H H2 → H2 l = some (.lst [.str "InvalidText", .str (PyData.str t).shown]) → Q (.ref l) H2) : TTans K (known c0) tl' H Q := by
  refine htl _ _ (.inl ⟨t, rfl, ft.r, fun ns ss as e ok _ _ _ _ => absurd e (ft.no ns ss as ok), fun no H1 dd s1 nd => ?_⟩)
  have s3 := s1.trans (same_new (o := .xd [("given", .str t)]) nd)
  have q := sh_str4 ft.asc ft.len
  exact ⟨(c0, "InvalidText", "given"), dd, _, .str t, List.mem_singleton.mpr rfl, rfl, rfl, upd_same, ⟨.inl (.str _), q.sh, Nat.le_trans q.dp (by decide), Nat.le_trans q.len (by decide)⟩, fun l H3 n3 => k l H3 (s3.trans n3.2.2) n3.2.1⟩
theorem ok_law {fG fR qN qO fIni fStr mcp fRd p3 g3 b0 b1 b2 c0 cL tL : Addr} {mc : Value} {dG dR eN eO dIni dStr dRd d3 : FuncData} (F : FnP K "law" sLaw f fd) (TB : Bl mg) (Rg : RangeB mg) (M0 : Mo mg) (U : Bl3 mg) (U2 : Bl2 mg)
    (FG : FnP K "_law_begun" sBegun fG dG) (gG : mg "_law_begun" = some (.ref fG)) (FR : FnP K "_law_right" sRight fR dR) (gR : mg "_law_right" = some (.ref fR)) (GR : FnG P w K mg base 13 fR dR ["_law_pail"] (spRight T))
    (Bn : FnP K "_law_answer" sAns qN eN) (gN : mg "_law_answer" = some (.ref qN)) (Bo : FnP K "_law_sort" sSort qO eO) (gO : mg "_law_sort" = some (.ref qO))
    (X : Pg.Txt K mg C) (D : Defs K mg fI fN fF fS fU fCN fCS fCB fY fB fP fX fW fA fO dI dN dF dS dU dCN dCS dCB dY dB dP dX dW dA dO) (M : Mkr K C fIni fStr dIni dStr) (Z : K5.Rdr K C mcp fRd mc dRd) (GRd : FnOk P w K mg base (L2.CX P w) 9 fRd dRd ["cls", "text"] (spRdV K C c0)) (Pb : PropOf K C "branches" p3 g3) (Fb : FunP K "branches" "Program.branches" sGb g3 d3)
    (BB : Bas K mg b0 b1 b2) (ER : Errs K mg b0 b1 b2 c0) (US : BlS mg) (TL : TabB base mg cL tL) (hLT : (tL, lamL) ∈ T) (hLU : ∀ q ∈ T, q.1 = tL → q.2 = lamL) (HC : ∀ c, CodeAt K f c → c = cL) : FnG P w K mg base 14 f fd ["_law_script"] (spLaw K T) := by
  have GG : FnOk P w K mg base CX0 1 fG dG ["_law_script", "_law_turn"] (spBegun K) := ok_begun FG TB
  have bG : Binds K dG ["_law_script", "_law_turn"] [] := FG.bindsN fun _ _ _ _ _ _ us hl => match us, hl with | [_, _], _ => rfl
  have bR : Binds K dR ["_law_pail"] [] := FR.bindsN fun _ _ _ _ _ _ us hl => match us, hl with | [_], _ => rfl
  have GRr : FnOk P w K mg base CX0 9 fRd dRd ["cls", "text"] (spRd K C) := Pg.ok_rd Z.f M0 X D M
  have bRd : Binds K dRd ["cls", "text"] [] := Z.f.bindsN fun _ _ _ _ _ _ us hl => match us, hl with | [_, _], _ => rfl
  have GBr : FnOk P w K mg base CX0 1 g3 d3 ["self"] (spGet K C fun ns ss as v H => Dp K H v (armsD as)) := Pg.ok_gbranches Fb X
  have bB : Binds K d3 ["self"] [] := Fb.bindsN fun _ _ _ _ _ _ us hl => match us, hl with | [_], _ => rfl
  have GO : FnQ P w K mg base 1 qO eO ["_law_e"] (spSort K (known c0)) := ok_sort Bo BB US ER
  have bN : Binds K eN ["_law_call_here"] [] := Bn.bindsN fun _ _ _ _ _ _ us hl => match us, hl with | [_], _ => rfl
  have kN := Bn.kp
  obtain ⟨oc, od, dV', kV', doc, pm, an, cdn, ct, osl, rfl, lkN, hcdN, _, _⟩ := Bn.ex
  refine okGc F scLaw (fun vs H Q E h => ?_) (fun c A outer s H vs Q E hcode hgd hr h => ?_)
  · obtain ⟨a, ns, rfl, _⟩ := h
    rfl
  · obtain ⟨a, ns, rfl, hS, hn, hb, hT, k1⟩ := h
    cases HC c hcode
    have hr1 := hr.mono (show 1 ≤ 13 by decide)
    have hr2 := hr.mono (show 2 ≤ 13 by decide)
    have hr9 := hr.mono (show 9 ≤ 13 by decide)
    have hr11 := hr.mono (show 9 + 2 ≤ 13 by decide)
    refine ⟨_, PSs.nox <| pss_cons (ps_set (i := 1) scLaw.nd rfl (.inl rfl) pe_str)
      <| pss_cons (ps_set (i := 2) scLaw.nd rfl (.inl rfl) (pe_lstR (pa_cons pe_str (pa_cons pe_str (pa_cons (pe_op op_add_str pe_str (pv 1)) (pa_cons (pe_op op_add_str pe_str (pv 1)) (pa_cons (pe_op op_add_str pe_str (pv 1)) (pa_cons (pe_op op_add_str pe_str (pv 1)) (pa_cons (pe_op op_add_str (pe_op op_add_str pe_str (pv 1)) pe_str) pa_nil)))))))))
      <| pss_cons (ps_set (i := 2) scLaw.nd rfl (.inl rfl) (pe_op op_catR (pv 2) (pe_lstR (pa_cons (pe_op op_add_str pe_str (pv 1)) (pa_cons (pe_op op_add_str pe_str (pv 1)) (pa_cons (pe_op op_add_str pe_str (pv 1)) (pa_cons (pe_op op_add_str pe_str (pv 1)) pa_nil)))))))
      <| pss_cons (ps_set (i := 2) scLaw.nd rfl (.inl rfl) (pe_op op_catR (pv 2) (pe_lstR (pa_cons (pe_op op_add_str (pe_op op_add_str pe_str (pv 1)) pe_str) (pa_cons (pe_op op_add_str pe_str (pv 1)) (pa_cons (pe_op op_add_str pe_str (pv 1)) pa_nil))))))
      <| pss_cons (ps_set (i := 2) scLaw.nd rfl (.inl rfl) (pe_op op_catR (pv 2) (pe_lstR (pa_cons pe_str (pa_cons pe_str (pa_cons pe_str pa_nil))))))
      <| pss_cons (ps_set (i := 2) scLaw.nd rfl (.inl rfl) (pe_op op_catR (pv 2) (pe_lstR (pa_cons pe_str (pa_cons pe_str pa_nil)))))
      <| pss_cons (ps_expr (pe_bm PySem.F.plainAttrs_list PySem.F.slot_list_append PySem.F.type_list_append mt_append (pv 2) (pa_cons pe_str pa_nil)))
      <| pss_cons (ps_set (i := 2) scLaw.nd rfl (.inl rfl) (pe_op op_catR (pv 2) (pe_lstR (pa_cons pe_str (pa_cons pe_str (pa_cons pe_str pa_nil))))))
      <| pss_cons (ps_set (i := 2) scLaw.nd rfl (.inl rfl) (pe_op op_catR (pv 2) (pe_lstR (pa_cons pe_str (pa_cons pe_str (pa_cons (pe_op op_add_str pe_str (pe_op op_mulS (pv 1) pe_int)) pa_nil))))))
      <| pss_cons (ps_expr (pe_bm PySem.F.plainAttrs_list PySem.F.slot_list_append PySem.F.type_list_append mt_append (pv 2) (pa_cons (pe_op op_add_str (pe_op op_add_str pe_str (pe_op op_mulS pe_str pe_int)) pe_str) pa_nil)))
      <| pss_cons (ps_expr (pe_bm PySem.F.plainAttrs_list PySem.F.slot_list_append PySem.F.type_list_append mt_append (pv 2) (pa_cons pe_str pa_nil)))
      <| pss_cons (ps_for PassesOwn.never rfl (pi_list (pv 2)) (pg_name (i := 3) scLaw.nd rfl (.inr rfl))
          (pss_one (ps_if (pt_cmpR (op_neSame hr.units) (pe_lamcall (T := T) (TT := TTans K (known c0)) (by rfl) gN kN lkN hcdN bN scAns rfl (.inl rfl) (ans_gives rfl rfl hr2 hgd BB ER Bo gO GO) TL rfl hLT hLU hr11 (lamS_by (by show lamSB (defScope sLaw) _ = true; decide +kernel)) rfl (fun _ _ _ _ _ => rfl)
                (fun A outer s H E f c' hr' => ClX.pe_cmeth (E := E) (pe_glob (v := .ref C) (by rfl) X.g rfl) Z.r Z.m (GRd.raw bRd .nil) hr' (passes_call (takes_of rfl rfl rfl rfl) fun _ _ _ _ h => h) (pa_cons (pv 3) pa_nil)))
              (pe_lstR (pa_cons pe_str (pa_cons (pe_callB (call_repr hgd hr.units) (by rfl) U2.repr boot_repr (pa_cons (pv 3) pa_nil)) pa_nil))) (nomark _)) (pss_one (ps_ret pe_bl)) pss_nil)))
      <| pss_cons (ps_set (i := 4) scLaw.nd rfl (.inl rfl) pe_str)
      <| pss_cons (ps_if (pt_cmpR (op_neD hr.units) (pe_prop (E := E0) (ClX.pe_cmeth (E := E0) (pe_glob (v := .ref C) (by rfl) X.g rfl) Z.r Z.m (GRr.raw bRd .nil) hr9 pass0 (pa_cons (pv 4) pa_nil)) X.cl Pb GBr hr2 bB .nil pass0 (by rfl))
            (pe_tupR (pa_cons (pe_tupR (pa_cons pe_str (pa_cons pe_str (pa_cons (pe_tupR (pa_cons (pe_tupR (pa_cons pe_int (pa_cons pe_int (pa_cons (pe_un un_neg pe_int) pa_nil)))) pa_nil)) (pa_cons (pe_tupR (pa_cons (pe_tupR (pa_cons pe_int (pa_cons pe_int (pa_cons pe_int pa_nil)))) (pa_cons (pe_tupR (pa_cons pe_int (pa_cons pe_int (pa_cons (pe_un un_neg (pe_op op_pow pe_int pe_int)) pa_nil)))) pa_nil))) pa_nil))))) pa_nil)) (nomark _)) (pss_one (ps_ret pe_bl)) pss_nil)
      <| pss_one (ps_ret (pe_callB (cr_all rfl) (by rfl) M0.all (by decide +kernel) (pa_cons (pe_lc (own := [("_law_turn", 5)]) (g := gName 5) (tt := tYes) rfl scLaw.nd
          (pi_range1 (by rfl) Rg.range (pa_cons (pe_callB (call_max2 rfl) (by rfl) U.max (by decide +kernel) (pa_cons pe_int (pa_cons (pe_callB (call_min2 rfl) (by rfl) U.min (by decide +kernel) (pa_cons (pe_callB call_len (by rfl) M0.len PySem.boot_len (pa_cons (pv 0) pa_nil)) (pa_cons pe_int pa_nil))) pa_nil))) pa_nil))
          (blkOk_by (N := nLaw) (sc := defScope sLaw) (by decide +kernel)) (fun _ _ _ _ _ => pg_name (i := 5) scLaw.nd rfl (Or.inl rfl)) (fun _ _ _ _ _ => pts_nil)
          (fun _ _ _ _ _ => pe_callG GR hgd hr (by rfl) gR FR.kp bR (pa_cons (pe_call GG hr1 (by rfl) gG FG.kp bG .nil pass0 (pa_cons (pv 0) (pa_cons (pv 5) pa_nil))) pa_nil))) pa_nil))), ?_⟩
    -- the texts
    refine ⟨_, rfl, _, _, rfl, rfl, by decide +kernel, _, rfl, _, _, rfl, rfl, by decide +kernel, _, rfl, _, _, rfl, rfl, by decide +kernel, _, rfl, _, _, rfl, rfl, by decide +kernel, _, rfl, _, _, rfl, rfl, by decide +kernel, _, _, rfl, rfl, by decide +kernel, (show 7 ≤ 1000 by decide), fun l1 H1 n1 => ?_⟩
    have e1 : H1 l1 = some (.lst (w0.map V.str)) := n1.2.1
    have s1 : Same H H1 := n1.2.2
    have fl1 : H l1 = none := n1.1
    refine ⟨_, rfl, _, rfl, _, _, rfl, rfl, by decide +kernel, _, rfl, _, _, rfl, rfl, by decide +kernel, _, rfl, _, _, rfl, rfl, by decide +kernel, _, rfl, _, _, rfl, rfl, by decide +kernel, (show 4 ≤ 1000 by decide), fun m2 J2 o2 => ⟨l1, m2, _, _, rfl, rfl, o2.2.2 _ _ e1, o2.2.1, by decide, fun l2 H2 n2 => ?_⟩⟩
    have e2 : H2 l2 = some (.lst (w1.map V.str)) := n2.2.1
    have s2 : Same H H2 := s1.trans (o2.2.2.trans n2.2.2)
    have fl2 : H l2 = none := none_of (s1.trans o2.2.2) n2.1
    refine ⟨_, rfl, _, rfl, _, _, rfl, rfl, by decide +kernel, _, _, rfl, rfl, by decide +kernel, _, rfl, _, _, rfl, rfl, by decide +kernel, _, rfl, _, _, rfl, rfl, by decide +kernel, (show 3 ≤ 1000 by decide), fun m3 J3 o3 => ⟨l2, m3, _, _, rfl, rfl, o3.2.2 _ _ e2, o3.2.1, by decide, fun l3 H3 n3 => ?_⟩⟩
    have e3 : H3 l3 = some (.lst (w2.map V.str)) := n3.2.1
    have s3 : Same H H3 := s2.trans (o3.2.2.trans n3.2.2)
    have fl3 : H l3 = none := none_of (s2.trans o3.2.2) n3.1
    refine ⟨_, rfl, (show 3 ≤ 1000 by decide), fun m4 J4 o4 => ⟨l3, m4, _, _, rfl, rfl, o4.2.2 _ _ e3, o4.2.1, by decide, fun l4 H4 n4 => ?_⟩⟩
    have e4 : H4 l4 = some (.lst (w3.map V.str)) := n4.2.1
    have s4 : Same H H4 := s3.trans (o4.2.2.trans n4.2.2)
    have fl4 : H l4 = none := none_of (s3.trans o4.2.2) n4.1
    refine ⟨_, rfl, (show 2 ≤ 1000 by decide), fun m5 J5 o5 => ⟨l4, m5, _, _, rfl, rfl, o5.2.2 _ _ e4, o5.2.1, by decide, fun l5 H5 n5 => ?_⟩⟩
    have e5 : H5 l5 = some (.lst (w4.map V.str)) := n5.2.1
    have s5 : Same H H5 := s4.trans (o5.2.2.trans n5.2.2)
    have fl5 : H l5 = none := none_of (s4.trans o5.2.2) n5.1
    refine ⟨_, rfl, .inl ⟨rfl, _, SqL.of e5⟩, l5, _, _, rfl, rfl, e5, small1000 (by decide), ?_⟩
    have e6 : upd H5 l5 (.lst (w4.map V.str ++ [.str ("vars x\nbranch a a\nthen 01 0" : Str)])) l5 = some (.lst (w5.map V.str)) := upd_same
    have s6 : Same H (upd H5 l5 (.lst (w4.map V.str ++ [.str ("vars x\nbranch a a\nthen 01 0" : Str)]))) := fun q o e => by
      rw [upd_ne (ne_of_none e fl5)]
      exact s5 q o e
    generalize upd H5 l5 (.lst (w4.map V.str ++ [.str ("vars x\nbranch a a\nthen 01 0" : Str)])) = H6 at e6 s6 ⊢
    refine ⟨_, rfl, (show 3 ≤ 1000 by decide), fun m7 J7 o7 => ⟨l5, m7, _, _, rfl, rfl, o7.2.2 _ _ e6, o7.2.1, by decide, fun l7 H7 n7 => ?_⟩⟩
    have e7 : H7 l7 = some (.lst (w6.map V.str)) := n7.2.1
    have s7 : Same H H7 := s6.trans (o7.2.2.trans n7.2.2)
    have fl7 : H l7 = none := none_of (s6.trans o7.2.2) n7.1
    refine ⟨_, rfl, _, rfl, _, _, rfl, rfl, by decide +kernel, _, _, rfl, rfl, by decide +kernel, (show 3 ≤ 1000 by decide), fun m8 J8 o8 => ⟨l7, m8, _, _, rfl, rfl, o8.2.2 _ _ e7, o8.2.1, by decide, fun l8 H8 n8 => ?_⟩⟩
    have e8 : H8 l8 = some (.lst (w7.map V.str)) := n8.2.1
    have s8 : Same H H8 := s7.trans (o8.2.2.trans n8.2.2)
    have fl8 : H l8 = none := none_of (s7.trans o8.2.2) n8.1
    refine ⟨_, rfl, .inl ⟨rfl, _, SqL.of e8⟩, _, _, rfl, rfl, by decide +kernel, _, _, rfl, rfl, by decide +kernel, _, _, rfl, rfl, by decide +kernel, l8, _, _, rfl, rfl, e8, small1000 (by decide), ?_⟩
    have e9 : upd H8 l8 (.lst (w7.map V.str ++ [.str ((("vars x\nbranch a a" : Str) ++ (Txt.mul ("\ntest 1 0" : Str) 4)) ++ ("\nthen 1 0" : Str))])) l8 = some (.lst (w8.map V.str)) := upd_same
    have s9 : Same H (upd H8 l8 (.lst (w7.map V.str ++ [.str ((("vars x\nbranch a a" : Str) ++ (Txt.mul ("\ntest 1 0" : Str) 4)) ++ ("\nthen 1 0" : Str))]))) := fun q o e => by
      rw [upd_ne (ne_of_none e fl8)]
      exact s8 q o e
    generalize upd H8 l8 (.lst (w7.map V.str ++ [.str ((("vars x\nbranch a a" : Str) ++ (Txt.mul ("\ntest 1 0" : Str) 4)) ++ ("\nthen 1 0" : Str))])) = H9 at e9 s9 ⊢
    refine ⟨_, rfl, .inl ⟨rfl, _, SqL.of e9⟩, l8, _, _, rfl, rfl, e9, small1000 (by decide), ?_⟩
    have e10 : upd H9 l8 (.lst (w8.map V.str ++ [.str ("vars x y\nbranch a a\nthen 1 0 0;0 1 0" : Str)])) l8 = some (.lst (w9.map V.str)) := upd_same
    have s10 : Same H (upd H9 l8 (.lst (w8.map V.str ++ [.str ("vars x y\nbranch a a\nthen 1 0 0;0 1 0" : Str)]))) := fun q o e => by
      rw [upd_ne (ne_of_none e fl8)]
      exact s9 q o e
    generalize upd H9 l8 (.lst (w8.map V.str ++ [.str ("vars x y\nbranch a a\nthen 1 0 0;0 1 0" : Str)])) = H10 at e10 s10 ⊢
    have x9 : ExtN H H10 := same_ext s10
    have t9 := tabs_same hT s10
    generalize H10 = H9 at e10 x9 t9 ⊢
    generalize l8 = L at e10 ⊢
    refine ⟨_, rfl, L, rfl, ⟨_, SqL.of e10⟩, for_list (K := K) (a := L) (xs := (w9).map V.str) (fun i σ H' => ∃ y3 : Option V, σ = [some (.ref a), some (.str tailS), some (.ref L), y3, none, none] ∧ ExtN H9 H' ∧ Tabs T H') ⟨_, rfl, ExtN.refl _, t9⟩ (fun i σ H' _ ⟨_, _, e, _⟩ => seqL_ext e (SqL.of e10)) ?_ ?_⟩
    · rintro i x σ H10 ex ⟨y3, rfl, x10, t10⟩
      obtain ⟨t, et, rfl⟩ := Pg.strs_at ex
      have ft := fine_of (List.all_eq_true.mp all_fine t (List.mem_of_getElem? et))
      have q := sh_str4 ft.asc ft.len
      refine ⟨t10, fun H11 e11 t11 => ?_⟩
      refine tt_bad (t := t) (fun E Q' h => ⟨rfl, _, rfl, h⟩) ft fun l H12 s12 hl => ?_
      refine ⟨_, rfl, _, .str t, rfl, .inl (.str _), q.sh, Nat.le_trans q.dp (by decide), Nat.le_trans q.len (by decide), (show 2 ≤ 1000 by decide), fun l2 H13 n13 => ⟨l, l2, _, _, rfl, rfl, SqL.of (n13.2.2 _ _ hl), SqL.of n13.2.1, _, rfl, ?_⟩⟩
      refine iteF ?_
      have s13 := s12.trans n13.2.2
      exact ⟨_, rfl, x10.trans (e11.trans (same_ext s13)), tabs_same t11 s13⟩
    · rintro σ H10 ⟨y3, rfl, x10, t10⟩
      -- a text of a program
      refine ⟨rfl, _, rfl, nsG, ssG, asG, congrArg (fun t => [V.ref C, V.str t]) good_is, okG, fun x HA sA g => ?_⟩
      obtain ⟨dx, _, _, _, _, hx, _⟩ := id g
      refine ⟨x, dx, _, rfl, hx, x, nsG, ssG, asG, rfl, g, okG, fun v hv => ?_⟩
      refine ⟨_, rfl, (show 3 ≤ 1000 by decide), fun t1 H1 n1 => ⟨(show 1 ≤ 1000 by decide), fun t2 H2 n2 => ⟨(show 3 ≤ 1000 by decide), fun t3 H3 n3 => ⟨_, _, rfl, rfl, ⟨by decide, by decide, by decide⟩, _, rfl, (show 3 ≤ 1000 by decide), fun t4 H4 n4 => ⟨(show 2 ≤ 1000 by decide), fun t5 H5 n5 => ⟨(show 4 ≤ 1000 by decide), fun t6 H6 n6 => ⟨(show 1 ≤ 1000 by decide), fun t7 H7 n7 => ?_⟩⟩⟩⟩⟩⟩⟩
      have z6 := n7.2.2
      have z5 := n6.2.2.trans z6
      have z4 := n5.2.2.trans z5
      have z3 := n4.2.2.trans z4
      have z2 := n3.2.2.trans z3
      have z1 := n2.2.2.trans z2
      have z0 := n1.2.2.trans z1
      have d7 : Dp K H7 (.ref t7) (armsD asG) := .tup (SqT.of n7.2.1) (.cons (.tup (SqT.of (z6 _ _ n6.2.1)) (.cons (.str _) (.cons (.str _) (.cons (.tup (SqT.of (z2 _ _ n2.2.1)) (.cons (.tup (SqT.of (z1 _ _ n1.2.1)) (.cons (.int _) (.cons (.int _) (.cons (.int _) .nil)))) .nil)) (.cons (.tup (SqT.of (z5 _ _ n5.2.1)) (.cons (.tup (SqT.of (z3 _ _ n3.2.1)) (.cons (.int _) (.cons (.int _) (.cons (.int _) .nil)))) (.cons (.tup (SqT.of (z4 _ _ n4.2.1)) (.cons (.int _) (.cons (.int _) (.cons (.int _) .nil)))) .nil))) .nil))))) .nil)
      refine ⟨armsD asG, armsD asG, dp_same z0 _ hv, d7, by decide +kernel, by decide +kernel, _, rfl, ?_⟩
      refine Pg.iteBF (by rw [SeqAt.eqv_refl _ (by decide +kernel)]; rfl) ?_
      replace x10 := x9.trans (x10.trans (same_ext (sA.trans z0)))
      replace t10 := tabs_same t10 (sA.trans z0)
      clear z0 z1 z2 z3 z4 z5 z6 n1 n2 n3 n4 n5 n6 n7 d7
      generalize H7 = H10 at x10 t10 ⊢
      have hS10 := seqL_ext x10 hS
      refine ⟨_, rfl, _, (ns.map V.int).length, rfl, .inl ⟨_, hS10, rfl⟩, _, _, rfl, _, _, rfl, ?_⟩
      generalize hM : (if (if (6 : Int) < ((ns.map V.int).length : Int) then (6 : Int) else ((ns.map V.int).length : Int)) > 2 then (if (6 : Int) < ((ns.map V.int).length : Int) then (6 : Int) else ((ns.map V.int).length : Int)) else 2) = M
      have m0 : 0 ≤ M ∧ M ≤ 6 := by
        rw [← hM]
        split <;> split <;> omega
      refine ⟨M, rfl, by omega, by omega, fun D hD => lc_range (lo := 0) (n := M.toNat) (fun i H' => ExtN H10 H' ∧ H' D = some (.lst (List.replicate i (V.bl true))) ∧ Tabs T H') ⟨same_ext (same_new hD), upd_same, tabs_same t10 (same_new hD)⟩ ?_ ?_⟩
      · rintro i H' hi ⟨sx, hd, ht⟩
        refine ⟨rfl, ?_⟩
        refine ⟨_, rfl, _, rfl, a, ns, i, (by rw [Int.zero_add]; rfl), seqL_ext sx hS10, hn, hb, by omega, fun p Hp sp np pp => ?_⟩
        refine ⟨p, rfl, pp, tabs_same ht sp, fun Hq bt tq => ?_⟩
        have hd2 : Hq D = some (.lst (List.replicate i (V.bl true))) := bt D _ (sp _ _ hd) (ne_of_none hd np) fun _ q => nomatch q
        refine ⟨_, hd2, (by rw [List.length_replicate]; exact small1000 (by omega)), fun b u e t => ?_, ?_, tabs_upd tq hd2⟩
        · rw [upd_ne (ne_of_none e hD)]
          exact bt b u (sp _ _ (sx _ _ e t)) (ne_of_none (sx _ _ e t) np) t
        · rw [upd_same, List.replicate_succ']
      · rintro H' ⟨sx, hd, ht⟩
        have hd2 : H' D = some (.lst ((List.replicate M.toNat true).map V.bl)) := by
          rw [List.map_replicate]
          exact hd
        refine ⟨D, _, rfl, SqL.of hd2, ?_⟩
        rw [show (List.replicate M.toNat true).all id = true by simp]
        exact k1 H'
end
end K5
set_option Elab.async false
set_option linter.all false
set_option maxRecDepth 100000
set_option maxHeartbeats 8000000
namespace Hx
open PySem PySem.Spec PyProof.Rows L2
/-! what of a class with properties and classmethods is looked at, over K -/
def lookF (K : PySem.W.Frag) (a : Addr) : Option FuncData := match K.lookup a with
  | some ⟨_, _, .func q, _⟩ => some q
  | _ => none
def shapeF (q : FuncData) : Str × Str × Arguments × FuncBody × Scope × Addr × List (Str × Addr) × Addr := (q.name, q.qualname, q.params, q.body, q.scope, q.globals, q.closure, q.builtins)
/-- the def at a, as it was written -/
def seenF (K : PySem.W.Frag) (a : Addr) : He.FnW := (lookF K a).map shapeF
def saidF (x q : Str) (st : Stmt) : He.FnW := some (x, q, defArgs st, .stmts (defBody st), defScope st, mainGlobals, [], builtinsNs)
def keptF (K : PySem.W.Frag) (a : Addr) (q : Str) : Bool := match lookF K a with
  | some z => PySem.W.keepIn K (.ref a) && (PySem.W.codeIn K z.code q && (He.dflB K z.defaults [] && He.kwdB K z.kwdefaults []))
  | none => false
theorem lookF_at {K : PySem.W.Frag} {a : Addr} {z : FuncData} (e : lookF K a = some z) : ∃ oc od osl, K.lookup a = some ⟨oc, od, .func z, osl⟩ := by
  unfold lookF at e
  split at e
  · rename_i c d q s h
    cases e
    exact ⟨c, d, s, h⟩
  · cases e
theorem funF {K : PySem.W.Frag} {a : Addr} {x q : Str} {st : Stmt} (e : seenF K a = saidF x q st) (c : keptF K a q = true) : ∃ z, FunD K x q (defArgs st) (defBody st) (defScope st) [] [] a z := by
  unfold keptF at c
  unfold seenF at e
  cases h : lookF K a with
  | none =>
    rw [h] at c
    cases c
  | some z =>
    rw [h] at c e
    obtain ⟨oc, od, osl, lk⟩ := lookF_at h
    have c' : (PySem.W.keepIn K (.ref a) && (PySem.W.codeIn K z.code q && (He.dflB K z.defaults [] && He.kwdB K z.kwdefaults []))) = true := c
    obtain ⟨kp, c1⟩ := Bool.and_eq_true_iff.mp c'
    obtain ⟨cd, c2⟩ := Bool.and_eq_true_iff.mp c1
    obtain ⟨df, kw⟩ := Bool.and_eq_true_iff.mp c2
    have e' : some (shapeF z) = saidF x q st := e
    obtain ⟨m1, m2, m3, m4, m5, m6, m7, m8, m9, m10, m11, m12, m13, m14, m15⟩ := z
    unfold saidF shapeF at e'
    simp only [Option.some.injEq, Prod.mk.injEq] at e'
    obtain ⟨i1, i2, i3, i4, i5, i6, i7, i8⟩ := e'
    subst i1 i2 i3 i4 i5 i6 i7 i8
    exact ⟨_, ⟨oc, od, m8, m9, m10, m11, m12, m13, m14, osl, rfl, lk, cd, He.dflB_ok df, He.kwdB_ok kw⟩, kp⟩
/-- the first of a record's fields, if it is an object -/
def firstR (K : PySem.W.Frag) (p : Addr) (T : String) : Addr := match PySem.W.recIn K p T with
  | some (.ref g :: _) => g
  | _ => 0
def recB (K : PySem.W.Frag) (p : Addr) (T : String) : Bool := match PySem.W.recIn K p T with
  | some (.ref _ :: _) => true
  | _ => false
theorem recB_ok {K : PySem.W.Frag} {p : Addr} {T : String} (h : recB K p T = true) : ∃ rest, PySem.W.recIn K p T = some (.ref (firstR K p T) :: rest) := by
  unfold recB at h
  unfold firstR
  split at h
  · rename_i g r e
    rw [e]
    exact ⟨r, rfl⟩
  · cases h
def propB (K : PySem.W.Frag) (C : Addr) (f : Str) : Bool := He.eqO (PySem.W.findIn K (.ref C) f) (some (some (.ref (He.ma K C f)))) && (He.eqO (PySem.W.specialIn K (.ref (He.ma K C f)) "__get__") (some (some (.builtin "property.__get__"))) &&
  (decide (PySem.W.takesIn K (.ref (He.ma K C f)) = some true) && recB K (He.ma K C f) "property"))
theorem propB_ok {K : PySem.W.Frag} {C : Addr} {f : Str} (h : propB K C f = true) : PropOf K C f (He.ma K C f) (firstR K (He.ma K C f) "property") := by
  unfold propB at h
  obtain ⟨h1, h⟩ := Bool.and_eq_true_iff.mp h
  obtain ⟨h2, h⟩ := Bool.and_eq_true_iff.mp h
  obtain ⟨h3, h4⟩ := Bool.and_eq_true_iff.mp h
  exact ⟨He.eqO_ok h1, He.eqO_ok h2, of_decide_eq_true h3, recB_ok h4⟩
/-- the record of C.m, a classmethod -/
def cmAt (K : PySem.W.Frag) (C : Addr) (m : Str) : Addr := match PySem.W.findCls K (.ref C) (.type "type") m with
  | some (.get _ (.ref p) _ _) => p
  | _ => 0
def cmB (K : PySem.W.Frag) (C : Addr) (m : Str) : Bool := (match PySem.W.findCls K (.ref C) (.type "type") m with
  | some (.get (.builtin n) (.ref _) .none (.ref D)) => n == "classmethod.__get__" && decide (D = C)
  | _ => false) && (recB K (cmAt K C m) "classmethod" && PySem.W.fnIn K (firstR K (cmAt K C m) "classmethod"))
theorem cmB_ok {K : PySem.W.Frag} {C : Addr} {m : Str} (h : cmB K C m = true) : ClX.CMet K C (.type "type") m (cmAt K C m) (firstR K (cmAt K C m) "classmethod") := by
  unfold cmB at h
  obtain ⟨h1, h⟩ := Bool.and_eq_true_iff.mp h
  obtain ⟨h2, h3⟩ := Bool.and_eq_true_iff.mp h
  refine ⟨?_, recB_ok h2, h3⟩
  unfold cmAt
  split at h1
  · rename_i n p D e
    obtain ⟨k1, k2⟩ := Bool.and_eq_true_iff.mp h1
    rw [e, eq_of_beq k1, of_decide_eq_true k2]
  · cases h1
def readB (K : PySem.W.Frag) (C : Addr) : Bool := PySem.W.readsIn K C (.type "type") && He.eqO (PySem.W.specialIn K (.ref C) "__getattribute__") (some (some (.builtin "type.__getattribute__")))
theorem readB_ok {K : PySem.W.Frag} {C : Addr} (h : readB K C = true) : ClX.CRead K C (.type "type") := by
  unfold readB at h
  obtain ⟨h1, h2⟩ := Bool.and_eq_true_iff.mp h
  exact ⟨h1, He.eqO_ok h2⟩
end Hx
set_option Elab.async false
set_option linter.all false
set_option maxRecDepth 100000
set_option maxHeartbeats 8000000
namespace Hz
open PySem PySem.Spec PyProof.Rows L2 Fx
/-! what is looked at of a class of errors over an own base, with its own __init__ -/
def wn (r : Nat) : Str := (["WrongValue", "WrongName", "NotPossible"] : List Str).getD r ""
def bn (r : Nat) : String := (["ValueError", "LookupError", "ArithmeticError"] : List String).getD r ""
def bmOf (r : Nat) : List Value := [.type (bn r), .type "Exception", .type "BaseException", .type "object"]
def newOf (r : Nat) : String := (["ValueError.__new__", "LookupError.__new__", "ArithmeticError.__new__"] : List String).getD r ""
def initOf (r : Nat) : String := (["ValueError.__init__", "LookupError.__init__", "ArithmeticError.__init__"] : List String).getD r ""
/-- the text of a one-parameter __init__ -/
def Txt1 (st : Stmt) (f : Str) : Prop := ∃ (msg : Str) (kM : Nat) (p1 p2 q1 q2 q3 q4 q5 q6 r1 r2 r3 r4 : Pos), defArgs st = iA1 f p1 p2 ∧ defBody st = [iSup msg kM q1 q2 q3 q4 q5 q6, iSet f r1 r2 r3 r4] ∧ defScope st = iS1 f ∧ (q3.endLine == q5.line) = true
def clsB (K : PySem.W.Frag) (C W : Addr) (bm : List Value) (nw : String) : Bool := match K.lookup C with
  | some ⟨.type "type", _, .cls cd, sl⟩ => (match sl.toList with
    | [_, _, _, _, some (.builtin n), _] => decide (cd.mro = .ref C :: .ref W :: bm) && (n == nw && (!cd.hasDel && cd.hasDict))
    | _ => false)
  | _ => false
theorem clsB_ok {K : PySem.W.Frag} {C W : Addr} {bm : List Value} {nw : String} (h : clsB K C W bm nw = true) : ∃ nm q N bs sn sub ab col dd k0 k1 k2 k3 k5, K.lookup C = some (excClassObj nm q C N bs (.ref W :: bm) true sn sub ab col dd k0 k1 k2 k3 k5 nw) := by
  unfold clsB at h
  split at h
  · rename_i dd cd sl ho
    split at h
    · rename_i k0 k1 k2 k3 n k5 hs
      obtain ⟨h1, h⟩ := Bool.and_eq_true_iff.mp h
      obtain ⟨h2, h⟩ := Bool.and_eq_true_iff.mp h
      obtain ⟨h3, h4⟩ := Bool.and_eq_true_iff.mp h
      have e1 := of_decide_eq_true h1
      have e2 := eq_of_beq h2
      obtain ⟨nm, bs, mro, ns, qn, hd, sn, sub, ab, col, del⟩ := cd
      dsimp only at e1 h3 h4
      have e3 : del = false := by simpa using h3
      subst e1 e2 e3 h4
      obtain ⟨l⟩ := sl
      have hs' : l = [k0, k1, k2, k3, some (.builtin n), k5] := hs
      subst hs'
      exact ⟨nm, qn, ns, bs, sn, sub, ab, col, dd, k0, k1, k2, k3, k5, ho⟩
    · cases h
  · cases h
abbrev eC (K : PySem.W.Frag) (x : Str) : Addr := He.ga K x
abbrev eW (K : PySem.W.Frag) (r : Nat) : Addr := He.ga K (wn r)
abbrev eI (K : PySem.W.Frag) (x : Str) : Addr := He.ma K (eC K x) "__init__"
/-- what isinstance asks of a class -/
def isB (K : PySem.W.Frag) (C : Addr) : Bool := (PySem.W.clsIn K C).isSome && (He.eqO (PySem.W.findIn K (.ref C) "__getattribute__") (some (some (.builtin "BaseException.__getattribute__"))) && (He.eqO (PySem.W.findIn K (.ref C) "__getattr__") (some none) && (decide (PySem.W.subIn K (.ref C) (.type "BaseException") = some true) &&
  (He.eqO (PySem.W.findIn K (.ref C) "__class__") (some (some (.builtin "object.__class__"))) && (He.eqO (PySem.W.specialIn K (.builtin "object.__class__") "__get__") (some (some (.builtin "getset_descriptor.__get__"))) && (decide (PySem.W.takesIn K (.builtin "object.__class__") = some true) && decide (PySem.W.mroIn K C (.type "object") = some true)))))))
theorem isB_ok {K : PySem.W.Frag} {C : Addr} (h : isB K C = true) : IsC K C := by
  obtain ⟨h1, h⟩ := Bool.and_eq_true_iff.mp h
  obtain ⟨h2, h⟩ := Bool.and_eq_true_iff.mp h
  obtain ⟨h3, h⟩ := Bool.and_eq_true_iff.mp h
  obtain ⟨h4, h⟩ := Bool.and_eq_true_iff.mp h
  obtain ⟨h5, h⟩ := Bool.and_eq_true_iff.mp h
  obtain ⟨h6, h⟩ := Bool.and_eq_true_iff.mp h
  obtain ⟨h7, h8⟩ := Bool.and_eq_true_iff.mp h
  exact ⟨h1, He.eqO_ok h2, He.eqO_ok h3, of_decide_eq_true h4, He.eqO_ok h5, He.eqO_ok h6, of_decide_eq_true h7, of_decide_eq_true h8⟩
/-- the function of an __init__ -/
def fnB (K : PySem.W.Frag) (C fI : Addr) : Bool := match K.lookup fI with
  | some ⟨_, _, .func fd, _⟩ => (match fd.code, fd.closure with
    | .ref cda, [(_, cc)] => PySem.W.codeIn K (.ref cda) fd.qualname && ((match K.lookup cda with
        | some ⟨_, _, .fields vs, _⟩ => (match (vs[2]? : Option Value) with
          | some (.str file _) => file == ("/claim/cut.py" : Str)
          | _ => false)
        | _ => false) && (match K.lookup cc with
        | some ⟨_, _, .cell (some (.ref c)), _⟩ => decide (c = C)
        | _ => false))
    | _, _ => false)
  | _ => false
abbrev FnI : Type := Option (Str × Arguments × FuncBody × Scope × Addr × List Str × Value × Addr)
def fnI (K : PySem.W.Frag) (fI : Addr) : FnI := match K.lookup fI with
  | some ⟨_, _, .func fd, _⟩ => some (fd.name, fd.params, fd.body, fd.scope, fd.globals, fd.closure.map (·.1), fd.defaults, fd.builtins)
  | _ => none
def fnV (st : Stmt) : FnI := some ("__init__", defArgs st, .stmts (defBody st), defScope st, mainGlobals, ["__class__"], .none, builtinsNs)
theorem fn_ok {K : PySem.W.Frag} {C fI : Addr} {st : Stmt} (e : fnI K fI = fnV st) (b : fnB K C fI = true) : ∃ (oc : Value) (od : Option Addr) (qual : Str) (kV doc pm : Value) (an : Option Addr) (cda cc : Addr) (ct : Value) (osl : Array (Option Value)) (vs : Array Value) (file : Str) (tf : Tok) (ccl cl : Value) (cdd cld : Option Addr) (ccs csl : Array (Option Value)),
    K.lookup fI = some ⟨oc, od, .func (PySem.W.ksFn "__init__" qual (defArgs st) (defBody st) (defScope st) .none kV doc pm an (.ref cda) ct cc), osl⟩ ∧ PySem.W.codeIn K (.ref cda) qual = true ∧ K.lookup cda = some ⟨ccl, cdd, .fields vs, ccs⟩ ∧ vs[2]? = some (.str file tf) ∧ file = "/claim/cut.py" ∧ K.lookup cc = some ⟨cl, cld, .cell (some (.ref C)), csl⟩ := by
  unfold fnI at e
  unfold fnB at b
  split at e
  · rename_i oc od fd osl ho
    rw [ho] at b
    dsimp only at b
    split at b
    · rename_i cda y cc h1 h2
      obtain ⟨b1, b⟩ := Bool.and_eq_true_iff.mp b
      obtain ⟨b2, b3⟩ := Bool.and_eq_true_iff.mp b
      split at b2
      · rename_i ccl cdd vs ccs h3
        split at b2
        · rename_i file tf h4
          split at b3
          · rename_i cl cld c csl h5
            have e5 := of_decide_eq_true b3
            subst e5
            obtain ⟨n1, n2, n3, n4, n5, n6, n7, n8, n9, n10, n11, n12, n13, n14, n15⟩ := fd
            dsimp only at h1 h2 b1
            subst h1 h2
            unfold fnV at e
            simp only [Option.some.injEq, Prod.mk.injEq, List.map_cons, List.map_nil, List.cons.injEq, and_true] at e
            obtain ⟨rfl, rfl, rfl, rfl, rfl, rfl, rfl, rfl⟩ := e
            exact ⟨oc, od, n2, n9, n10, n11, n12, cda, cc, n14, osl, vs, file, tf, ccl, cl, cdd, cld, ccs, csl, ho, b1, h3, h4, eq_of_beq b2, h5⟩
          · cases b3
        · cases b2
      · cases b2
    · cases b
  · cases e
/-- all of a class of errors: its name, its field, its base -/
def kindB (K : PySem.W.Frag) (C : Addr) (r : Nat) : Bool := (List.range 3).all fun j => decide (PySem.W.kitOne K (.ref C) (.ref (eW K j)) = some (r == j)) && decide (PySem.W.kitOne K (.ref C) (.type (bn j)) = some (r == j))
def errB (K : PySem.W.Frag) (x f : Str) (r : Nat) : Bool := clsB K (eC K x) (eW K r) (bmOf r) (newOf r) && (He.eqO (PySem.W.findIn K (.ref (eC K x)) "__setattr__") (some (some (.builtin "object.__setattr__"))) && (He.eqO (PySem.W.findIn K (.ref (eC K x)) "__init__") (some (some (.ref (eI K x)))) &&
  (decide (PySem.W.typeIn K (.ref (eI K x)) = some (.type "function")) && (PySem.W.keepIn K (.ref (eC K x)) && (He.eqO (PySem.W.alongIn K "__init__" (.ref (eW K r) :: bmOf r)) (some (some (.builtin (initOf r)))) &&
  (He.eqO (PySem.W.findIn K (.ref (eC K x)) f) (some none) && (isB K (eC K x) && (PySem.W.hasDictIn K (eC K x) && (kindB K (eC K x) r &&
  (He.eqO (PySem.W.nsIn K mainGlobals x) (some (some (.ref (eC K x)))) && (fnB K (eC K x) (eI K x) && (decide (PySem.W.typeIn K (.ref (eC K x)) = some (.type "type")) && (decide (PySem.W.exmAny K (.ref (eC K x)) [.ref (eW K 0), .ref (eW K 1), .ref (eW K 2)] = some true) && He.eqO (PySem.W.nsIn K cStatics "thirdparty.any") (some none))))))))))))))
/-- the bases are where they are said to be -/
def baseB (K : PySem.W.Frag) : Bool := (List.range 3).all fun r => He.eqO (PySem.W.nsIn K mainGlobals (wn r)) (some (some (.ref (eW K r))))
structure Err (P : Program) (K : PySem.W.Frag) (mg : Str → Option Value) (x f : Str) (r : Nat) : Prop where
  e : Err1 P K mg (newOf r) (initOf r) (bmOf r) (eC K x) (eW K r) (eI K x) f
  i : IsC K (eC K x)
  xf : XfC K (eC K x)
  g : mg x = some (.ref (eC K x))
  ty : PySem.W.typeIn K (.ref (eC K x)) = some (.type "type")
  any : PySem.W.exmAny K (.ref (eC K x)) [.ref (eW K 0), .ref (eW K 1), .ref (eW K 2)] = some true
  own : ∀ j, j < 3 → PySem.W.kitOne K (.ref (eC K x)) (.ref (eW K j)) = some (r == j)
  bas : ∀ j, j < 3 → PySem.W.kitOne K (.ref (eC K x)) (.type (bn j)) = some (r == j)
section
variable {P : Program} {K : PySem.W.Frag} {mg : Str → Option Value} {h : Heap}
theorem err_ok {x f : Str} {r : Nat} {st : Stmt} (hP : (P.main.file == ("/claim/cut.py" : Str)) = true) (hS : (P.main.scope.names.lookup ("super" : Str)).isSome = false) (X : K.In h) (G : h.Ns mainGlobals mg) (su : mg "super" = none) (ff : f = "given" ∨ f = "index")
    (b : errB K x f r = true) (v : fnI K (eI K x) = fnV st) (t : Txt1 st f) : Err P K mg x f r := by
  obtain ⟨z1, z⟩ := Bool.and_eq_true_iff.mp b
  obtain ⟨z2, z⟩ := Bool.and_eq_true_iff.mp z
  obtain ⟨z3, z⟩ := Bool.and_eq_true_iff.mp z
  obtain ⟨z4, z⟩ := Bool.and_eq_true_iff.mp z
  obtain ⟨z5, z⟩ := Bool.and_eq_true_iff.mp z
  obtain ⟨z6, z⟩ := Bool.and_eq_true_iff.mp z
  obtain ⟨z7, z⟩ := Bool.and_eq_true_iff.mp z
  obtain ⟨z8, z⟩ := Bool.and_eq_true_iff.mp z
  obtain ⟨z9, z⟩ := Bool.and_eq_true_iff.mp z
  obtain ⟨z10, z⟩ := Bool.and_eq_true_iff.mp z
  obtain ⟨z11, z⟩ := Bool.and_eq_true_iff.mp z
  obtain ⟨z12, z⟩ := Bool.and_eq_true_iff.mp z
  obtain ⟨z13, z⟩ := Bool.and_eq_true_iff.mp z
  obtain ⟨z14, z15⟩ := Bool.and_eq_true_iff.mp z
  have kit : ∀ j, j < 3 → PySem.W.kitOne K (.ref (eC K x)) (.ref (eW K j)) = some (r == j) ∧ PySem.W.kitOne K (.ref (eC K x)) (.type (bn j)) = some (r == j) := fun j hj => by
    obtain ⟨q1, q2⟩ := Bool.and_eq_true_iff.mp (List.all_eq_true.mp z10 j (List.mem_range.mpr hj))
    exact ⟨of_decide_eq_true q1, of_decide_eq_true q2⟩
  have ic := isB_ok z8
  obtain ⟨oc, od, qual, kV, doc, pm, an, cda, cc, ct, osl, vs, file, tf, ccl, cl, cdd, cld, ccs, csl, e1, e2, e3, e4, rfl, e6⟩ := fn_ok v z12
  obtain ⟨msg, kM, p1, p2, q1, q2, q3, q4, q5, q6, r1, r2, r3, r4, t1, t2, t3, t4⟩ := t
  rw [t1, t2, t3] at e1
  exact ⟨⟨⟨clsB_ok z1, He.eqO_ok z2, He.eqO_ok z3, of_decide_eq_true z4, z5, He.eqO_ok z6, He.eqO_ok z15, su⟩, ⟨oc, od, qual, msg, kM, kV, doc, pm, an, cda, cc, ct, osl, p1, p2, q1, q2, q3, q4, q5, q6, r1, r2, r3, r4, vs, _, tf, ccl, cl, cdd, cld, ccs, csl, e1, e2, e3, e4, hP, e6, hS, t4⟩, He.eqO_ok z7, ff⟩,
    ic, ⟨ic.ga, ic.gg, ic.ex, z9⟩, PySem.W.mg_of X G (He.eqO_ok z11), of_decide_eq_true z13, of_decide_eq_true z14, fun j hj => (kit j hj).1, fun j hj => (kit j hj).2⟩
theorem base_ok (X : K.In h) (G : h.Ns mainGlobals mg) (b : baseB K = true) (r : Nat) (hr : r < 3) : mg (wn r) = some (.ref (eW K r)) := PySem.W.mg_of X G (He.eqO_ok (List.all_eq_true.mp b r (List.mem_range.mpr hr)))
end
end Hz
set_option Elab.async false
set_option linter.all false
set_option maxRecDepth 100000
set_option maxHeartbeats 8000000
namespace Hx
open PySem PySem.Spec PyProof.Rows L2
def kinB (K : PySem.W.Frag) (C : Addr) : Bool := He.eqO (PySem.W.findIn K (.ref C) "__class__") (some (some (.builtin "object.__class__"))) && (He.eqO (PySem.W.specialIn K (.builtin "object.__class__") "__get__") (some (some (.builtin "getset_descriptor.__get__"))) &&
  (decide (PySem.W.takesIn K (.builtin "object.__class__") = some true) && (decide (PySem.W.mroIn K C (.type "object") = some true) && decide (PySem.W.kitOne K (.ref C) (.ref C) = some true))))
end Hx
set_option Elab.async false
set_option linter.all false
set_option maxRecDepth 100000
set_option maxHeartbeats 8000000
namespace Pg
open PySem PySem.Spec PyProof.Rows L2
/-- no data is a program -/
def tyL : List String := ["NoneType", "bool", "int", "str", "list", "tuple", "dict"]
def kinNB (K : PySem.W.Frag) (C : Addr) : Bool := tyL.all fun t => decide (PySem.W.kitOne K (.type t) (.ref C) = some false)
end Pg
namespace Hx
open PySem PySem.Spec PyProof.Rows L2
/-- classes of errors beside one another -/
def crossB (K : PySem.W.Frag) (cs : List Addr) : Bool := (List.range cs.length).all fun i => (List.range cs.length).all fun j => decide (PySem.W.kitOne K (.ref (cs.getD i 0)) (.ref (cs.getD j 0)) = some (i == j))
theorem cross_ok {K : PySem.W.Frag} {cs : List Addr} (h : crossB K cs = true) (i j : Nat) (hi : i < cs.length) (hj : j < cs.length) : PySem.W.kitOne K (.ref (cs.getD i 0)) (.ref (cs.getD j 0)) = some (i == j) :=
  of_decide_eq_true (List.all_eq_true.mp (List.all_eq_true.mp h i (List.mem_range.mpr hi)) j (List.mem_range.mpr hj))
/-- classes that one except catches -/
def catB (K : PySem.W.Frag) (cs : List Addr) : Bool := (List.range cs.length).all fun i => decide (PySem.W.exmAny K (.ref (cs.getD i 0)) (cs.map Value.ref) = some true)
theorem cat_ok {K : PySem.W.Frag} {cs : List Addr} (h : catB K cs = true) (i : Nat) (hi : i < cs.length) : PySem.W.exmAny K (.ref (cs.getD i 0)) (cs.map Value.ref) = some true :=
  of_decide_eq_true (List.all_eq_true.mp h i (List.mem_range.mpr hi))
end Hx
set_option Elab.async false
set_option linter.all false
set_option maxRecDepth 100000
set_option maxHeartbeats 8000000
namespace Hz
open PySem PySem.Spec PyProof.Rows L2 Fx
/-! the same of a class of errors that hold nothing -/
def Txt0 (st : Stmt) : Prop := ∃ (msg : Str) (kM : Nat) (p1 q1 q2 q3 q4 q5 q6 : Pos), defArgs st = iA0 p1 ∧ defBody st = [iSup msg kM q1 q2 q3 q4 q5 q6] ∧ defScope st = iS0 ∧ (q3.endLine == q5.line) = true
def err0B (K : PySem.W.Frag) (x : Str) (r : Nat) : Bool := clsB K (eC K x) (eW K r) (bmOf r) (newOf r) && (He.eqO (PySem.W.findIn K (.ref (eC K x)) "__setattr__") (some (some (.builtin "object.__setattr__"))) && (He.eqO (PySem.W.findIn K (.ref (eC K x)) "__init__") (some (some (.ref (eI K x)))) &&
  (decide (PySem.W.typeIn K (.ref (eI K x)) = some (.type "function")) && (PySem.W.keepIn K (.ref (eC K x)) && (He.eqO (PySem.W.alongIn K "__init__" (.ref (eW K r) :: bmOf r)) (some (some (.builtin (initOf r)))) &&
  (isB K (eC K x) && (kindB K (eC K x) r &&
  (He.eqO (PySem.W.nsIn K mainGlobals x) (some (some (.ref (eC K x)))) && (fnB K (eC K x) (eI K x) && (decide (PySem.W.typeIn K (.ref (eC K x)) = some (.type "type")) && (decide (PySem.W.exmAny K (.ref (eC K x)) [.ref (eW K 0), .ref (eW K 1), .ref (eW K 2)] = some true) && He.eqO (PySem.W.nsIn K cStatics "thirdparty.any") (some none))))))))))))
structure Err0 (P : Program) (K : PySem.W.Frag) (mg : Str → Option Value) (x : Str) (r : Nat) : Prop where
  t : ErrT K mg (newOf r) (initOf r) (bmOf r) (eC K x) (eW K r) (eI K x)
  n : Fn0 P K (eC K x) (eI K x)
  i : IsC K (eC K x)
  g : mg x = some (.ref (eC K x))
  ty : PySem.W.typeIn K (.ref (eC K x)) = some (.type "type")
  any : PySem.W.exmAny K (.ref (eC K x)) [.ref (eW K 0), .ref (eW K 1), .ref (eW K 2)] = some true
  own : ∀ j, j < 3 → PySem.W.kitOne K (.ref (eC K x)) (.ref (eW K j)) = some (r == j)
  bas : ∀ j, j < 3 → PySem.W.kitOne K (.ref (eC K x)) (.type (bn j)) = some (r == j)
section
variable {P : Program} {K : PySem.W.Frag} {mg : Str → Option Value} {h : Heap}
theorem err0_ok {x : Str} {r : Nat} {st : Stmt} (hP : (P.main.file == ("/claim/cut.py" : Str)) = true) (hS : (P.main.scope.names.lookup ("super" : Str)).isSome = false) (X : K.In h) (G : h.Ns mainGlobals mg) (su : mg "super" = none)
    (b : err0B K x r = true) (v : fnI K (eI K x) = fnV st) (t : Txt0 st) : Err0 P K mg x r := by
  obtain ⟨z1, z⟩ := Bool.and_eq_true_iff.mp b
  obtain ⟨z2, z⟩ := Bool.and_eq_true_iff.mp z
  obtain ⟨z3, z⟩ := Bool.and_eq_true_iff.mp z
  obtain ⟨z4, z⟩ := Bool.and_eq_true_iff.mp z
  obtain ⟨z5, z⟩ := Bool.and_eq_true_iff.mp z
  obtain ⟨z6, z⟩ := Bool.and_eq_true_iff.mp z
  obtain ⟨z8, z⟩ := Bool.and_eq_true_iff.mp z
  obtain ⟨z10, z⟩ := Bool.and_eq_true_iff.mp z
  obtain ⟨z11, z⟩ := Bool.and_eq_true_iff.mp z
  obtain ⟨z12, z⟩ := Bool.and_eq_true_iff.mp z
  obtain ⟨z13, z⟩ := Bool.and_eq_true_iff.mp z
  obtain ⟨z14, z15⟩ := Bool.and_eq_true_iff.mp z
  have kit : ∀ j, j < 3 → PySem.W.kitOne K (.ref (eC K x)) (.ref (eW K j)) = some (r == j) ∧ PySem.W.kitOne K (.ref (eC K x)) (.type (bn j)) = some (r == j) := fun j hj => by
    obtain ⟨q1, q2⟩ := Bool.and_eq_true_iff.mp (List.all_eq_true.mp z10 j (List.mem_range.mpr hj))
    exact ⟨of_decide_eq_true q1, of_decide_eq_true q2⟩
  obtain ⟨oc, od, qual, kV, doc, pm, an, cda, cc, ct, osl, vs, file, tf, ccl, cl, cdd, cld, ccs, csl, e1, e2, e3, e4, rfl, e6⟩ := fn_ok v z12
  obtain ⟨msg, kM, p1, q1, q2, q3, q4, q5, q6, t1, t2, t3, t4⟩ := t
  rw [t1, t2, t3] at e1
  exact ⟨⟨clsB_ok z1, He.eqO_ok z2, He.eqO_ok z3, of_decide_eq_true z4, z5, He.eqO_ok z6, He.eqO_ok z15, su⟩, ⟨oc, od, qual, msg, kM, kV, doc, pm, an, cda, cc, ct, osl, p1, q1, q2, q3, q4, q5, q6, vs, _, tf, ccl, cl, cdd, cld, ccs, csl, e1, e2, e3, e4, hP, e6, hS, t4⟩,
    isB_ok z8, PySem.W.mg_of X G (He.eqO_ok z11), of_decide_eq_true z13, of_decide_eq_true z14, fun j hj => (kit j hj).1, fun j hj => (kit j hj).2⟩
end
end Hz
set_option Elab.async false
set_option linter.all false
set_option maxRecDepth 100000
set_option maxHeartbeats 0
namespace K5
open PySem PySem.Spec PyProof.Rows L2 Gd Rl
/-! ### the head -/
def dd (x : Str) (st : Stmt) : He.DefD := ⟨(x, none), x, x, defArgs st, defBody st, defScope st, [], []⟩
def dm (x q : Str) (st : Stmt) : He.DefD := ⟨("Program", some x), x, q, defArgs st, defBody st, defScope st, [], []⟩
def dc (c x q : Str) (st : Stmt) : He.DefD := ⟨(c, some x), x, q, defArgs st, defBody st, defScope st, [], []⟩
def fn : List He.DefD := [dd "is_integer" (Pg.top 19), dd "is_name" (Pg.top 20), dd "are_integers" (Pg.top 21), dd "is_form" (Pg.top 22), dd "are_forms" (Pg.top 23), dd "is_numeral" (Pg.top 24), dd "_check_names" (Pg.top 27), dd "_check_sayings" (Pg.top 28), dd "_check_branches" (Pg.top 29), dd "_is_saying" (Pg.top 30), dd "_is_branch" (Pg.top 31), dd "_places_of" (Pg.top 32), dd "_text_of" (Pg.top 33), dd "_words_of" (Pg.top 34), dd "_parts_of" (Pg.top 35), dd "_form_of" (Pg.top 36), dd "_law_begun" (Pg.top 38), dd "_law_cast" (Pg.top 39), dd "_law_any_of" (Pg.top 40), dd "_law_tags" (Pg.top 41), dd "_law_wide" (Pg.top 42), dd "_law_form" (Pg.top 43), dd "_law_parts" (Pg.top 44), dd "_law_words" (Pg.top 45), dd "_law_arm_lines" (Pg.top 46), dd "_law_lines" (Pg.top 47), dd "_law_sheet" (Pg.top 48), dd "_law_spots" (Pg.top 49), dd "_law_thing" (Pg.top 50), dd "_law_answer" (Pg.top 51), dd "_law_is_whole" (Pg.top 52), dd "_law_is_tag" (Pg.top 53), dd "_law_is_form" (Pg.top 54), dd "_law_is_arm" (Pg.top 55), dd "_law_wrong_tags" (Pg.top 56), dd "_law_wrong_says" (Pg.top 57), dd "_law_wrong_arms" (Pg.top 58), dd "_law_figure" (Pg.top 59), dd "_law_figures" (Pg.top 60), dd "_law_read" (Pg.top 61), dd "_law_bent_said" (Pg.top 62), dd "_law_sort" (Pg.top 63), dd "_law_told" (Pg.top 64), dd "_law_right" (Pg.top 65), dd "law" (Pg.top 66), dm "__init__" "Program.__init__" (inClass (Pg.top 26) 0), dm "__str__" "Program.__str__" (inClass (Pg.top 26) 11)]
def fa : List He.Fa := [.glo "is_integer", .glo "is_name", .glo "are_integers", .glo "is_form", .glo "are_forms", .glo "is_numeral", .glo "_check_names", .glo "_check_sayings", .glo "_check_branches", .glo "_is_saying", .glo "_is_branch", .glo "_places_of", .glo "_text_of", .glo "_words_of", .glo "_parts_of", .glo "_form_of", .glo "_law_begun", .glo "_law_cast", .glo "_law_any_of", .glo "_law_tags", .glo "_law_wide", .glo "_law_form", .glo "_law_parts", .glo "_law_words", .glo "_law_arm_lines", .glo "_law_lines", .glo "_law_sheet", .glo "_law_spots", .glo "_law_thing", .glo "_law_answer", .glo "_law_is_whole", .glo "_law_is_tag", .glo "_law_is_form", .glo "_law_is_arm", .glo "_law_wrong_tags", .glo "_law_wrong_says", .glo "_law_wrong_arms", .glo "_law_figure", .glo "_law_figures", .glo "_law_read", .glo "_law_bent_said", .glo "_law_sort", .glo "_law_told", .glo "_law_right", .glo "law", .glo "Program", .free "len", .free "divmod", .free "int", .free "abs", .free "isinstance", .free "bool", .free "str", .free "tuple", .free "all", .free "enumerate", .free "range", .free "repr", .free "max", .free "min", .free "super", .free "ValueError", .free "LookupError", .free "ArithmeticError", .int "LONGEST_NAME" 8, .int "MOST_NUMBER" 1000000, .int "MOST_VARIABLES" 3, .int "MOST_PLACES" 3, .int "MOST_BRANCHES" 5, .int "MOST_TESTS" 3, .int "MOST_SAYINGS" 3, .str "LETTERS" Pg.letS, .str "FIGURES" Pg.figS, .cls "Program", .noat "Program" "_names", .noat "Program" "_sayings", .noat "Program" "_branches", .noat "Program" "_places", .noat "Program" "_text", .meth "Program" "__str__", .mkr "Program"]
/-- getters, and read: where, name, qualified name, text -/
def cP (K : PySem.W.Frag) : Addr := He.ga K "Program"
def gAt (f : Str) (K : PySem.W.Frag) : Addr := Hx.firstR K (He.ma K (cP K) f) "property"
def rAt (K : PySem.W.Frag) : Addr := Hx.firstR K (Hx.cmAt K (cP K) "read") "classmethod"
def gAtC (c f : Str) (K : PySem.W.Frag) : Addr := Hx.firstR K (He.ma K (He.ga K c) f) "property"
def pl : List (Str × Str) := []
def gl : List ((PySem.W.Frag → Addr) × Str × Str × Stmt) := [(gAt "names", "names", "Program.names", (inClass (Pg.top 26) 2)), (gAt "sayings", "sayings", "Program.sayings", (inClass (Pg.top 26) 3)), (gAt "branches", "branches", "Program.branches", (inClass (Pg.top 26) 4)), (rAt, "read", "Program.read", (inClass (Pg.top 26) 1))]
abbrev eSt0 : Stmt := inClass (Pg.top 3) 0
theorem eTx0 : Hz.Txt1 eSt0 "given" := ⟨_, _, _, _, _, _, _, _, _, _, _, _, _, _, rfl, rfl, rfl, rfl⟩
abbrev eSt1 : Stmt := inClass (Pg.top 4) 0
theorem eTx1 : Hz.Txt1 eSt1 "index" := ⟨_, _, _, _, _, _, _, _, _, _, _, _, _, _, rfl, rfl, rfl, rfl⟩
abbrev eSt2 : Stmt := inClass (Pg.top 5) 0
theorem eTx2 : Hz.Txt1 eSt2 "index" := ⟨_, _, _, _, _, _, _, _, _, _, _, _, _, _, rfl, rfl, rfl, rfl⟩
abbrev eSt3 : Stmt := inClass (Pg.top 6) 0
theorem eTx3 : Hz.Txt1 eSt3 "index" := ⟨_, _, _, _, _, _, _, _, _, _, _, _, _, _, rfl, rfl, rfl, rfl⟩

def el : List (Str × Str × Nat × Stmt) := [("InvalidText", "given", 0, eSt0), ("InvalidNames", "index", 0, eSt1), ("InvalidSayings", "index", 0, eSt2), ("InvalidBranches", "index", 0, eSt3)]
def el0 : List (Str × Nat × Stmt) := []
def tf : List He.Defn := [("_law_right", none), ("law", none)]
def exB (K : PySem.W.Frag) : Bool := ((Hz.baseB K && el.all fun e => Hz.errB K e.1 e.2.1 e.2.2.1) && ((pl.all fun p => Hx.propB K (He.ga K p.1) p.2) && el0.all fun e => Hz.err0B K e.1 e.2.1)) && ( (["names", "sayings", "branches"] : List Str).all (fun f => Hx.propB K (cP K) f) && (Hx.cmB K (cP K) "read" && (Hx.readB K (cP K) && ((gl.all fun g => Hx.keptF K (g.1 K) g.2.2.1) && (decide ((He.cT K ("_law_right", none)).2 ≠ (He.cT K ("law", none)).2) && (Hx.catB K [Hz.eC K "InvalidNames", Hz.eC K "InvalidSayings", Hz.eC K "InvalidBranches"] && Hx.crossB K [Hz.eC K "InvalidText"]))))))
/-- what is come to in n rounds, each address once: what was seen is one number, a sign of it an address -/
def addF (p : Nat × List Addr) (r : Addr) : Nat × List Addr := match Nat.testBit p.1 r with
  | true => p
  | false => (p.1 ||| (1 <<< r), r :: p.2)
def layF (g : Addr → Option Obj) (seen : Nat) (front : List Addr) : Nat × List Addr := front.foldl (fun p a => match g a with
  | some o => (He.refsD o).foldl addF p
  | none => p) (seen, [])
def asF (g : Addr → Option Obj) : Nat → List Addr → Nat → List Addr → List Addr
  | 0, all, _, _ => all
  | n + 1, all, seen, front => match layF g seen front with
    | (s, f) => asF g n (f ++ all) s f
def asK (g : Addr → Option Obj) (n : Nat) : List Addr := cStatics :: asF g n [mainGlobals] (1 <<< mainGlobals) [mainGlobals]
abbrev AlK : Type := (Bool × List He.FnW) × (Bool × (List He.FnW × List Hz.FnI))
def obsK (K : PySem.W.Frag) : AlK := (He.obsD fa fn K, (exB K, (gl.map fun g => Hx.seenF K (g.1 K), (el.map fun e => Hz.fnI K (Hz.eI K e.1)) ++ el0.map fun e => Hz.fnI K (Hz.eI K e.1))))
def valK : AlK := (He.valD fn, (true, (gl.map fun g => Hx.saidF g.2.1 g.2.2.1 g.2.2.2, (el.map fun e => Hz.fnV e.2.2.2) ++ el0.map fun e => Hz.fnV e.2.2)))
def SaysK (K : PySem.W.Frag) : Prop := obsK K = valK
def TabsK (h : Heap) (K : PySem.W.Frag) : Prop := ∀ p ∈ tf, PySem.W.codeHdIn K (He.cT K p).1 (He.cT K p).2 = true ∧ K.lookup (He.cT K p).2 = none ∧ h.get? (He.cT K p).2 = some { cls := .none, data := .fields #[] }
def obsKG (g : Addr → Option Obj) : AlK := (He.obsD fa fn (He.frT g (asK g 5)), (exB (He.frT g (asK g 5)) && He.tabsB g tf (He.frT g (asK g 5)), (gl.map fun q => Hx.seenF (He.frT g (asK g 5)) (q.1 (He.frT g (asK g 5))), (el.map fun e => Hz.fnI (He.frT g (asK g 5)) (Hz.eI (He.frT g (asK g 5)) e.1)) ++ el0.map fun e => Hz.fnI (He.frT g (asK g 5)) (Hz.eI (He.frT g (asK g 5)) e.1))))
theorem says_of {h : Heap} (e : obsKG h.get? = valK) : SaysK (He.frT h.get? (asK h.get? 5)) ∧ TabsK h (He.frT h.get? (asK h.get? 5)) := by
  have e1 := congrArg (fun z : AlK => z.1) e
  have e2 : (exB (He.frT h.get? (asK h.get? 5)) && He.tabsB h.get? tf (He.frT h.get? (asK h.get? 5))) = true := congrArg (fun z : AlK => z.2.1) e
  have e3 := congrArg (fun z : AlK => z.2.2) e
  obtain ⟨h1, h2⟩ := Bool.and_eq_true_iff.mp e2
  refine ⟨Prod.ext e1 (Prod.ext h1 e3), fun p hp => ?_⟩
  obtain ⟨h3, h4⟩ := Bool.and_eq_true_iff.mp (List.all_eq_true.mp h2 p hp)
  cases q : h.get? (He.cT (He.frT h.get? (asK h.get? 5)) p).2 with
  | none =>
    rw [q] at h4
    cases h4
  | some o =>
    rw [q] at h4
    exact ⟨h3, He.frT_none q h4, by rw [He.emptyTab_eq h4]⟩
def hk : PySem.W.Hook where
  α := AlK
  obs := fun s => obsKG s.heap.get?
  val := fun _ => valK
  says := fun _ h => ∃ K : PySem.W.Frag, K.In h ∧ SaysK K ∧ TabsK h K
  of := fun _ _ e => ⟨_, He.frT_in, says_of e⟩
  keeps := fun _ _ _ ⟨K, i, c, t⟩ k => ⟨K, PySem.W.Frag.In.keeps i k, c, fun p hp => ⟨(t p hp).1, (t p hp).2.1, k _ _ (t p hp).2.2⟩⟩
abbrev R : PySem.W.OpenRow := PySem.W.OpenLaw.row PySem.Challenge.rw_fallranks_k07_whole_texts_judged
def ob (s : PySem.W.SharedT) : AlK := obsKG (HandSHeadRun.getT s)
theorem ob_eq (s : PySem.W.SharedT) : ob s = hk.obs s.abs := by
  have e : HandSHeadRun.getT s = s.abs.heap.get? := funext (HandSHeadRun.getT_eq s)
  unfold ob
  rw [e]
  rfl
def names0 : List Str := ["_wall", "WrongValue", "InvalidText", "InvalidNames", "InvalidSayings", "InvalidBranches", "WrongName", "NotPossible", "MOST_VARIABLES", "MOST_PLACES", "MOST_BRANCHES", "MOST_TESTS", "MOST_SAYINGS", "MOST_NUMBER", "LONGEST_NAME", "LETTERS", "FIGURES", "is_integer", "is_name", "are_integers", "is_form", "are_forms", "is_numeral", "Program", "_check_names", "_check_sayings", "_check_branches", "_is_saying", "_is_branch", "_places_of"]
def names1 : List Str := ["_text_of", "_words_of", "_parts_of", "_form_of", "_law_begun", "_law_cast", "_law_any_of", "_law_tags", "_law_wide", "_law_form", "_law_parts", "_law_words", "_law_arm_lines", "_law_lines", "_law_sheet", "_law_spots", "_law_thing", "_law_answer", "_law_is_whole", "_law_is_tag", "_law_is_form", "_law_is_arm", "_law_wrong_tags", "_law_wrong_says", "_law_wrong_arms", "_law_figure", "_law_figures", "_law_read", "_law_bent_said", "_law_sort"]
def names2 : List Str := ["_law_told", "_law_right"]
def names : List Str := names0 ++ names1 ++ names2
theorem run (w : World) : HandSHeadRun.RunEq R (PySem.W.view R.prog [66]) hk ob 12000 names w := by
  intro os
  kernel_rfl
end K5
set_option Elab.async false
set_option linter.all false
set_option maxRecDepth 100000
set_option maxHeartbeats 0
namespace K5
open PySem PySem.Spec PyProof.Rows L2 Gd Rl
theorem facts {w : World} {K : PySem.W.Frag} {h : Heap} {mg : Str → Option Value} {f : Addr} (X : K.In h) (G : h.Ns mainGlobals mg) (hfa : mg ("law" : Str) = some (.ref f)) (cc : SaysK K) :
    ∃ fd : FuncData, (∀ (s : Shared) (v : Value), BindsTo s fd ⟨[v], []⟩ [("_law_script", v)]) ∧ ∀ base : Heap, K.In base → base.Ns mainGlobals mg → (∀ p ∈ tf, LamX.TabB base mg (He.cT K p).1 (He.cT K p).2) → FnG (PySem.Challenge.rw_fallranks_k07_whole_texts_judged).prog w K mg base 14 f fd ["_law_script"] (spLaw K [((He.cT K ("_law_right", none)).2, lamQ), ((He.cT K ("law", none)).2, lamL)]) := by
  have c : He.SaysD fa fn K := congrArg (fun z : AlK => z.1) cc
  have c2 : exB K = true := congrArg (fun z : AlK => z.2.1) cc
  have c3 : gl.map (fun g => Hx.seenF K (g.1 K)) = gl.map fun g => Hx.saidF g.2.1 g.2.2.1 g.2.2.2 := congrArg (fun z : AlK => z.2.2.1) cc
  have c4 : (el.map (fun e => Hz.fnI K (Hz.eI K e.1)) ++ el0.map fun e => Hz.fnI K (Hz.eI K e.1)) = (el.map (fun e => Hz.fnV e.2.2.2) ++ el0.map fun e => Hz.fnV e.2.2) := congrArg (fun z : AlK => z.2.2.2) cc
  obtain ⟨y0, c2⟩ := Bool.and_eq_true_iff.mp c2
  obtain ⟨y0, y4⟩ := Bool.and_eq_true_iff.mp y0
  obtain ⟨y1, y2⟩ := Bool.and_eq_true_iff.mp y0
  obtain ⟨y3, y4⟩ := Bool.and_eq_true_iff.mp y4
  obtain ⟨x1, c2⟩ := Bool.and_eq_true_iff.mp c2
  obtain ⟨x2, c2⟩ := Bool.and_eq_true_iff.mp c2
  obtain ⟨x3, c2⟩ := Bool.and_eq_true_iff.mp c2
  obtain ⟨x4, x5⟩ := Bool.and_eq_true_iff.mp c2
  have prp : ∀ f ∈ (["names", "sayings", "branches"] : List Str), PropOf K (cP K) f (He.ma K (cP K) f) (gAt f K) := fun f hf => Hx.propB_ok (List.all_eq_true.mp x1 f hf)
  have get : ∀ (i : Nat) (g : (PySem.W.Frag → Addr) × Str × Str × Stmt), gl[i]? = some g → ∃ z, FunD K g.2.1 g.2.2.1 (defArgs g.2.2.2) (defBody g.2.2.2) (defScope g.2.2.2) [] [] (g.1 K) z := fun i g e => by
    have e2 := congrArg (fun l => l[i]?) c3
    simp only [List.getElem?_map, e, Option.map_some, Option.some.injEq] at e2
    exact Hx.funF e2 (List.all_eq_true.mp x4 g (List.mem_of_getElem? e))
  have free : ∀ (i : Nat) (x : Str), fa[i]? = some (.free x) → mg x = none := fun i x e => He.free_ok X G (c.fact i (f := .free x) e)
  have glo : ∀ (i : Nat) (x : Str), fa[i]? = some (.glo x) → mg x = some (.ref (He.ga K x)) := fun i x e => He.glo_ok X G (c.fact i (f := .glo x) e)
  have noat : ∀ (i : Nat) (x : Str), fa[i]? = some (.noat "Program" x) → NoAttr K (cP K) x := fun i x e => He.noat_ok (c.fact i (f := .noat "Program" x) e)
  have dun : ∀ (i : Nat) (x : Str), fa[i]? = some (.meth "Program" x) → Ow.Dun K (cP K) x (He.ma K (cP K) x) := fun i x e => by
    have z := c.fact i (f := .meth "Program" x) e
    obtain ⟨z1, z⟩ := Bool.and_eq_true_iff.mp z
    obtain ⟨z2, z3⟩ := Bool.and_eq_true_iff.mp z
    exact ⟨He.eqO_ok z1, z2⟩
  have dunC : ∀ (C x : Str), (He.Fa.meth C x).ok K = true → Ow.Dun K (He.ga K C) x (He.ma K (He.ga K C) x) := fun C x z => by
    obtain ⟨z1, z⟩ := Bool.and_eq_true_iff.mp z
    obtain ⟨z2, z3⟩ := Bool.and_eq_true_iff.mp z
    exact ⟨He.eqO_ok z1, z2⟩
  obtain ⟨d0, F0⟩ := c.def_ 0 (d := dd "is_integer" Pg.sInt) rfl
  obtain ⟨d1, F1⟩ := c.def_ 1 (d := dd "is_name" Pg.sName) rfl
  obtain ⟨d2, F2⟩ := c.def_ 2 (d := dd "are_integers" Pg.sInts) rfl
  obtain ⟨d3, F3⟩ := c.def_ 3 (d := dd "is_form" Pg.sForm) rfl
  obtain ⟨d4, F4⟩ := c.def_ 4 (d := dd "are_forms" Pg.sForms) rfl
  obtain ⟨d5, F5⟩ := c.def_ 5 (d := dd "is_numeral" Pg.sNu) rfl
  obtain ⟨d6, F6⟩ := c.def_ 6 (d := dd "_check_names" Pg.sCN) rfl
  obtain ⟨d7, F7⟩ := c.def_ 7 (d := dd "_check_sayings" Pg.sCS) rfl
  obtain ⟨d8, F8⟩ := c.def_ 8 (d := dd "_check_branches" Pg.sCB) rfl
  obtain ⟨d9, F9⟩ := c.def_ 9 (d := dd "_is_saying" Pg.sSay) rfl
  obtain ⟨d10, F10⟩ := c.def_ 10 (d := dd "_is_branch" Pg.sBr) rfl
  obtain ⟨d11, F11⟩ := c.def_ 11 (d := dd "_places_of" Pg.sPl) rfl
  obtain ⟨d12, F12⟩ := c.def_ 12 (d := dd "_text_of" Pg.sTx) rfl
  obtain ⟨d13, F13⟩ := c.def_ 13 (d := dd "_words_of" Pg.sWd) rfl
  obtain ⟨d14, F14⟩ := c.def_ 14 (d := dd "_parts_of" Pg.sPa) rfl
  obtain ⟨d15, F15⟩ := c.def_ 15 (d := dd "_form_of" Pg.sFo) rfl
  obtain ⟨d16, F16⟩ := c.def_ 16 (d := dd "_law_begun" sBegun) rfl
  obtain ⟨d17, F17⟩ := c.def_ 17 (d := dd "_law_cast" sCast) rfl
  obtain ⟨d18, F18⟩ := c.def_ 18 (d := dd "_law_any_of" sAny) rfl
  obtain ⟨d19, F19⟩ := c.def_ 19 (d := dd "_law_tags" sTags) rfl
  obtain ⟨d20, F20⟩ := c.def_ 20 (d := dd "_law_wide" sWide) rfl
  obtain ⟨d21, F21⟩ := c.def_ 21 (d := dd "_law_form" sForm) rfl
  obtain ⟨d22, F22⟩ := c.def_ 22 (d := dd "_law_parts" sParts) rfl
  obtain ⟨d23, F23⟩ := c.def_ 23 (d := dd "_law_words" Pg.sLw) rfl
  obtain ⟨d24, F24⟩ := c.def_ 24 (d := dd "_law_arm_lines" Pg.sLa) rfl
  obtain ⟨d25, F25⟩ := c.def_ 25 (d := dd "_law_lines" Pg.sLl) rfl
  obtain ⟨d26, F26⟩ := c.def_ 26 (d := dd "_law_sheet" Pg.sLs) rfl
  obtain ⟨d27, F27⟩ := c.def_ 27 (d := dd "_law_spots" Pg.sSp) rfl
  obtain ⟨d28, F28⟩ := c.def_ 28 (d := dd "_law_thing" sThing) rfl
  obtain ⟨d29, F29⟩ := c.def_ 29 (d := dd "_law_answer" sAns) rfl
  obtain ⟨d30, F30⟩ := c.def_ 30 (d := dd "_law_is_whole" sWhole) rfl
  obtain ⟨d31, F31⟩ := c.def_ 31 (d := dd "_law_is_tag" sTag) rfl
  obtain ⟨d32, F32⟩ := c.def_ 32 (d := dd "_law_is_form" sLform) rfl
  obtain ⟨d33, F33⟩ := c.def_ 33 (d := dd "_law_is_arm" sArm) rfl
  obtain ⟨d34, F34⟩ := c.def_ 34 (d := dd "_law_wrong_tags" sWrongN) rfl
  obtain ⟨d35, F35⟩ := c.def_ 35 (d := dd "_law_wrong_says" sWrongS) rfl
  obtain ⟨d36, F36⟩ := c.def_ 36 (d := dd "_law_wrong_arms" sWrongA) rfl
  obtain ⟨d37, F37⟩ := c.def_ 37 (d := dd "_law_figure" sFig) rfl
  obtain ⟨d38, F38⟩ := c.def_ 38 (d := dd "_law_figures" sFigs) rfl
  obtain ⟨d39, F39⟩ := c.def_ 39 (d := dd "_law_read" sRead) rfl
  obtain ⟨d40, F40⟩ := c.def_ 40 (d := dd "_law_bent_said" sBs) rfl
  obtain ⟨d41, F41⟩ := c.def_ 41 (d := dd "_law_sort" sSort) rfl
  obtain ⟨d42, F42⟩ := c.def_ 42 (d := dd "_law_told" sTold) rfl
  obtain ⟨d43, F43⟩ := c.def_ 43 (d := dd "_law_right" sRight) rfl
  obtain ⟨d44, F44⟩ := c.def_ 44 (d := dd "law" sLaw) rfl
  obtain ⟨d45, F45⟩ := c.def_ 45 (d := dm "__init__" "Program.__init__" Pg.sIni) rfl
  obtain ⟨d46, F46⟩ := c.def_ 46 (d := dm "__str__" "Program.__str__" Pg.sStr) rfl
  obtain ⟨e0, E0⟩ := get 0 (gAt "names", "names", "Program.names", Pg.sGn) rfl
  obtain ⟨e1, E1⟩ := get 1 (gAt "sayings", "sayings", "Program.sayings", Pg.sGs) rfl
  obtain ⟨e2, E2⟩ := get 2 (gAt "branches", "branches", "Program.branches", Pg.sGb) rfl
  obtain ⟨e3, E3⟩ := get 3 (rAt, "read", "Program.read", Pg.sRd) rfl
  have ee := hfa.symm.trans (glo 44 "law" rfl)
  cases ee
  have b := FunD.bindsA (ps := ["_law_script"]) F44 fun _ _ _ _ _ _ us hl => match us, hl with | [_], _ => rfl
  have M0 : Pg.Mo mg := ⟨(free 50 "isinstance" rfl), (free 48 "int" rfl), (free 51 "bool" rfl), (free 52 "str" rfl), (free 53 "tuple" rfl), (free 46 "len" rfl), (free 54 "all" rfl), (free 55 "enumerate" rfl), (He.int_ok X G (c.fact 64 (f := .int "LONGEST_NAME" 8) rfl)), (He.str_ok X G (c.fact 71 (f := .str "LETTERS" Pg.letS) rfl)), (He.str_ok X G (c.fact 72 (f := .str "FIGURES" Pg.figS) rfl)), (He.int_ok X G (c.fact 65 (f := .int "MOST_NUMBER" 1000000) rfl)), (He.int_ok X G (c.fact 66 (f := .int "MOST_VARIABLES" 3) rfl)), (He.int_ok X G (c.fact 67 (f := .int "MOST_PLACES" 3) rfl)), (He.int_ok X G (c.fact 68 (f := .int "MOST_BRANCHES" 5) rfl)), (He.int_ok X G (c.fact 69 (f := .int "MOST_TESTS" 3) rfl)), (He.int_ok X G (c.fact 70 (f := .int "MOST_SAYINGS" 3) rfl))⟩
  have T1 : Bl mg := ⟨(free 46 "len" rfl), (free 47 "divmod" rfl), (free 48 "int" rfl), (free 49 "abs" rfl)⟩
  have Rg : RangeB mg := ⟨(free 56 "range" rfl), (free 53 "tuple" rfl)⟩
  have gP : mg "Program" = some (.ref (cP K)) := glo 45 "Program" rfl
  have XT : Pg.Txt K mg (cP K) := ⟨He.cls_ok (c.fact 73 (f := .cls "Program") rfl), noat 74 "_names" rfl, noat 75 "_sayings" rfl, noat 76 "_branches" rfl, noat 77 "_places" rfl, noat 78 "_text" rfl, gP⟩
  have J : Pg.Js K mg _ _ _ _ _ _ _ _ := ⟨F0, F1, F3, F4, (glo 0 "is_integer" rfl), (glo 1 "is_name" rfl), (glo 3 "is_form" rfl), (glo 4 "are_forms" rfl), ⟨_, _, F2, (glo 2 "are_integers" rfl)⟩⟩
  have D : Pg.Defs K mg _ _ _ _ _ _ _ _ _ _ _ _ _ _ _ _ _ _ _ _ _ _ _ _ _ _ _ _ _ _ := ⟨J, F5, F6, F7, F8, F9, F10, F11, F12, F13, F14, F15, (glo 5 "is_numeral" rfl), (glo 6 "_check_names" rfl), (glo 7 "_check_sayings" rfl), (glo 8 "_check_branches" rfl), (glo 9 "_is_saying" rfl), (glo 10 "_is_branch" rfl), (glo 11 "_places_of" rfl), (glo 12 "_text_of" rfl), (glo 13 "_words_of" rfl), (glo 14 "_parts_of" rfl), (glo 15 "_form_of" rfl)⟩
  have M : Pg.Mkr K (cP K) _ _ _ _ := ⟨He.mkr_ok (c.fact 80 (f := .mkr "Program") rfl), F45, F46, dun 79 "__str__" rfl⟩
  have Z : Rdr K (cP K) _ _ _ _ := ⟨Hx.readB_ok x3, Hx.cmB_ok x2, E3⟩
  have L : Tx K mg _ _ _ _ _ _ _ _ := ⟨F23, F24, F25, F26, (glo 23 "_law_words" rfl), (glo 24 "_law_arm_lines" rfl), (glo 25 "_law_lines" rfl), (glo 26 "_law_sheet" rfl)⟩
  have Gd : Dr K mg _ _ _ _ _ _ _ _ _ _ := ⟨F17, F18, F19, F20, F21, (glo 17 "_law_cast" rfl), (glo 18 "_law_any_of" rfl), (glo 19 "_law_tags" rfl), (glo 20 "_law_wide" rfl), (glo 21 "_law_form" rfl)⟩
  have su : mg "super" = none := (free 60 "super" rfl)
  have bas := fun r hr => Hz.base_ok (mg := mg) X G y1 r hr
  have er0 : Hz.Err (PySem.Challenge.rw_fallranks_k07_whole_texts_judged).prog K mg "InvalidText" "given" 0 := Hz.err_ok (st := eSt0) (by kernel_rfl) (by kernel_rfl) X G su (.inl rfl) (List.all_eq_true.mp y2 ("InvalidText", "given", 0, eSt0) (by simp [el])) (by have e2 := congrArg (fun l => l[0]?) c4; simpa [el, el0] using e2) eTx0
  have er1 : Hz.Err (PySem.Challenge.rw_fallranks_k07_whole_texts_judged).prog K mg "InvalidNames" "index" 0 := Hz.err_ok (st := eSt1) (by kernel_rfl) (by kernel_rfl) X G su (.inr rfl) (List.all_eq_true.mp y2 ("InvalidNames", "index", 0, eSt1) (by simp [el])) (by have e2 := congrArg (fun l => l[1]?) c4; simpa [el, el0] using e2) eTx1
  have er2 : Hz.Err (PySem.Challenge.rw_fallranks_k07_whole_texts_judged).prog K mg "InvalidSayings" "index" 0 := Hz.err_ok (st := eSt2) (by kernel_rfl) (by kernel_rfl) X G su (.inr rfl) (List.all_eq_true.mp y2 ("InvalidSayings", "index", 0, eSt2) (by simp [el])) (by have e2 := congrArg (fun l => l[2]?) c4; simpa [el, el0] using e2) eTx2
  have er3 : Hz.Err (PySem.Challenge.rw_fallranks_k07_whole_texts_judged).prog K mg "InvalidBranches" "index" 0 := Hz.err_ok (st := eSt3) (by kernel_rfl) (by kernel_rfl) X G su (.inr rfl) (List.all_eq_true.mp y2 ("InvalidBranches", "index", 0, eSt3) (by simp [el])) (by have e2 := congrArg (fun l => l[3]?) c4; simpa [el, el0] using e2) eTx3
  obtain ⟨x5, x7⟩ := Bool.and_eq_true_iff.mp x5
  obtain ⟨x8, x7⟩ := Bool.and_eq_true_iff.mp x7
  have ne : (He.cT K ("_law_right", none)).2 ≠ (He.cT K ("law", none)).2 := of_decide_eq_true x5
  have U2 : Bl2 mg := ⟨(free 57 "repr" rfl)⟩
  have U3 : Bl3 mg := ⟨(free 58 "max" rfl), (free 59 "min" rfl)⟩
  have US : BlS mg := ⟨(free 50 "isinstance" rfl), (free 57 "repr" rfl), (free 46 "len" rfl), (free 61 "ValueError" rfl), (free 62 "LookupError" rfl), (free 63 "ArithmeticError" rfl)⟩
  have BB : Bas K mg _ _ _ := ⟨bas 0 (by decide), bas 1 (by decide), bas 2 (by decide)⟩
  have ES0 : ErS K (Hz.eC K "InvalidText") (Hz.eW K 0) (Hz.eW K 1) (Hz.eW K 2) 0 "given" := ⟨er0.i, er0.xf, er0.e.no, by decide, er0.own 0 (by decide), er0.own 1 (by decide), er0.own 2 (by decide), er0.bas 0 (by decide), er0.bas 1 (by decide), er0.bas 2 (by decide), er0.any⟩
  have cr := fun (i j : Nat) (hi : i < 1) (hj : j < 1) => Hx.cross_ok x7 i j hi hj
  have ER : Errs K mg (Hz.eW K 0) (Hz.eW K 1) (Hz.eW K 2) (Hz.eC K "InvalidText") := ⟨er0.g, ES0, cr 0 0 (by decide) (by decide)⟩
  have EK0 : Pg.ErrK (PySem.Challenge.rw_fallranks_k07_whole_texts_judged).prog K mg "InvalidText" (Hz.eC K "InvalidText") (Hz.eW K 0) (Hz.eI K "InvalidText") "given" := ⟨er0.e, er0.g, er0.i.ex, er0.ty⟩
  have EK1 : Pg.ErrK (PySem.Challenge.rw_fallranks_k07_whole_texts_judged).prog K mg "InvalidNames" (Hz.eC K "InvalidNames") (Hz.eW K 0) (Hz.eI K "InvalidNames") "index" := ⟨er1.e, er1.g, er1.i.ex, er1.ty⟩
  have EK2 : Pg.ErrK (PySem.Challenge.rw_fallranks_k07_whole_texts_judged).prog K mg "InvalidSayings" (Hz.eC K "InvalidSayings") (Hz.eW K 0) (Hz.eI K "InvalidSayings") "index" := ⟨er2.e, er2.g, er2.i.ex, er2.ty⟩
  have EK3 : Pg.ErrK (PySem.Challenge.rw_fallranks_k07_whole_texts_judged).prog K mg "InvalidBranches" (Hz.eC K "InvalidBranches") (Hz.eW K 0) (Hz.eI K "InvalidBranches") "index" := ⟨er3.e, er3.g, er3.i.ex, er3.ty⟩
  have ca := fun (i : Nat) (hi : i < 3) => Hx.cat_ok x8 i hi
  have CT : Pg.Cat3 K mg (Hz.eC K "InvalidNames") (Hz.eC K "InvalidSayings") (Hz.eC K "InvalidBranches") := ⟨er1.g, er2.g, er3.g, ca 0 (by decide), ca 1 (by decide), ca 2 (by decide)⟩
  have Pr : Prs K (cP K) _ _ _ _ _ _ _ _ _ := ⟨prp "names" (by decide +kernel), prp "sayings" (by decide +kernel), prp "branches" (by decide +kernel), E0, E1, E2⟩
  have RS : Rs K mg _ _ _ _ _ _ _ _ _ _ _ _ _ _ _ _ _ _ _ _ := ⟨F37, F38, F31, F32, F30, F33, F27, F34, F35, F36, (glo 37 "_law_figure" rfl), (glo 38 "_law_figures" rfl), (glo 31 "_law_is_tag" rfl), (glo 32 "_law_is_form" rfl), (glo 30 "_law_is_whole" rfl), (glo 33 "_law_is_arm" rfl), (glo 27 "_law_spots" rfl), (glo 34 "_law_wrong_tags" rfl), (glo 35 "_law_wrong_says" rfl), (glo 36 "_law_wrong_arms" rfl)⟩
  have Bd : Df K mg _ _ _ _ _ _ _ _ _ _ _ _ _ _ := ⟨F22, F29, F41, F40, F28, F39, F42, (glo 22 "_law_parts" rfl), (glo 29 "_law_answer" rfl), (glo 41 "_law_sort" rfl), (glo 40 "_law_bent_said" rfl), (glo 28 "_law_thing" rfl), (glo 39 "_law_read" rfl), (glo 42 "_law_told" rfl)⟩
  refine ⟨_, fun s v => b s [v] rfl, fun base kb nb tB => ?_⟩
  have un : ∀ q ∈ ([((He.cT K ("_law_right", none)).2, lamQ), ((He.cT K ("law", none)).2, lamL)] : List (Addr × Str)), q = ((He.cT K ("_law_right", none)).2, lamQ) ∨ q = ((He.cT K ("law", none)).2, lamL) := fun q hq => by simpa using hq
  have GR := Pg.ok_rdV (P := (PySem.Challenge.rw_fallranks_k07_whole_texts_judged).prog) (w := w) (base := base)  Z.f M0 XT D M EK1 EK2 EK3 EK0 CT
  have GRI := ok_right (P := (PySem.Challenge.rw_fallranks_k07_whole_texts_judged).prog) (w := w) (base := base) (LT := [((He.cT K ("_law_right", none)).2, lamQ), ((He.cT K ("law", none)).2, lamL)]) F43 T1 Rg U2 M0 Gd XT Z GR L Pr Bd RS BB ER US (tB ("_law_right", none) (by simp [tf])) (List.mem_cons_self ..) (fun q hq e => by rcases un q hq with rfl | rfl; exact rfl; exact absurd e.symm ne) fun c hc => hc.of.symm
  exact ok_law F44 T1 Rg M0 U3 U2 F16 (glo 16 "_law_begun" rfl) F43 (glo 43 "_law_right" rfl) GRI F29 (glo 29 "_law_answer" rfl) F41 (glo 41 "_law_sort" rfl) XT D M Z GR Pr.b Pr.fb BB ER US (tB ("law", none) (by simp [tf])) (List.mem_cons_of_mem _ (List.mem_cons_self ..)) (fun q hq e => by rcases un q hq with rfl | rfl; exact absurd e ne; exact rfl) fun c hc => hc.of.symm
end K5
open PySem PySem.W PySem.Calls PyProof.Rows
theorem PySem.Challenge.cw_fallranks_k07_whole_texts_judged_holds : PySem.Challenge.rw_fallranks_k07_whole_texts_judged.Holds := by
  w_on; o_law
  refine HandSHeadRun.head_any (r := OpenLaw.row PySem.Challenge.rw_fallranks_k07_whole_texts_judged) (q := view (OpenLaw.row PySem.Challenge.rw_fallranks_k07_whole_texts_judged).prog [66]) (H := K5.hk) (ob := K5.ob) (M := 12000) (loose := K5.names) (d := HandSHeadRun.topDef (OpenLaw.row PySem.Challenge.rw_fallranks_k07_whole_texts_judged).prog 66) (kwd := []) K5.ob_eq
    (by kernel_rfl) (fun s => by kernel_rfl) K5.run (by kernel_rfl) (by kernel_rfl) (by kernel_rfl) (by rfl) (by first | assumption | decide +kernel) (by decide +kernel) ⟨rfl, rfl, rfl, rfl, rfl, by decide +kernel⟩ ?hw ?hc
  case hw => w_witness2
  case hc =>
    refine Gd.walk_GT (l := PySem.Challenge.rw_fallranks_k07_whole_texts_judged) (n := 63) (k := 14) (x := "_law_script") rfl (by decide) (by kernel_rfl) ⟨rfl, by decide, by decide⟩ ?F
    intro w mg fa h Y G hmg0
    obtain ⟨K, KX, c, tb⟩ := Y
    have hmg : mg ("law" : PySem.Str) = some (.ref fa) := by
      have e : (HandSHeadRun.topDef (OpenLaw.row PySem.Challenge.rw_fallranks_k07_whole_texts_judged).prog 66).name = ("law" : PySem.Str) := by kernel_rfl
      rw [← e]
      exact hmg0
    obtain ⟨fd, hb, hF⟩ := K5.facts (w := w) KX G hmg c
    refine ⟨K, fd, K5.spLaw K [((He.cT K ("_law_right", none)).2, K5.lamQ), ((He.cT K ("law", none)).2, K5.lamL)], K5.tf.map fun p => He.cT K p, KX, ⟨fun q hq => ?_, fun q hq => ?_, fun q hq => ?_⟩, hb, fun H a ns hl hbits hH hS => ⟨a, ns, rfl, hS, hl, hbits, fun q hq => ?_, fun _ => rfl⟩, fun base kb nb tB => hF base kb nb fun p hp => tB _ (List.mem_map.mpr ⟨p, hp, rfl⟩)⟩
    · obtain ⟨p, hp, rfl⟩ := List.mem_map.mp hq
      exact (tb p hp).2.2
    · obtain ⟨p, hp, rfl⟩ := List.mem_map.mp hq
      exact (tb p hp).2.1
    · obtain ⟨p, hp, rfl⟩ := List.mem_map.mp hq
      exact PySem.W.codeHd_of_K KX (tb p hp).1
    · simp only [List.mem_cons, List.not_mem_nil, or_false] at hq
      rcases hq with rfl | rfl
      · exact LamX.TabS.nil (hH _ (List.mem_map.mpr ⟨("_law_right", none), by simp [K5.tf], rfl⟩))
      · exact LamX.TabS.nil (hH _ (List.mem_map.mpr ⟨("law", none), by simp [K5.tf], rfl⟩))
